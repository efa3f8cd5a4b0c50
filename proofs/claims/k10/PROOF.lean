import PyProof.Rows.All
import Wide.All
import OpenK.AllK
import Wide.FinOn
import Lean
import PyProof.EqAt
import PyProof.EqKinds
import PyProof.TupleCall
import PyProof.ListRange
import PyProof.ReprRoads
import PyProof.SeqI3
import PySem.Challenge.RW_papercircle_k10_first_rows_best

open List renaming getElem?_map→Qa,getElem?_eq_some_iff→Qc,mem_append→Qe,mem_append_right→Qf,mem_of_getElem?→Qg,getElem?_eq_getElem→Qh,mem_append_left→Qi,nodup_append→Qj,mem_map→Qk,map_cons→Ql,getElem?_set→Qm,length_map→Qn,getElem?_append_left→Qo,mem_cons_of_mem→Qp,append_assoc→Qq,mem_cons_self→Qs,map_append→Qv,perm_iff_count→Qw,length_append→Qx,mem_singleton→Qy,mem_iff_getElem?→Qz,mem_filter→Ja,mem_cons→Jb,getElem?_append_right→Jd,nil_append→Je,filter_sublist→Jf,size_toArray→Jg,cons_append→Jh,nodup_cons→Ji,count_append→Jj,map_map→Jk,append_nil→Jl,getElem?_eq_none→Jm,getD_eq_getElem?_getD→Jp,length_cons→Jq,length_replicate→Jr,length_filter_le→Js,flatMap_cons→Ju,take_add_one→Jv,filter_append→Jx,take_length→Jy,ext_getElem?→Jz,map_set→Wa,foldl_cons→Wb,filterMap_cons→Wc,getElem?_set_ne→Wd,map_congr_left→Wf,length_singleton→Wg,perm_append_comm→Wh,length_take→Wi,lookup_cons→Wj,cons→Wk,filter_cons→Wl,map_nil→Wm,nodup_nil→Wo,singleton_append→Wq,getElem?_replicate→Wr,getElem?_cons_zero→Ws,getElem_inj→Wu,mem_range→Wv
open PySem.W renaming Frag→Qd
open Bool renaming false_ne_true→Qt,and_eq_true→Jt,false_eq_true→We
open Nat renaming le_refl→Qu,lt_of_lt_of_le→Jc,ne_of_lt→Jo,lt_irrefl→Jw,lt_succ_of_lt→Wn,le_trans→Wt
set_option Elab.async false
set_option linter.all false
set_option maxRecDepth 100000

namespace L2
open PySem PySem.Spec PyProof.Rows
noncomputable abbrev Key:=Sum Int Str
noncomputable def keyIs:Key→Value→Bool
 | .inl k,v=>Value.isInt k v
 | .inr x,v=>Value.isStrOf x v
noncomputable def keyH(w:World):Key→Int
 | .inl k=>hashInt k
 | .inr x=>hashStr w x
theorem Z273:∀ {k:Key} {v:Value},keyIs k v=true→(∃ i t,k=Sum.inl i∧v=Value.int i t)∨(∃ x t,k=Sum.inr x∧v=Value.str x t)
 | .inl i,v,h=>by
  obtain ⟨t,e⟩:=Value.isInt_shape (k:=i) (v:=v) h
  exact .inl ⟨i,t,rfl,e⟩
 | .inr x,v,h=>by
  obtain ⟨t,e⟩:=Value.isStrOf_shape (x:=x) (v:=v) h
  exact .inr ⟨x,t,rfl,e⟩
theorem Z272(i:Int)(t:Tok):keyIs (.inl i) (.int i t)=true:=by simp [keyIs,Value.isInt]
theorem Z274(x:Str)(t:Tok):keyIs (.inr x) (.str x t)=true:=by simp [keyIs,Value.isStrOf]
theorem Z275(a b:Int):decide ((Sum.inl a:Key)=Sum.inl b)=(a == b):=by
 by_cases e:a=b
 ·subst e;simp
 ·have h:¬ (Sum.inl a:Key)=Sum.inl b:=fun q=>e (Sum.inl.inj q)
  rw [decide_eq_false h]
  exact (beq_eq_false_iff_ne.mpr e).symm
theorem Z280(a b:Str):decide ((Sum.inr a:Key)=Sum.inr b)=decide (a=b):=by
 by_cases e:a=b
 ·subst e;simp
 ·have h:¬ (Sum.inr a:Key)=Sum.inr b:=fun q=>e (Sum.inr.inj q)
  rw [decide_eq_false h,decide_eq_false e]
theorem Z276(a:Int)(b:Str):decide ((Sum.inl a:Key)=Sum.inr b)=false:=decide_eq_false (fun q=>nomatch q)
theorem Z279(a:Str)(b:Int):decide ((Sum.inr a:Key)=Sum.inl b)=false:=decide_eq_false (fun q=>nomatch q)
noncomputable def mixKind(prog:Program)(w:World):PySem.KeyKind prog w Key where
 is:=keyIs
 hash:=keyH w
 inj:=fun v a b ha hb=>by
  rcases Z273 ha with ⟨i,t,rfl,rfl⟩ | ⟨x,t,rfl,rfl⟩
  ·rcases Z273 hb with ⟨j,u,rfl,e⟩ | ⟨y,u,rfl,e⟩
   ·injection e with e1 _;rw [e1]
   ·exact nomatch e
  ·rcases Z273 hb with ⟨j,u,rfl,e⟩ | ⟨y,u,rfl,e⟩
   ·exact nomatch e
   ·injection e with e1 _;rw [e1]
 byValue:=fun k v h=>by
  rcases Z273 h with ⟨i,t,rfl,rfl⟩ | ⟨x,t,rfl,rfl⟩ <;> rfl
 pyHash:=fun hv h=>by
  rcases Z273 hv with ⟨i,t,rfl,rfl⟩ | ⟨x,t,rfl,rfl⟩
  ·exact wpAny_pyHash_int h
  ·exact wpAny_pyHash_str h
 eqBool:=fun hu hv h=>by
  rcases Z273 hu with ⟨i,t,rfl,rfl⟩ | ⟨x,t,rfl,rfl⟩
  ·rcases Z273 hv with ⟨j,u,rfl,rfl⟩ | ⟨y,u,rfl,rfl⟩
   ·rw [Z275] at h;exact wpAny_eqBool_int h
   ·rw [Z276] at h;exact SeqAt.EqAt.int_str i t y u _ _ _ _ h
  ·rcases Z273 hv with ⟨j,u,rfl,rfl⟩ | ⟨y,u,rfl,rfl⟩
   ·rw [Z279] at h;exact SeqAt.EqAt.str_int x t j u _ _ _ _ h
   ·rw [Z280] at h;exact wpAny_eqBool_str h
 «strs»:=fun k x t v h=>by
  rcases Z273 h with ⟨i,u,rfl,e⟩ | ⟨y,u,rfl,e⟩
  ·exact nomatch e
  ·injection e with e1 _
   subst e1
   cases v <;> rfl
theorem Z370(prog:Program)(w:World)(i:Int)(t:Tok):(mixKind prog w).is (.inl i) (.int i t)=true:=Z272 i t
theorem Z371(prog:Program)(w:World)(x:Str)(t:Tok):(mixKind prog w).is (.inr x) (.str x t)=true:=Z274 x t
end L2
namespace L2
open PySem PySem.Spec PyProof.Rows
inductive V where
 | non | bl (b:Bool) | int (i:Int) | str (x:Str) | byt (b:Array UInt8) | flt (b:UInt64) | ref (a:Addr) | ty (n:String)
 deriving DecidableEq
noncomputable def RelV:V→Value→Prop
 | .non,u=>u=Value.none
 | .bl b,u=>u=Value.bool b
 | .int i,u=>∃ t,u=Value.int i t
 | .str x,u=>∃ t,u=Value.str x t
 | .byt b,u=>∃ t,u=Value.bytes b t
 | .flt b,u=>∃ t,u=Value.float b t
 | .ref a,u=>u=Value.ref a
 | .ty n,u=>u=Value.type n
noncomputable abbrev Vals:List V→List Value→Prop:=Paired RelV
theorem Vals.length{xs:List V}{us:List Value}(r:Vals xs us):xs.length=us.length:=Paired.length r
theorem Vals.get:∀ {xs:List V} {us:List Value} {i:Nat} {x:V},Vals xs us→xs[i]?=some x→∃ u,us[i]?=some u∧RelV x u
 | _,_,_,_,.nil,e=>by simp at e
 | _,_,0,_,.cons r _,e=>by simp at e;subst e;exact ⟨_,rfl,r⟩
 | _,_,i + 1,x,.cons _ t,e=>by
  obtain ⟨u,h1,h2⟩:=Vals.get (i:=i) (x:=x) t (by simpa using e)
  exact ⟨u,by simpa using h1,h2⟩
theorem Vals.set{x:V}{u:Value}(r:RelV x u):∀ {xs:List V} {us:List Value} (i:Nat),Vals xs us→Vals (xs.set i x) (us.set i u)
 | _,_,_,.nil=>.nil
 | _,_,0,.cons _ t=>.cons r t
 | _,_,i + 1,.cons q t=>.cons q (Vals.set r i t)
theorem Vals.append:∀ {xs ys:List V} {us ws:List Value},Vals xs us→Vals ys ws→Vals (xs++ys) (us++ws)
 | _,_,_,_,.nil,s=>s
 | _,_,_,_,.cons r t,s=>.cons r (Vals.append t s)
theorem Vals.take:∀ {xs:List V} {us:List Value} (n:Nat),Vals xs us→Vals (xs.take n) (us.take n)
 | _,_,0,_=>.nil
 | _,_,_ + 1,.nil=>.nil
 | _,_,n + 1,.cons r t=>.cons r (Vals.take n t)
theorem Vals.drop:∀ {xs:List V} {us:List Value} (n:Nat),Vals xs us→Vals (xs.drop n) (us.drop n)
 | _,_,0,r=>r
 | _,_,_ + 1,.nil=>.nil
 | _,_,n + 1,.cons _ t=>Vals.drop n t
noncomputable def RelO:Option V→Option Value→Prop
 | some v,some u=>RelV v u
 | none,none=>True
 | _,_=>False
noncomputable def KV{κ:Type}:List (κ×V)→List (κ×Value)→Prop:=Paired fun (p:κ×V) (q:κ×Value)=>p.1=q.1∧RelV p.2 q.2
noncomputable def kV:Key→V
 | .inl i=>.int i
 | .inr x=>.str x
inductive HO where
 | lst (xs:List V)
 | tup (xs:List V)
 | dK (kvs:List (Key×V)) | dT (kvs:List (List Key×V))
 | set (S:Int→Bool) (n:Nat)
 | ins (C dx:Addr) (fs:List (Str×V))
 | own (x:Addr)
 | xd (fs:List (Str×V))
 | met (f x:Addr)
 | rng (lo hi:Int)
 | frz (o:Obj) (u:HO)
 | tbl (ps:Array Value)
 | ext (φ:Heap→Prop)
noncomputable abbrev Hp:=Addr→Option HO
noncomputable def upd(H:Hp)(a:Addr)(o:HO):Hp:=fun b=>if b=a then some o else H b
theorem Z647{H:Hp}{a:Addr}{o:HO}:upd H a o a=some o:=by unfold upd;rw [if_pos rfl]
theorem Z646{H:Hp}{a b:Addr}{o:HO}(h:b≠a):upd H a o b=H b:=by unfold upd;rw [if_neg h]
theorem ne_of{H:Hp}{a b:Addr}{o u:HO}(h:H a=some o)(h':H b=some u)(d:o≠u):a≠b:=by
 intro e;subst e;rw [h] at h';exact d (Option.some.inj h')
theorem Z396{H:Hp}{a b:Addr}{o:HO}(h:H a=some o)(h':H b=none):a≠b:=by
 intro e;subst e;rw [h] at h';cases h'
section
variable (P:Program)(w:World)
noncomputable def ObjOk(H:Hp)(h:Heap)(a:Addr):HO→Prop
 | .lst xs=>xs.length≤sizeLine∧∃ (its:List Value) (n:Nat),Vals xs its∧h.get? a=some { cls:=.type "list",data:=.seq its.toArray n }
 | .tup xs=>xs.length≤sizeLine∧∃ its:List Value,Vals xs its∧IsTup h a its.toArray
 | .dK kvs=>kvs.length≤sizeLine∧(a == sysModules)=false∧∃ vs,KV kvs vs∧h.DictOf (mixKind P w) a vs
 | .dT kvs=>kvs.length≤sizeLine∧(a == sysModules)=false∧∃ xs:List (List Key×Addr×Value),
   Paired (fun (p:List Key×V) (q:List Key×Addr×Value)=>p.1=q.1∧H q.2.1=some (.tup (p.1.map kV))∧RelV p.2 q.2.2) kvs xs ∧
   ∃ o es ep,h.get? a=some o∧o.ExactDict∧o.data=.dict es ep∧es.toList=xs.map (entryOfKey (tupleKind (mixKind P w)))∧(xs.map (·.1)).Nodup
 | .set S n=>h.SetOf (intKind P w) a S n
 | .ins C dx fs=>H dx=some (.own a)∧fs.length≤1000∧dx≠a∧h.get? a=some (PySem.W.instObj C dx) ∧
   ∃ mA,h.Ns1 dx mA∧(∀ f,RelO (fs.lookup f) (mA f))∧PySem.Within mA (fs.map (·.1))
 | .own _=>∃ o,h.get? a=some o
 | .xd fs=>∃ mA,h.Ns1 a mA∧∀ f,RelO (fs.lookup f) (mA f)
 | .rng lo hi=>∃ t u v,h.get? a=some { cls:=.type "range",data:=.fields #[.int lo t,.int hi u,.int 1 v] }
 | .frz o u=>h.get? a=some o∧ObjOk H h a u
 | .tbl ps=>h.get? a=some { cls:=.none,data:=.fields ps }
 | .met f x=>h.get? a=some (PySem.W.methodObj (.ref f) (.ref x))
 | .ext φ=>φ h∧(∃ o,h.get? a=some o)∧∀ h1 h2:Heap,φ h1→(∀ o,h1.get? a=some o→h2.get? a=some o)→φ h2
noncomputable def HOk(H:Hp)(h:Heap):Prop:=∀ a o,H a=some o→ObjOk P w H h a o
end
section
variable {P:Program}{w:World}{H H':Hp}{h h':Heap}{a:Addr}{o:HO}
theorem ObjOk.lt(x:ObjOk P w H h a o):a < h.objs.size:=by
 cases o with
 | lst xs=>obtain ⟨_,_,_,_,e⟩:=x;exact Heap.lt_size e
 | tup xs=>obtain ⟨_,_,_,p⟩:=x;exact p.lt
 | dK kvs=>obtain ⟨_,_,_,_,o,_,_,e,_⟩:=x;exact Heap.lt_size e
 | dT kvs=>obtain ⟨_,_,_,_,o,_,_,e,_⟩:=x;exact Heap.lt_size e
 | set S n=>obtain ⟨o,_,_,_,e,_⟩:=x;exact Heap.lt_size e
 | ins C dx fs=>obtain ⟨_,_,_,e,_⟩:=x;exact Heap.lt_size e
 | own y=>obtain ⟨_,e⟩:=x;exact Heap.lt_size e
 | xd fs=>obtain ⟨_,⟨_,_,_,e,_⟩,_⟩:=x;exact Heap.lt_size e
 | rng lo hi=>obtain ⟨_,_,_,e⟩:=x;exact Heap.lt_size e
 | frz ob u=>obtain ⟨e,_⟩:=x;exact Heap.lt_size e
 | tbl ps=>exact Heap.lt_size (show h.get? a=some _ from x)
 | met f y=>exact Heap.lt_size (show h.get? a=some _ from x)
 | ext φ=>obtain ⟨_,⟨_,e⟩,_⟩:=x;exact Heap.lt_size e
theorem Paired.mapP{α β:Type}{F G:α→β→Prop}:∀ {l₁:List α} {l₂:List β},Paired F l₁ l₂→(∀ a b,F a b→G a b)→Paired G l₁ l₂
 | _,_,.nil,_=>.nil
 | _,_,.cons r t,f=>.cons (f _ _ r) (Paired.mapP t f)
theorem ObjOk.stay(x:ObjOk P w H h a o)(k:∀ b u,(b=a∨H b=some (.own a))→h.get? b=some u→h'.get? b=some u)
  (ho:∀ b,H b=some (.own a)→H' b=some (.own a)) (ht:∀ b xs,H b=some (.tup xs)→H' b=some (.tup xs)):ObjOk P w H' h' a o:=by
 induction o with
 | lst xs=>obtain ⟨z,its,n,r,e⟩:=x;exact ⟨z,its,n,r,k _ _ (.inl rfl) e⟩
 | tup xs=>obtain ⟨z,its,r,ob,e,c⟩:=x;exact ⟨z,its,r,ob,k _ _ (.inl rfl) e,c⟩
 | dK kvs=>obtain ⟨z,y,vs,r,ob,es,ep,e,c⟩:=x;exact ⟨z,y,vs,r,ob,es,ep,k _ _ (.inl rfl) e,c⟩
 | dT kvs =>
  obtain ⟨z,y,xs,r,ob,es,ep,e,c⟩:=x
  exact ⟨z,y,xs,Paired.mapP r fun p q z=>⟨z.1,ht _ _ z.2.1,z.2.2⟩,ob,es,ep,k _ _ (.inl rfl) e,c⟩
 | set S n=>obtain ⟨ob,es,ep,t,e,c⟩:=x;exact ⟨ob,es,ep,t,k _ _ (.inl rfl) e,c⟩
 | ins C dx fs =>
  obtain ⟨d,z,ne,e,mA,⟨od,es,ep,e2,c⟩,r⟩:=x
  exact ⟨ho _ d,z,ne,k _ _ (.inl rfl) e,mA,⟨od,es,ep,k _ _ (.inr d) e2,c⟩,r⟩
 | own y=>obtain ⟨ob,e⟩:=x;exact ⟨ob,k _ _ (.inl rfl) e⟩
 | xd fs=>obtain ⟨mA,⟨od,es,ep,e,c⟩,r⟩:=x;exact ⟨mA,⟨od,es,ep,k _ _ (.inl rfl) e,c⟩,r⟩
 | rng lo hi=>obtain ⟨t,u,v,e⟩:=x;exact ⟨t,u,v,k _ _ (.inl rfl) e⟩
 | frz ob u ih=>obtain ⟨e,q⟩:=x;exact ⟨k _ _ (.inl rfl) e,ih q⟩
 | tbl ps =>
  have e:h.get? a=some { cls:=.none,data:=.fields ps }:=x
  show h'.get? a=some { cls:=.none,data:=.fields ps }
  exact k a _ (.inl rfl) e
 | met f y =>
  have e:h.get? a=some (PySem.W.methodObj (.ref f) (.ref y)):=x
  show h'.get? a=some (PySem.W.methodObj (.ref f) (.ref y))
  exact k a _ (.inl rfl) e
 | ext φ=>obtain ⟨p,⟨o,e⟩,st⟩:=x;exact ⟨st _ _ p fun o q=>k _ _ (.inl rfl) q,⟨o,k _ _ (.inl rfl) e⟩,st⟩
theorem HOk.lt(x:HOk P w H h)(e:H a=some o):a < h.objs.size:=(x a o e).lt
theorem HOk.fresh(x:HOk P w H h)(e:h.objs.size≤a):H a=none:=by
 cases q:H a with
 | none=>rfl
 | some u=>exact absurd (Jc (x.lt q) e) (Jw _)
theorem HOk.kept(x:HOk P w H h)(k:∀ b u,h.get? b=some u→h'.get? b=some u):HOk P w H h':=fun a o e =>
 (x a o e).stay (fun b u _ q=>k b u q) (fun _ q=>q) fun _ _ q=>q
theorem HOk.laid(x:HOk P w H h)(k:∀ b u,h.get? b=some u→h'.get? b=some u)(hp:h.objs.size≤a)(new:ObjOk P w (upd H a o) h' a o):HOk P w (upd H a o) h':=fun b u e=>by
 have hn:=x.fresh hp
 by_cases hb:b=a
 ·subst hb;rw [Z647] at e;cases e;exact new
 ·rw [Z646 hb] at e
  exact (x b u e).stay (fun c v _ q=>k c v q) (fun c q=>by rw [Z646 (Z396 q hn)];exact q) fun c xs q=>by rw [Z646 (Z396 q hn)];exact q
end
noncomputable def Rd(H:Hp)(a:Addr)(u:HO):Prop:=H a=some u∨∃ o,H a=some (.frz o u)
theorem Rd.ok{P:Program}{w:World}{H:Hp}{h:Heap}{a:Addr}{u:HO}(r:Rd H a u)(x:HOk P w H h):ObjOk P w H h a u:=by
 rcases r with r | ⟨o,r⟩
 ·exact x a u r
 ·obtain ⟨_,q⟩:=x a _ r
  exact q
noncomputable def Mut:Option HO→Prop
 | some (.lst _)=>True
 | some (.dK _)=>True
 | some (.dT _)=>True
 | some (.set _ _)=>True
 | some (.ins _ _ _)=>True
 | some (.ext _)=>True
 | _=>False
section
variable {P:Program}{w:World}{H:Hp}{h h':Heap}{x e:Addr}{o':HO}
theorem HOk.write(ok:HOk P w H h)(mu:Mut (H x))(he:e=x∨H e=some (.own x))(k:∀ b u,b≠e→h.get? b=some u→h'.get? b=some u)(heo:∃ u,h'.get? e=some u)
  (new:ObjOk P w (upd H x o') h' x o'):HOk P w (upd H x o') h':=fun b u q=>by
 have nown:∀ c y,H c=some (.own y)→c≠x:=fun c y r z=>by subst z;rw [r] at mu;exact mu
 have ntup:∀ c xs,H c=some (.tup xs)→c≠x:=fun c xs r z=>by subst z;rw [r] at mu;exact mu
 by_cases hb:b=x
 ·subst hb;rw [Z647] at q;cases q;exact new
 ·rw [Z646 hb] at q
  by_cases hbe:b=e
  ·have q':H b=some (.own x):=by
    rcases he with z | z
    ·exact absurd (hbe.trans z) hb
    ·rw [hbe];exact z
   rw [q] at q';cases q'
   obtain ⟨v,hv⟩:=heo
   exact ⟨v,by rw [hbe];exact hv⟩
  ·refine (ok b u q).stay (fun c v hc r=>k c v ?_ r) (fun c r=>by rw [Z646 (nown c b r)];exact r) fun c xs r=>by rw [Z646 (ntup c xs r)];exact r
   rcases hc with rfl | hc
   ·exact hbe
   ·rintro rfl
    rcases he with z | z
    ·exact nown c b hc z
    ·rw [hc] at z;cases z;exact hb rfl
end

structure Un(fs ex:List Addr)(H H':Hp)(h h':Heap):Prop where
 keep:∀ b o,h.get? b=some o→H b=none→b∉fs→b∉ex→h'.get? b=some o
 slot:∀ b o,h.get? b=some o→H b=none→b∈fs→b∉ex→∃ sl,h'.get? b=some { o with slots:=sl }
 free:∀ b o,h.get? b=some o→H b=none→b∉ex→H' b=none
 there:∀ b o,h.get? b=some o→b∉ex→∃ o',h'.get? b=some o'
 tups:∀ b xs,H b=some (.tup xs)→H' b=some (.tup xs)
 frzs:∀ b o u,H b=some (.frz o u)→H' b=some (.frz o u)
 tbls:∀ b ps,H b=some (.tbl ps)→∃ more,H' b=some (.tbl (ps++more))
section
variable {fs fs' ex ex':List Addr}{H H1 H2:Hp}{h h1 h2 h':Heap}{a x e:Addr}{o:HO}
theorem Un.any(u:Un fs ex H H1 h h1){b:Addr}{ob:Obj}(q:h.get? b=some ob)(n:H b=none)(hx:b∉ex):∃ sl,h1.get? b=some { ob with slots:=sl }:=by
 by_cases hb:b∈fs
 ·exact u.slot b ob q n hb hx
 ·exact ⟨ob.slots,u.keep b ob q n hb hx⟩
theorem Un.kept(k:∀ b u,h.get? b=some u→h'.get? b=some u):Un fs ex H H h h' :=
 ⟨fun b ob q _ _ _=>k b ob q,fun b ob q _ _ _=>⟨ob.slots,k b ob q⟩,fun _ _ _ n _=>n,fun b ob q _=>⟨ob,k b ob q⟩,fun _ _ q=>q,fun _ _ _ q=>q,fun _ ps q=>⟨#[],by rw [q];simp⟩⟩
theorem Un.refl:Un fs ex H H h h:=Un.kept fun _ _ q=>q
theorem Un.laid(k:∀ b u,h.get? b=some u→h'.get? b=some u)(hp:h.objs.size≤a)(hn:H a=none):Un fs ex H (upd H a o) h h' where
 keep:=fun b u q _ _ _=>k b u q
 slot:=fun b u q _ _ _=>⟨u.slots,k b u q⟩
 free:=fun b u q n _=>by rw [Z646 (Jo (Jc (Heap.lt_size q) hp))];exact n
 there:=fun b u q _=>⟨u,k b u q⟩
 tups:=fun b xs q=>by rw [Z646 (Z396 q hn)];exact q
 frzs:=fun b u xs q=>by rw [Z646 (Z396 q hn)];exact q
 tbls:=fun b ps q=>⟨#[],by rw [Z646 (Z396 q hn),q];simp⟩
theorem Un.write(mu:Mut (H x))(he:e=x∨H e=some (.own x))(k:∀ b u,b≠e→h.get? b=some u→h'.get? b=some u)(heo:∃ u,h'.get? e=some u):Un fs ex H (upd H x o) h h':=by
 have hx:∀ b,H b=none→b≠x:=fun b n z=>by subst z;rw [n] at mu;exact mu
 have hb:∀ b,H b=none→b≠e:=fun b n z=>by
  subst z
  rcases he with r | r
  ·exact hx b n r
  ·rw [n] at r;cases r
 have hm:∀ b u,H b=some u→¬ Mut (some u)→b≠x:=fun b u q nm z=>by subst z;rw [q] at mu;exact nm mu
 refine ⟨fun b u q n _ _=>k b u (hb b n) q,fun b u q n _ _=>⟨u.slots,k b u (hb b n) q⟩,fun b u q n _=>by rw [Z646 (hx b n)];exact n,fun b u q _=>?_,
  fun b xs q=>by rw [Z646 (hm b _ q fun z=>z)];exact q,fun b u xs q=>by rw [Z646 (hm b _ q fun z=>z)];exact q,fun b ps q=>⟨#[],by rw [Z646 (hm b _ q fun z=>z),q];simp⟩⟩
 by_cases hbe:b=e
 ·subst hbe;exact heo
 ·exact ⟨u,k b u hbe q⟩
end

noncomputable def trk(h:Heap)(H:Hp):List Addr:=(List.range h.objs.size).filter fun a=>(H a).isSome
noncomputable def hidT(h:Heap)(H:Hp):Heap:=PySem.W.hideAll h (trk h H)
theorem Z228(h:Heap)(H:Hp):(hidT h H).objs.size=h.objs.size:=PySem.W.hideAll_size _ _
theorem Z227{h:Heap}{H:Hp}{b:Addr}{o:Obj}(e:h.get? b=some o)(n:H b=none):(hidT h H).get? b=some o :=
 PySem.W.hideAll_get _ e fun hm=>by
  have q:(H b).isSome=true:=(Ja.mp hm).2
  rw [n] at q;simp at q
theorem Z401{h:Heap}{H:Hp}{b:Addr}{o:Obj}(e:(hidT h H).get? b=some o):h.get? b=some o∧H b=none:=by
 have e':h.get? b=some o:=PySem.W.of_hideAll (trk h H) e
 refine ⟨e',?_⟩
 cases q:H b with
 | none=>rfl
 | some x =>
  have hm:b∈trk h H:=Ja.mpr ⟨Wv.mpr (Heap.lt_size e'),by simp [q]⟩
  have z:(hidT h H).get? b=none:=PySem.W.hideAll_none (trk h H) hm
  rw [z] at e;cases e

noncomputable def allNews(g h:Heap)(L:Addr):List (Addr×Obj):=(List.range h.objs.size).filterMap fun a=>if a=L∨(g.get? a).isSome=true then none else (h.get? a).map fun o=>(a,o)
noncomputable def rest(g h:Heap)(L d:Addr):List (Addr×Obj):=(allNews g h L).filter fun p=>decide (p.1≠d)
end L2
namespace L2
open PySem PySem.Spec PyProof.Rows
structure Mod(K:Qd)(mg:Str→Option Value)(base:Heap):Prop where
 kin:K.In base
 glob:base.Ns mainGlobals mg
 blt:∃ mb,base.Ns builtinsNs mb∧∀ x:Str,x ≠ "__name__"→mb x=bootBuiltins x
 nolimit:base.NoLimit
structure Cx where
 prog:Program
 w:World
 K:Qd
 mg:Str→Option Value
 base:Heap
 A:Around
 N:List Str
 s₀:Shared
 H₀:Hp
 env:Env
 outer:List Env
 stack:List Env
 ex:List Addr
 fn:Str→Bool
 calm:Bool
 pn:List (Addr×Obj)
 xe:Value→Shared→Prop
noncomputable def frs(l:List Env):List Addr:=l.filterMap (·.frame)
noncomputable abbrev Cx.fs(X:Cx):List Addr:=frs X.outer
noncomputable def Vis(sc:Scope)(x:Str):Prop:=sc.names.lookup x=some .local∨sc.names.lookup x=some .cell∨sc.names.lookup x=some .free
noncomputable def Loc(sc:Scope)(x:Str):Prop:=sc.names.lookup x=some .local∨sc.names.lookup x=some .cell
noncomputable def Look(env:Env)(h:Heap)(m:Str→Option Value)(x:Str)(u:Value):Prop :=
 (env.kindOf x=some .local∧m x=some u)∨((env.kindOf x=some .cell∨env.kindOf x=some .free)∧∃ c,env.cells.lookup x=some c∧h.IsCell c (some u))
structure Cx.Ok(X:Cx):Prop where
 mod:Mod X.K X.mg X.base
 kind:X.env.scope.kind=.function
 glob:X.env.globals=mainGlobals
 blt:X.env.builtins=builtinsNs
 above:X.s₀.heap.objs.size≤X.env.locals
 inj:∀ x y c,X.env.cells.lookup x=some c→X.env.cells.lookup y=some c→x=y
 has:∀ x,(X.env.kindOf x=some .cell∨X.env.kindOf x=some .free)→∃ c,X.env.cells.lookup x=some c
 cab:∀ x c,X.fn x=true→X.env.cells.lookup x=some c→X.s₀.heap.objs.size≤c
 hd:X.calm=true→X.A.handled=none
 frames:X.A.frames=some X.stack
 stk:X.stack=X.outer∨(X.stack=X.env::X.outer∧X.env.frame=some X.env.locals)
 exf:∀ b∈X.ex,b≠X.env.locals∧∀ x c,X.env.cells.lookup x=some c→c≠b
 bs:∀ b o,X.base.get? b=some o→X.s₀.heap.get? b=some o∧X.H₀ b=none
 bsz:X.base.objs.size≤X.s₀.heap.objs.size
 noex:∀ b o,X.base.get? b=some o→b∉X.ex
 exfs:∀ b∈X.ex,b∉X.fs
 funs:X.s₀.heap.FunFrames X.base X.outer
 frf:∀ b∈X.fs,X.H₀ b=none
structure Inv(X:Cx)(pins:List (Addr×Obj))(σ:List (Option V))(H:Hp)(s:Shared):Prop where
 ok:X.Ok
 os:s.os=X.s₀.os
 bare:AllBare s.gens
 base:Un X.fs X.ex X.H₀ H X.s₀.heap s.heap
 loc:∃ m,s.heap.Ns X.env.locals m∧∀ (i:Nat) (x:Str) (v:V),X.N[i]?=some x→σ[i]?=some (some v)→Vis X.env.scope x→∃ u,RelV v u∧Look X.env s.heap m x u
 cell:∀ x c,X.env.cells.lookup x=some c→∃ v,s.heap.IsCell c v
 free:H X.env.locals=none
 freeC:∀ x c,X.env.cells.lookup x=some c→H c=none
 pin:∀ p∈X.pn++pins,s.heap.get? p.1=some p.2∧H p.1=none∧p.1≠X.env.locals∧p.1∉X.fs∧∀ v,p.2.data≠.cell v
 hok:HOk X.prog X.w H s.heap
 len:σ.length=X.N.length
section
variable {X:Cx}{pins:List (Addr×Obj)}{σ:List (Option V)}{H H':Hp}{s:Shared}{h':Heap}
theorem Cx.Ok.nofr(ok:X.Ok){b:Addr}{o:Obj}(e:X.base.get? b=some o):b∉X.fs:=fun hb=>by
 have:=(ok.funs.mem hb).1
 rw [e] at this;cases this
theorem Inv.bs(I:Inv X pins σ H s):∀ b o,X.base.get? b=some o→s.heap.get? b=some o∧H b=none:=fun b o e =>
 ⟨I.base.keep b o (I.ok.bs b o e).1 (I.ok.bs b o e).2 (I.ok.nofr e) (I.ok.noex b o e),I.base.free b o (I.ok.bs b o e).1 (I.ok.bs b o e).2 (I.ok.noex b o e)⟩
theorem Inv.bk(I:Inv X pins σ H s):∀ b o,X.base.get? b=some o→s.heap.get? b=some o:=fun b o e=>(I.bs b o e).1
theorem Inv.mod(I:Inv X pins σ H s):Mod X.K X.mg X.base:=I.ok.mod
theorem Inv.kIn(I:Inv X pins σ H s):X.K.In s.heap:=I.ok.mod.kin.keeps I.bk
theorem Inv.lt(I:Inv X pins σ H s):X.env.locals < s.heap.objs.size:=let ⟨_,hn,_⟩:=I.loc;hn.lt
theorem Inv.sz(I:Inv X pins σ H s):X.s₀.heap.objs.size≤s.heap.objs.size:=Wt I.ok.above (Nat.le_of_lt I.lt)
theorem Inv.nofs(I:Inv X pins σ H s){a:Addr}(h:s.heap.objs.size≤a):a∉X.fs:=fun hb=>by
 obtain ⟨_,o,ho,_⟩:=I.ok.funs.mem hb
 exact absurd (Jc (Heap.lt_size ho) (Wt I.sz h)) (Jw _)
theorem Inv.cne(I:Inv X pins σ H s):∀ x c,X.env.cells.lookup x=some c→c≠X.env.locals:=fun x c e z=>by
 obtain ⟨v,o,ho,hd⟩:=I.cell x c e
 obtain ⟨m,⟨o',es,ep,ho',hd',_⟩,_⟩:=I.loc
 rw [z,ho'] at ho;cases ho;rw [hd'] at hd;cases hd
theorem Inv.funs(I:Inv X pins σ H s):s.heap.FunFrames X.base X.outer:=by
 have all:∀ (l:List Env),(∀ b∈frs l,b∈X.fs)→X.s₀.heap.FunFrames X.base l→s.heap.FunFrames X.base l:=by
  intro l
  induction l with
  | nil=>intro _ _;trivial
  | cons env r ih =>
   intro hs hl
   obtain ⟨hk,⟨L,o,hf,hn,ho,hd⟩,hr⟩:=hl
   have hL:L∈X.fs:=hs L (by unfold frs;rw [Wc,hf];exact Qs)
   obtain ⟨sl,e⟩:=I.base.slot L o ho (I.ok.frf L hL) hL fun z=>I.ok.exfs L z hL
   exact ⟨hk,⟨L,_,hf,hn,e,hd⟩,ih (fun b hb=>hs b (by unfold frs;rw [Wc,hf];exact Qp _ hb)) hr⟩
 exact all X.outer (fun _ hb=>hb) I.ok.funs
theorem Inv.stack(I:Inv X pins σ H s):s.heap.FunFrames X.base X.stack:=by
 rcases I.ok.stk with e | ⟨e,hf⟩
 ·rw [e];exact I.funs
 ·rw [e]
  obtain ⟨m,hn,_⟩:=I.loc
  refine .cons (by rw [I.ok.kind];decide) hf hn ?_ I.funs
  exact Heap.get?_none_of_le (Wt I.ok.bsz I.ok.above)
theorem Inv.stkSub(I:Inv X pins σ H s):∀ b∈frs X.stack,b∈X.env.locals::X.fs:=fun b hb=>by
 rcases I.ok.stk with e | ⟨e,hf⟩
 ·rw [e] at hb;exact Qp _ hb
 ·rw [e] at hb
  unfold frs at hb
  rw [Wc,hf] at hb
  exact hb
theorem Inv.stkFree(I:Inv X pins σ H s):∀ b∈frs X.stack,H b=none:=fun b hb=>by
 rcases Jb.mp (I.stkSub b hb) with e | hb
 ·rw [e];exact I.free
 ·obtain ⟨_,o,ho,_⟩:=I.ok.funs.mem hb
  exact I.base.free b o ho (I.ok.frf b hb) fun z=>I.ok.exfs b z hb
theorem Inv.step{g':Array GenState}{t':Nat}{d':Drawn}{ch:List Addr}(I:Inv X pins σ H s)
  (hch:∀ b∈ch,(b∈X.ex∨X.s₀.heap.objs.size≤b)∧b≠X.env.locals∧(∀ x c,X.env.cells.lookup x=some c→c≠b)∧∀ p∈X.pn++pins,p.1≠b)
  (keep:∀ b o,b≠X.env.locals→b∉X.fs→b∉ch→s.heap.get? b=some o→H b=none→h'.get? b=some o)
  (slot:∀ b o,b≠X.env.locals→b∈X.fs→b∉ch→s.heap.get? b=some o→H b=none→∃ sl,h'.get? b=some { o with slots:=sl }) (free:∀ b o,b∉ch→s.heap.get? b=some o→H b=none→H' b=none)
  (there:∀ b o,b∉ch→s.heap.get? b=some o→∃ o',h'.get? b=some o')
  (tups:∀ b xs,H b=some (.tup xs)→H' b=some (.tup xs)) (frzs:∀ b o u,H b=some (.frz o u)→H' b=some (.frz o u)) (tbls:∀ b ps,H b=some (.tbl ps)→∃ more,H' b=some (.tbl (ps++more)))
  (ns:∀ m,s.heap.Ns X.env.locals m→h'.Ns X.env.locals m) (hok:HOk X.prog X.w H' h') (hg:AllBare g') :
  Inv X pins σ H' { s with heap:=h',gens:=g',drawn:=d',toks:=t' }:=by
 have neL:∀ b o,X.s₀.heap.get? b=some o→b≠X.env.locals:=fun b o e=>Jo (Jc (Heap.lt_size e) I.ok.above)
 have neC:∀ b o,X.s₀.heap.get? b=some o→b∉X.ex→b∉ch:=fun b o e hx hb=>by
  rcases (hch b hb).1 with z | z
  ·exact hx z
  ·exact absurd (Jc (Heap.lt_size e) z) (Jw _)
 have cellK:∀ x c,X.env.cells.lookup x=some c→∀ v,s.heap.IsCell c v→h'.IsCell c v:=fun x c e v ⟨o,ho,hd⟩=>by
  have nch:c∉ch:=fun z=>(hch c z).2.2.1 x c e rfl
  by_cases hc:c∈X.fs
  ·obtain ⟨sl,q⟩:=slot c o (I.cne x c e) hc nch ho (I.freeC x c e)
   exact ⟨_,q,hd⟩
  ·exact ⟨o,keep c o (I.cne x c e) hc nch ho (I.freeC x c e),hd⟩
 refine ⟨I.ok,I.os,hg,⟨fun b o e n hb hx=>?_,fun b o e n hb hx=>?_,fun b o e n hx=>?_,fun b o e hx=>?_,fun b xs e=>tups b xs (I.base.tups b xs e),fun b o xs e=>frzs b o xs (I.base.frzs b o xs e),fun b ps e=>?_⟩,?_,fun x c e=>?_,?_,fun x c e=>?_,fun p hp=>?_,hok,I.len⟩
 ·exact keep b o (neL b o e) hb (neC b o e hx) (I.base.keep b o e n hb hx) (I.base.free b o e n hx)
 ·obtain ⟨sl,e1⟩:=I.base.slot b o e n hb hx
  obtain ⟨sl',e2⟩:=slot b _ (neL b o e) hb (neC b o e hx) e1 (I.base.free b o e n hx)
  exact ⟨sl',e2⟩
 ·obtain ⟨o',e1⟩:=I.base.there b o e hx
  exact free b o' (neC b o e hx) e1 (I.base.free b o e n hx)
 ·obtain ⟨o',e1⟩:=I.base.there b o e hx
  exact there b o' (neC b o e hx) e1
 ·obtain ⟨m1,e1⟩:=I.base.tbls b ps e
  obtain ⟨m2,e2⟩:=tbls b _ e1
  exact ⟨m1++m2,by rw [e2,Array.append_assoc]⟩
 ·obtain ⟨m,hn,hl⟩:=I.loc
  refine ⟨m,ns m hn,fun i x v e1 e2 e3=>?_⟩
  obtain ⟨u,r,l⟩:=hl i x v e1 e2 e3
  refine ⟨u,r,?_⟩
  rcases l with l | ⟨k,c,e,z⟩
  ·exact .inl l
  ·exact .inr ⟨k,c,e,cellK x c e _ z⟩
 ·obtain ⟨v,z⟩:=I.cell x c e
  exact ⟨v,cellK x c e v z⟩
 ·obtain ⟨m,⟨o,_,_,ho,_⟩,_⟩:=I.loc
  exact free _ o (fun z=>(hch _ z).2.1 rfl) ho I.free
 ·obtain ⟨v,o,ho,hd⟩:=I.cell x c e
  exact free c o (fun z=>(hch c z).2.2.1 x c e rfl) ho (I.freeC x c e)
 ·obtain ⟨e,n,ne,nf,d⟩:=I.pin p hp
  have nch:p.1∉ch:=fun z=>(hch p.1 z).2.2.2 p hp rfl
  exact ⟨keep p.1 p.2 ne nf nch e n,free p.1 p.2 nch e n,ne,nf,d⟩
theorem Inv.un{t':Nat}(I:Inv X pins σ H s)(u:Un X.fs [] H H' s.heap h')(hok:HOk X.prog X.w H' h'):Inv X pins σ H' { s with heap:=h',toks:=t' }:=by
 obtain ⟨m,⟨o,es,ep,ho,r⟩,_⟩:=id I.loc
 obtain ⟨sl,hL⟩:=u.any ho I.free (by simp)
 exact I.step (g':=s.gens) (d':=s.drawn) (ch:=[]) (fun _ z=>nomatch z) (fun b o _ hb _ e n=>u.keep b o e n hb (by simp)) (fun b o _ hb _ e n=>u.slot b o e n hb (by simp)) (fun b o _ e n=>u.free b o e n (by simp)) (fun b o _ e=>u.there b o e (by simp)) u.tups u.frzs u.tbls (fun m' hm=>by
  obtain ⟨o',es',ep',ho',r'⟩:=hm
  rw [ho] at ho';cases ho'
  exact ⟨_,es',ep',hL,r'⟩) hok I.bare
theorem Inv.call{g':Array GenState}{t':Nat}{d':Drawn}{ch:List Addr}(I:Inv X pins σ H s)(u:Un (frs X.stack) ch H H' s.heap h')(hok:HOk X.prog X.w H' h')(hg:AllBare g')
  (hch:∀ b∈ch,(b∈X.ex∨X.s₀.heap.objs.size≤b)∧b≠X.env.locals∧(∀ x c,X.env.cells.lookup x=some c→c≠b)∧∀ p∈X.pn++pins,p.1≠b) :
  Inv X pins σ H' { s with heap:=h',gens:=g',drawn:=d',toks:=t' }:=by
 obtain ⟨m,⟨o,es,ep,ho,r⟩,_⟩:=id I.loc
 obtain ⟨sl,hL⟩:=u.any ho I.free fun z=>(hch _ z).2.1 rfl
 exact I.step (ch:=ch) hch (fun b o hL hb hc e n=>u.keep b o e n (fun z=>(Jb.mp (I.stkSub b z)).elim hL hb) hc) (fun b o _ _ hc e n=>u.any e n hc) (fun b o hc e n=>u.free b o e n hc) (fun b o hc e=>u.there b o e hc) u.tups u.frzs u.tbls (fun m' hm=>by
  obtain ⟨o',es',ep',ho',r'⟩:=hm
  rw [ho] at ho';cases ho'
  exact ⟨_,es',ep',hL,r'⟩) hok hg
theorem Inv.turned{t':Nat}{it:Addr}(I:Inv X pins σ H s)(k:∀ b o,b≠it→s.heap.get? b=some o→h'.get? b=some o)(hn:H it=none)(hL:it≠X.env.locals)
  (h1:it∈X.ex∨X.s₀.heap.objs.size≤it) (h2:∀ x c,X.env.cells.lookup x=some c→c≠it) (h3:∀ p∈X.pn++pins,p.1≠it):Inv X pins σ H { s with heap:=h',toks:=t' }:=by
 have nit:∀ b u,H b=some u→b≠it:=fun b u e z=>by rw [z,hn] at e;cases e
 refine I.step (g':=s.gens) (d':=s.drawn) (ch:=[it]) (fun b hb=>?_) (fun b o _ _ hc e _=>k b o (fun z=>hc (by simp [z])) e) (fun b o _ _ hc e _=>⟨o.slots,k b o (fun z=>hc (by simp [z])) e⟩) (fun _ _ _ _ n=>n)
  (fun b o hc e=>⟨o,k b o (fun z=>hc (by simp [z])) e⟩) (fun _ _ e=>e) (fun _ _ _ e=>e) (fun b ps e=>⟨#[],by rw [e];simp⟩) (fun m hm=>?_) (fun b u e=>?_) I.bare
 ·have e:b=it:=by simpa using hb
  subst e
  exact ⟨h1,hL,h2,h3⟩
 ·obtain ⟨o,es,ep,ho,r⟩:=hm
  exact ⟨o,es,ep,k _ o (Ne.symm hL) ho,r⟩
 ·refine (I.hok b u e).stay (fun c v hc q=>k c v ?_ q) (fun _ q=>q) fun _ _ q=>q
  rcases hc with z | z
  ·rw [z];exact nit b u e
  ·exact nit c _ z
theorem Inv.tok(I:Inv X pins σ H s)(t:Nat):Inv X pins σ H { s with toks:=t }:=I.un (h':=s.heap) (t':=t) Un.refl I.hok
theorem Inv.kept{t':Nat}(I:Inv X pins σ H s)(k:∀ b u,s.heap.get? b=some u→h'.get? b=some u):Inv X pins σ H { s with heap:=h',toks:=t' }:=I.un (Un.kept k) (I.hok.kept k)
theorem Inv.laid{a:Addr}{o:HO}{t':Nat}(I:Inv X pins σ H s)(k:∀ b u,s.heap.get? b=some u→h'.get? b=some u)(hp:s.heap.objs.size≤a)(new:ObjOk X.prog X.w (upd H a o) h' a o) :
  Inv X pins σ (upd H a o) { s with heap:=h',toks:=t' }:=I.un (Un.laid k hp (I.hok.fresh hp)) (I.hok.laid k hp new)
theorem Inv.write{x e:Addr}{o:HO}{t':Nat}(I:Inv X pins σ H s)(mu:Mut (H x))(he:e=x∨H e=some (.own x))(k:∀ b u,b≠e→s.heap.get? b=some u→h'.get? b=some u)(heo:∃ u,h'.get? e=some u)
  (new:ObjOk X.prog X.w (upd H x o) h' x o):Inv X pins σ (upd H x o) { s with heap:=h',toks:=t' }:=I.un (Un.write mu he k heo) (I.hok.write mu he k heo new)
theorem Inv.pins_of{pins':List (Addr×Obj)}(I:Inv X pins σ H s)(h:∀ p∈pins',s.heap.get? p.1=some p.2∧H p.1=none∧p.1≠X.env.locals∧p.1∉X.fs∧∀ v,p.2.data≠.cell v):Inv X pins' σ H s :=
 ⟨I.ok,I.os,I.bare,I.base,I.loc,I.cell,I.free,I.freeC,fun p hp=>(Qe.mp hp).elim (fun z=>I.pin p (Qi _ z)) (h p),I.hok,I.len⟩
theorem Z398{N:List Str}(hN:N.Nodup){i j:Nat}{x:Str}(a:N[i]?=some x)(b:N[j]?=some x):i=j:=by
 obtain ⟨h1,e1⟩:=Qc.mp a
 obtain ⟨h2,e2⟩:=Qc.mp b
 exact (Wu hN).mp (e1.trans e2.symm)
theorem Z602{M:Model}{A:Around}{E:Value→Shared→Prop}{i:Nat}{x:Str}{v:V}{u:Value}{Q:Unit→Shared→Prop}(I:Inv X pins σ H s)(hN:X.N.Nodup)(hi:X.N[i]?=some x)(hx:Loc X.env.scope x)(r:RelV v u)
  (h:∀ s',Inv X pins (σ.set i (some v)) H s'→(∃ a,Heap.SameBut a s.heap s'.heap∧(a=X.env.locals∨X.env.cells.lookup x=some a))→Q () s') (hf:X.fn x=true∨X.env.scope.names.lookup x=some .local:=by first | exact .inl rfl | exact .inr rfl | assumption):wpAny M A (storeName X.env x u) Q E s:=by
 obtain ⟨m,hn,hl⟩:=id I.loc
 have hcls:(X.env.scope.kind == .class || (X.env.scope.kind == .module && X.env.locals != X.env.globals))=false:=by rw [I.ok.kind];rfl
 have hiσ:i < σ.length:=by rw [I.len];exact (Qc.mp hi).1
 have cne:=I.cne
 have tracked:∀ {a:Addr} {h':Heap},(∃ o,s.heap.get? a=some o∧H a=none)→Heap.SameBut a s.heap h'→HOk X.prog X.w H h':=fun {a h'} ha hs b ob e=>by
  obtain ⟨_,_,hfree⟩:=ha
  refine (I.hok b ob e).stay (fun c w' hc q=>(hs.2 c ?_).trans q) (fun _ q=>q) fun _ _ q=>q
  rintro rfl
  rcases hc with rfl | hc
  ·rw [hfree] at e;cases e
  ·rw [hfree] at hc;cases hc
 rcases hx with hk | hk
 ·refine wpAny_storeName_local hk hn (fun h' hn' hs=>?_) hcls
  obtain ⟨oL,_,_,hoL,_⟩:=id hn
  refine h _ ⟨I.ok,I.os,I.bare,⟨fun b o e n hb hx=>?_,fun b o e n hb hx=>?_,I.base.free,fun b o e hx=>?_,I.base.tups,I.base.frzs,I.base.tbls⟩,⟨_,hn',fun j y v' e1 e2 e3=>?_⟩,fun y c e=>?_,I.free,I.freeC,fun p hp=>?_,tracked ⟨oL,hoL,I.free⟩ hs,by simpa using I.len⟩ ⟨_,hs,.inl rfl⟩
  ·exact (hs.2 b (Jo (Jc (Heap.lt_size e) I.ok.above))).trans (I.base.keep b o e n hb hx)
  ·obtain ⟨sl,e1⟩:=I.base.slot b o e n hb hx
   exact ⟨sl,(hs.2 b (Jo (Jc (Heap.lt_size e) I.ok.above))).trans e1⟩
  ·obtain ⟨o',e1⟩:=I.base.there b o e hx
   exact ⟨o',(hs.2 b (Jo (Jc (Heap.lt_size e) I.ok.above))).trans e1⟩
  ·by_cases hj:j=i
   ·subst hj
    rw [hi] at e1;cases e1
    rw [List.getElem?_set_self hiσ] at e2
    cases e2
    exact ⟨u,r,.inl ⟨hk,by simp⟩⟩
   ·rw [Wd (Ne.symm hj)] at e2
    obtain ⟨u',r',q⟩:=hl j y v' e1 e2 e3
    refine ⟨u',r',?_⟩
    rcases q with ⟨k,e⟩ | ⟨k,c,e,z⟩
    ·refine .inl ⟨k,?_⟩
     have:y≠x:=fun e=>hj (Z398 hN e1 (e ▸ hi))
     simp [this,e]
    ·exact .inr ⟨k,c,e,z.sameBut hs (cne y c e)⟩
  ·obtain ⟨w',z⟩:=I.cell y c e
   exact ⟨w',z.sameBut hs (cne y c e)⟩
  ·obtain ⟨e,n,ne,nf,d⟩:=I.pin p hp
   exact ⟨(hs.2 p.1 ne).trans e,n,ne,nf,d⟩
 ·have hfn:X.fn x=true:=by
   rcases hf with z | z
   ·exact z
   ·rw [z] at hk;cases hk
  obtain ⟨c,hc⟩:=I.ok.has x (.inl hk)
  obtain ⟨w',z⟩:=I.cell x c hc
  refine wpAny_storeName_cell I.ok.kind hk hc z (fun h' hc' hs=>?_)
  obtain ⟨oc,hoc,hocd⟩:=id z
  refine h { s with heap:=h' } ⟨I.ok,I.os,I.bare,⟨fun b o e n hb hx=>?_,fun b o e n hb hx=>?_,I.base.free,fun b o e hx=>?_,I.base.tups,I.base.frzs,I.base.tbls⟩,⟨m,hn.sameBut hs (Ne.symm (cne x c hc)),fun j y v' e1 e2 e3=>?_⟩,fun y c' e=>?_,I.free,I.freeC,fun p hp=>?_,tracked ⟨oc,hoc,I.freeC x c hc⟩ hs,by simpa using I.len⟩ ⟨c,hs,.inr hc⟩
  ·exact (hs.2 b (Jo (Jc (Heap.lt_size e) (I.ok.cab x c hfn hc)))).trans (I.base.keep b o e n hb hx)
  ·obtain ⟨sl,e1⟩:=I.base.slot b o e n hb hx
   exact ⟨sl,(hs.2 b (Jo (Jc (Heap.lt_size e) (I.ok.cab x c hfn hc)))).trans e1⟩
  ·obtain ⟨o',e1⟩:=I.base.there b o e hx
   exact ⟨o',(hs.2 b (Jo (Jc (Heap.lt_size e) (I.ok.cab x c hfn hc)))).trans e1⟩
  ·by_cases hj:j=i
   ·subst hj
    rw [hi] at e1;cases e1
    rw [List.getElem?_set_self hiσ] at e2
    cases e2
    exact ⟨u,r,.inr ⟨.inl hk,c,hc,hc'⟩⟩
   ·rw [Wd (Ne.symm hj)] at e2
    obtain ⟨u',r',q⟩:=hl j y v' e1 e2 e3
    refine ⟨u',r',?_⟩
    rcases q with q | ⟨k,c',e,z'⟩
    ·exact .inl q
    ·refine .inr ⟨k,c',e,z'.sameBut hs ?_⟩
     rintro rfl
     exact hj (Z398 hN e1 (I.ok.inj _ _ _ e hc ▸ hi))
  ·by_cases hcc:c'=c
   ·subst hcc;exact ⟨_,hc'⟩
   ·obtain ⟨w2,z2⟩:=I.cell y c' e
    exact ⟨w2,z2.sameBut hs hcc⟩
  ·obtain ⟨e,n,ne,nf,d⟩:=I.pin p hp
   refine ⟨(hs.2 p.1 ?_).trans e,n,ne,nf,d⟩
   intro q
   rw [q,hoc] at e
   have q':oc=p.2:=Option.some.inj e
   exact d w' (by rw [← q'];exact hocd)
theorem Z601{M:Model}{A:Around}{E:Value→Shared→Prop}{i:Nat}{x:Str}{v:V}{u:Value}{Q:Unit→Shared→Prop}(I:Inv X pins σ H s)(hN:X.N.Nodup)(hi:X.N[i]?=some x)(hx:Loc X.env.scope x)(r:RelV v u)
  (h:∀ s',Inv X pins (σ.set i (some v)) H s'→Q () s') (hf:X.fn x=true∨X.env.scope.names.lookup x=some .local:=by first | exact .inl rfl | exact .inr rfl | assumption):wpAny M A (storeName X.env x u) Q E s :=
 Z602 I hN hi hx r (fun s' I' _=>h s' I') hf
theorem Inv.call'{s':Shared}{ch:List Addr}(I:Inv X pins σ H s)(ho:s'.os=s.os)(u:Un (frs X.stack) ch H H' s.heap s'.heap)(hok:HOk X.prog X.w H' s'.heap)(hg:AllBare s'.gens)
  (hch:∀ b∈ch,(b∈X.ex∨X.s₀.heap.objs.size≤b)∧b≠X.env.locals∧(∀ x c,X.env.cells.lookup x=some c→c≠b)∧∀ p∈X.pn++pins,p.1≠b):Inv X pins σ H' s':=by
 obtain ⟨h',g',d',t',o'⟩:=s'
 have e:o'=s.os:=ho
 subst e
 exact I.call (g':=g') (t':=t') (d':=d') u hok hg hch
end

noncomputable abbrev XK:=Value→Option Addr→Hp→Prop
noncomputable abbrev St:=List (Option V)
noncomputable abbrev VK:=V→Hp→Prop
noncomputable abbrev TE:=St→Hp→VK→Prop
noncomputable abbrev TT:=St→Hp→(Bool→Hp→Prop)→Prop
noncomputable abbrev TA:=St→Hp→(List V→Hp→Prop)→Prop
structure Ends where
 nx:St→Hp→Prop
 rt:VK
 bk:St→Hp→Prop:=fun _ _=>False
 ct:St→Hp→Prop:=fun _ _=>False
noncomputable abbrev TS:=Ends→St→Hp→Prop
noncomputable def EP(X:Cx)(pins:List (Addr×Obj))(σ:St)(Q:VK)(u:Value)(s':Shared):Prop:=∃ v H',Inv X pins σ H' s'∧RelV v u∧Q v H'
noncomputable def TP(X:Cx)(pins:List (Addr×Obj))(σ:St)(Q:Bool→Hp→Prop)(b:Bool)(s':Shared):Prop:=∃ H',Inv X pins σ H' s'∧Q b H'
noncomputable def AP(X:Cx)(pins:List (Addr×Obj))(σ:St)(Q:List V→Hp→Prop)(us:List Value)(s':Shared):Prop:=∃ vs H',Inv X pins σ H' s'∧Vals vs us∧Q vs H'
noncomputable def SP(X:Cx)(pins:List (Addr×Obj))(D:Ends)(f:Flow)(s':Shared):Prop :=
 match f with
 | .next=>∃ σ' H',Inv X pins σ' H' s'∧D.nx σ' H'
 | .brk=>∃ σ' H',Inv X pins σ' H' s'∧D.bk σ' H'
 | .cont=>∃ σ' H',Inv X pins σ' H' s'∧D.ct σ' H'
 | .ret u=>∃ v σ' H',Inv X pins σ' H' s'∧RelV v u∧D.rt v H'
noncomputable def PE(X:Cx)(e:Expr)(t:TE):Prop :=
 ∀ (pins:List (Addr×Obj)) (s:Shared) (σ:St) (H:Hp) (Q:VK),Inv X pins σ H s→t σ H Q→wpAny (model X.prog X.w) X.A (eval e X.env) (EP X pins σ Q) X.xe s
noncomputable def PT(X:Cx)(e:Expr)(t:TT):Prop :=
 ∀ (pins:List (Addr×Obj)) (s:Shared) (σ:St) (H:Hp) (Q:Bool→Hp→Prop),Inv X pins σ H s→t σ H Q→wpAny (model X.prog X.w) X.A (isTrue e X.env (eval e X.env)) (TP X pins σ Q) X.xe s
noncomputable def PW(X:Cx)(e:Expr)(t:TT):Prop :=
 ∀ (whole:Sem Value) (pins:List (Addr×Obj)) (s:Shared) (σ:St) (H:Hp) (Q:Bool→Hp→Prop),Inv X pins σ H s→t σ H Q→wpAny (model X.prog X.w) X.A (isTrue e X.env whole) (TP X pins σ Q) X.xe s
theorem PW.pt{X:Cx}{e:Expr}{t:TT}(h:PW X e t):PT X e t:=h _
noncomputable def PA(X:Cx)(es:List Expr)(t:TA):Prop :=
 ∀ (pos:Pos) (pins:List (Addr×Obj)) (s:Shared) (σ:St) (H:Hp) (Q:List V→Hp→Prop),Inv X pins σ H s→t σ H Q→wpAny (model X.prog X.w) X.A (spliced (backTo pos (starEach es X.env))) (AP X pins σ Q) X.xe s
noncomputable def PS(X:Cx)(st:Stmt)(t:TS):Prop :=
 ∀ (pins:List (Addr×Obj)) (s:Shared) (σ:St) (H:Hp) (D:Ends),Inv X pins σ H s→t D σ H→wpAny (model X.prog X.w) X.A (exec st X.env) (SP X pins D) X.xe s
noncomputable def PSs(X:Cx)(st:List Stmt)(t:TS):Prop :=
 ∀ (pins:List (Addr×Obj)) (s:Shared) (σ:St) (H:Hp) (D:Ends),Inv X pins σ H s→t D σ H→wpAny (model X.prog X.w) X.A (execs st X.env) (SP X pins D) X.xe s
theorem thn{α:Type}{t:Sem α}{Q Q':α→Shared→Prop}{M:Model}{A:Around}{E:Value→Shared→Prop}{s:Shared}(h:wpAny M A t Q E s)(hQ:∀ a s,Q a s→Q' a s):wpAny M A t Q' E s:=wpAny_mono h hQ fun _ _ x=>x
end L2
namespace L2
open PySem PySem.Spec PyProof.Rows
section
variable {X:Cx}

noncomputable def tVar(i:Nat):TE:=fun σ H Q=>∃ v,σ[i]?=some (some v)∧Q v H
noncomputable def tC(v:V):TE:=fun _ H Q=>Q v H
theorem Z467{i:Nat}{x:Str}{pos:Pos}(hN:X.N[i]?=some x)(hv:Vis X.env.scope x)(hd:(x == ("__debug__":Str))=false:=by decide)(hcd:(x == ("__classdict__":Str))=false:=by decide):PE X (.Name x pos) (tVar i):=by
 intro pins s σ H Q I h
 obtain ⟨v,e,h⟩:=h
 obtain ⟨m,hn,hl⟩:=I.loc
 obtain ⟨u,r,l⟩:=hl i x v hN e hv
 have fin:EP X pins σ Q u s:=⟨v,H,I,r,h⟩
 rcases l with ⟨hk,hm⟩ | ⟨hk,c,hc,hcell⟩
 ·exact wpAny_Name (wpAny_loadName_local I.ok.kind hk hn hm fin) hd
 ·rcases hk with hk | hk
  ·exact wpAny_Name (wpAny_loadName_cell I.ok.kind hk hc hcell fin) hd
  ·exact wpAny_Name (wpAny_loadName_free I.ok.kind hk hc hcell fin hcd) hd
theorem Z461{i j pos}:PE X (.Constant (.int i) j pos) (tC (.int i)):=fun _ _ _ H _ I h=>wpAny_Constant_int ⟨.int i,H,I.tok _,⟨_,rfl⟩,h⟩
theorem pe_bl{b j pos}:PE X (.Constant (.bool b) j pos) (tC (.bl b)):=fun _ _ _ H _ I h=>Constant_bool ⟨.bl b,H,I,rfl,h⟩
theorem Z463{j pos}:PE X (.Constant .none j pos) (tC .non):=fun _ _ _ H _ I h=>Constant_none ⟨.non,H,I,rfl,h⟩
noncomputable def Gl(X:Cx)(x:Str):Prop:=X.env.kindOf x=some .globalImplicit
theorem Z334{E:Value→Shared→Prop}{pins:List (Addr×Obj)}{s:Shared}{σ:St}{H:Hp}{x:Str}{u:Value}{pos:Pos}{Q:Value→Shared→Prop}(I:Inv X pins σ H s)(hg:Gl X x)(hm:X.mg x=some u)(h:Q u s)
  (hd:(x == ("__debug__":Str))=false:=by decide):wpAny (model X.prog X.w) X.A (eval (.Name x pos) X.env) Q E s :=
 Calls.Name_function_global I.ok.kind hg (Calls.loadGlobal_global (by rw [I.ok.glob];exact I.mod.glob.keeps I.bk) hm h) hd
theorem Z333{E:Value→Shared→Prop}{pins:List (Addr×Obj)}{s:Shared}{σ:St}{H:Hp}{x:Str}{u:Value}{pos:Pos}{Q:Value→Shared→Prop}(I:Inv X pins σ H s)(hg:Gl X x)(hm:X.mg x=none)(hv:bootBuiltins x=some u)(h:Q u s)
  (hn:x ≠ "__name__":=by decide) (hd:(x == ("__debug__":Str))=false:=by decide):wpAny (model X.prog X.w) X.A (eval (.Name x pos) X.env) Q E s:=by
 obtain ⟨mb,h1,h2⟩:=I.mod.blt
 exact Calls.Name_function_global I.ok.kind hg (Calls.loadGlobal_builtin (by rw [I.ok.glob];exact I.mod.glob.keeps I.bk) hm (by rw [I.ok.blt];exact h1.keeps I.bk) ((h2 x hn).trans hv) h) hd
theorem Z451{x:Str}{v:V}{u:Value}{pos:Pos}(hg:Gl X x)(hm:X.mg x=none)(hv:bootBuiltins x=some u)(r:RelV v u)(hn:x ≠ "__name__":=by decide)(hd:(x == ("__debug__":Str))=false:=by decide):PE X (.Name x pos) (tC v) :=
 fun _ _ _ H _ I h=>Z333 I hg hm hv ⟨v,H,I,r,h⟩ hn hd

variable {a b:Expr}{ta tb:TE}{pos:Pos}

noncomputable def PC(X:Cx)(op:CmpOp)(a b:Expr)(t:TE):Prop :=
 ∀ (pins:List (Addr×Obj)) (s:Shared) (σ:St) (H:Hp) (Q:VK),Inv X pins σ H s→t σ H Q →
  wpAny (model X.prog X.w) X.A (eval a X.env) (fun v s₁=>wpAny (model X.prog X.w) X.A (eval b X.env) (fun u s₂=>wpAny (model X.prog X.w) X.A (compareOp op v u) (EP X pins σ Q) X.xe s₂) X.xe s₁) X.xe s
theorem nobehind(b:Expr){op:CmpOp}(h:op≠.In)(h2:op≠.NotIn):behindInMarks op b=false:=by
 have e1:(op == CmpOp.In)=false:=by cases op <;> first | rfl | exact absurd rfl h
 have e2:(op == CmpOp.NotIn)=false:=by cases op <;> first | rfl | exact absurd rfl h2
 cases b <;> simp [behindInMarks,e1,e2]
noncomputable def tB(t:TE):TT:=fun σ H Q=>t σ H fun x H1=>∃ c,x=.bl c∧Q c H1
theorem Z491{op:CmpOp}{t:TE}(h:PC X op a b t)(h1:behindInMarks op b=false:=by first | exact nobehind _ (by decide) (by decide) | rfl):PT X (.Compare a [op] [b] pos) (tB t):=by
 intro pins s σ H Q I hw
 refine wpAny_isTrue_Compare1 (thn (h pins s σ H _ I hw) fun v s1 h1=>thn h1 fun u s2 h2=>thn h2 fun c s3 ⟨x,H1,I1,r1,q1⟩=>?_) h1
 obtain ⟨d,rfl,q⟩:=q1
 cases r1
 exact wpAny_truthy_bool ⟨H1,I1,q⟩
theorem Z494{e:Expr}{t:TE}(h:PE X e t)(he:∀ whole,isTrue e X.env whole=(do let v ← whole;standAt e.pos;holding [v] (truthy v)):=by intro _;rfl):PT X e (tB t):=by
 intro pins s σ H Q I hw
 refine isTrue_plain (thn (h pins s σ H _ I hw) fun v s1 ⟨x,H1,I1,r1,q1⟩=>?_) (he _)
 obtain ⟨d,rfl,q⟩:=q1
 cases r1
 exact wpAny_truthy_bool ⟨H1,I1,q⟩

variable {tA tB':TT}{rest:List Expr}
noncomputable def tAnd(t u:TT):TT:=fun σ H Q=>t σ H fun c H1=>if c=true then u σ H1 Q else Q false H1
noncomputable def tOr(t u:TT):TT:=fun σ H Q=>t σ H fun c H1=>if c=true then Q true H1 else u σ H1 Q
noncomputable def tNot(t:TT):TT:=fun σ H Q=>t σ H fun c H1=>Q (!c) H1
theorem Z499(ha:PT X a tA):PW X (.BoolOp .And [a] pos) tA:=by
 intro wh pins s σ H Q I h
 refine isTrue_and (thn (ha pins s σ H Q I h) fun c s1 e=>?_)
 cases c with
 | true=>exact isTrue_and_nil e
 | false=>exact e
theorem Z500(ha:PT X a tA):PW X (.BoolOp .Or [a] pos) tA:=by
 intro wh pins s σ H Q I h
 refine isTrue_or (thn (ha pins s σ H Q I h) fun c s1 e=>?_)
 cases c with
 | false=>exact isTrue_or_nil e
 | true=>exact e
theorem Z498(ha:PT X a tA)(hb:PW X (.BoolOp .And (b::rest) pos) tB'):PW X (.BoolOp .And (a::b::rest) pos) (tAnd tA tB'):=by
 intro wh pins s σ H Q I h
 refine isTrue_and (thn (ha pins s σ H _ I h) fun c s1 ⟨H1,I1,q1⟩=>?_)
 cases c with
 | true=>exact hb wh pins s1 σ H1 Q I1 q1
 | false=>exact ⟨H1,I1,q1⟩
theorem pw_or(ha:PT X a tA)(hb:PW X (.BoolOp .Or (b::rest) pos) tB'):PW X (.BoolOp .Or (a::b::rest) pos) (tOr tA tB'):=by
 intro wh pins s σ H Q I h
 refine isTrue_or (thn (ha pins s σ H _ I h) fun c s1 ⟨H1,I1,q1⟩=>?_)
 cases c with
 | true=>exact ⟨H1,I1,q1⟩
 | false=>exact hb wh pins s1 σ H1 Q I1 q1
theorem Z493(ha:PT X a tA):PT X (.UnaryOp .Not a pos) (tNot tA):=by
 intro pins s σ H Q I h
 exact isTrue_not (ha pins s σ H (fun c H1=>Q (!c) H1) I h)
noncomputable def tAndV(ta tb:TE):TE:=fun σ H Q=>ta σ H fun x H1=>∃ c,x=.bl c∧if c=true then tb σ H1 Q else Q (.bl false) H1
noncomputable def tOrV(ta tb:TE):TE:=fun σ H Q=>ta σ H fun x H1=>∃ c,x=.bl c∧if c=true then Q (.bl true) H1 else tb σ H1 Q
noncomputable def tNotV(ta:TE):TE:=fun σ H Q=>ta σ H fun x H1=>∃ c,x=.bl c∧Q (.bl (!c)) H1
theorem Z464{op}{t:TE}(h:PE X a t):PE X (.BoolOp op [a] pos) t:=fun pins s σ H Q I hw=>BoolOp_one (h pins s σ H Q I hw)
theorem Z450(ha:PE X a ta)(hb:PE X (.BoolOp .And (b::rest) pos) tb):PE X (.BoolOp .And (a::b::rest) pos) (tAndV ta tb):=by
 intro pins s σ H Q I h
 refine BoolOp_and (thn (ha pins s σ H _ I h) fun v s1 ⟨x,H1,I1,r1,q1⟩=>?_)
 obtain ⟨c,rfl,q1⟩:=q1
 cases r1
 refine wpAny_truthy_bool ?_
 cases c with
 | true=>exact hb pins s1 σ H1 Q I1 q1
 | false=>exact ⟨.bl false,H1,I1,rfl,q1⟩
noncomputable def tIf(t:TT)(ta tb:TE):TE:=fun σ H Q=>t σ H fun c H1=>if c=true then ta σ H1 Q else tb σ H1 Q
end
end L2
namespace L2
open PySem PySem.Spec PyProof.Rows

noncomputable def SqL(K:Qd)(H:Hp)(a:Addr)(xs:List V):Prop :=
 Rd H a (.lst xs) ∨
  ∃ (o:Obj) (its:Array Value) (n:Nat),K.lookup a=some o∧o.cls=.type "list"∧o.dict=none∧o.data=.seq its n∧its.size≤sizeLine∧Vals xs its.toList
noncomputable def SqT(K:Qd)(H:Hp)(a:Addr)(xs:List V):Prop :=
 Rd H a (.tup xs) ∨
  ∃ (o:Obj) (its:Array Value) (n:Nat),K.lookup a=some o∧o.cls=.type "tuple"∧o.data=.seq its n∧its.size≤sizeLine∧Vals xs its.toList
noncomputable def absV:Value→Option V
 | .none=>some .non
 | .bool b=>some (.bl b)
 | .int i _=>some (.int i)
 | .str x _=>some (.str x)
 | .bytes b _=>some (.byt b)
 | .float b _=>some (.flt b)
 | .ref a=>some (.ref a)
 | .type n=>some (.ty n)
 | _=>none
theorem RelV.abs{x:V}{u:Value}(r:RelV x u):absV u=some x:=by
 cases x with
 | non=>cases r;rfl
 | bl _=>cases r;rfl
 | int _=>obtain ⟨t,rfl⟩:=r;rfl
 | str _=>obtain ⟨t,rfl⟩:=r;rfl
 | byt _=>obtain ⟨t,rfl⟩:=r;rfl
 | flt _=>obtain ⟨t,rfl⟩:=r;rfl
 | ref _=>cases r;rfl
 | ty _=>cases r;rfl
theorem RelV.inj{x y:V}{u:Value}(r:RelV x u)(q:RelV y u):x=y:=Option.some.inj (r.abs.symm.trans q.abs)
theorem Vals.inj:∀ {xs ys:List V} {us:List Value},Vals xs us→Vals ys us→xs=ys
 | _,_,_,.nil,.nil=>rfl
 | _,_,_,.cons r t,.cons r' t'=>by rw [r.inj r',Vals.inj t t']
section
variable {X:Cx}{pins:List (Addr×Obj)}{σ:St}{H:Hp}{s:Shared}{a:Addr}{xs ys:List V}
theorem SqL.of{K:Qd}(h:H a=some (.lst xs)):SqL K H a xs:=.inl (.inl h)
theorem SqT.of{K:Qd}(h:H a=some (.tup xs)):SqT K H a xs:=.inl (.inl h)
theorem Inv.list(I:Inv X pins σ H s)(h:SqL X.K H a xs):∃ its:List Value,Vals xs its∧PlainL s.heap a its.toArray∧xs.length≤sizeLine:=by
 rcases h with h | ⟨o,its,n,hk,hc,hd,hs,hz,r⟩
 ·obtain ⟨z,its,n,r,e⟩:=h.ok I.hok
  exact ⟨its,r,⟨_,n,e,rfl,rfl,rfl⟩,z⟩
 ·refine ⟨its.toList,r,⟨o,n,I.kIn a o hk,hc,hd,by simpa using hs⟩,?_⟩
  have e:=r.length
  simp only [Array.length_toList] at e
  omega
theorem Inv.tuple(I:Inv X pins σ H s)(h:SqT X.K H a xs):∃ its:List Value,Vals xs its∧IsTup s.heap a its.toArray∧xs.length≤sizeLine:=by
 rcases h with h | ⟨o,its,n,hk,hc,hs,hz,r⟩
 ·obtain ⟨z,its,r,p⟩:=h.ok I.hok
  exact ⟨its,r,p,z⟩
 ·refine ⟨its.toList,r,⟨o,I.kIn a o hk,hc,n,by simpa using hs⟩,?_⟩
  have e:=r.length
  simp only [Array.length_toList] at e
  omega
theorem Inv.list_inj(I:Inv X pins σ H s)(h:SqL X.K H a xs)(h':SqL X.K H a ys):xs=ys:=by
 obtain ⟨its,r,⟨o,n,e,_,_,d⟩,_⟩:=I.list h
 obtain ⟨its',r',⟨o',n',e',_,_,d'⟩,_⟩:=I.list h'
 rw [e] at e';cases e'
 rw [d] at d'
 injection d' with d1 _
 have:its=its':=by simpa using congrArg Array.toList d1
 subst this
 exact r.inj r'
theorem Inv.tuple_inj(I:Inv X pins σ H s)(h:SqT X.K H a xs)(h':SqT X.K H a ys):xs=ys:=by
 obtain ⟨its,r,⟨o,e,_,n,d⟩,_⟩:=I.tuple h
 obtain ⟨its',r',⟨o',e',_,n',d'⟩,_⟩:=I.tuple h'
 rw [e] at e';cases e'
 rw [d] at d'
 injection d' with d1 _
 have:its=its':=by simpa using congrArg Array.toList d1
 subst this
 exact r.inj r'
end

section
variable {X:Cx}{pins:List (Addr×Obj)}{σ:St}{H:Hp}{s:Shared}{E:Value→Shared→Prop}
end

section
variable {X:Cx}{st:Stmt}{rest:List Stmt}{t u:TS}{e:Expr}{te:TE}{pos:Pos}
noncomputable def tNext:TS:=fun D σ H=>D.nx σ H
noncomputable def tSeq(t u:TS):TS:=fun D σ H=>t { D with nx:=u D } σ H
theorem Z489:PSs X [] tNext:=fun _ _ σ H _ I h=>wpAny_execs_nil ⟨σ,H,I,h⟩
theorem Z488(h1:PS X st t)(h2:PSs X rest u):PSs X (st::rest) (tSeq t u):=by
 intro pins s σ H D I h
 refine wpAny_execs_cons (thn (h1 pins s σ H { D with nx:=u D } I h) fun f s1 q=>?_)
 cases f with
 | next =>
  obtain ⟨σ',H',I',q⟩:=q
  exact h2 pins s1 σ' H' D I' q
 | ret v=>exact q
 | brk=>exact q
 | cont=>exact q
theorem Z490(h1:PS X st t):PSs X [st] t:=by
 intro pins s σ H D I h
 refine wpAny_execs_cons (thn (h1 pins s σ H D I h) fun f s1 q=>?_)
 cases f with
 | next=>exact wpAny_execs_nil q
 | ret v=>exact q
 | brk=>exact q
 | cont=>exact q
noncomputable def tBreak:TS:=fun D σ H=>D.bk σ H
noncomputable def tCont:TS:=fun D σ H=>D.ct σ H
theorem Inv.quiet{pins:List (Addr×Obj)}{σ:St}{H:Hp}{s:Shared}(I:Inv X pins σ H s):interactive X.env=false:=by simp [interactive,I.ok.kind]
noncomputable def tDrop(te:TE):TS:=fun D σ H=>te σ H fun _ H1=>D.nx σ H1
theorem Z483(he:PE X e te)(hs:swapsWith e none pos.line X.env=pure false:=by rfl):PS X (.Expr e pos) (tDrop te):=by
 intro pins s σ H D I h
 exact wpAny_Expr_any (thn (he pins s σ H _ I h) fun v s1 ⟨x,H1,I1,r1,q1⟩=>⟨σ,H1,I1,q1⟩) I.quiet hs
noncomputable def tRet(te:TE):TS:=fun D σ H=>te σ H D.rt
theorem Z486(he:PE X e te):PS X (.Return (some e) pos) (tRet te):=by
 intro pins s σ H D I h
 exact wpAny_Return_some (thn (he pins s σ H _ I h) fun v s1 ⟨x,H1,I1,r1,q1⟩=>⟨x,σ,H1,I1,r1,q1⟩)
noncomputable def tRetN:TS:=fun D _ H=>D.rt .non H
noncomputable def tIfS(c:TT)(t u:TS):TS:=fun D σ H=>c σ H fun b H1=>if b=true then t D σ H1 else u D σ H1
theorem ps_if{c:Expr}{a b:List Stmt}{tc:TT}(hc:PT X c tc)(ha:PSs X a t)(hb:PSs X b u):PS X (.If c a b pos) (tIfS tc t u):=by
 intro pins s σ H D I h
 refine wpAny_If (thn (hc pins s σ H _ I h) fun d s1 ⟨H1,I1,q1⟩=>?_)
 cases d with
 | true=>exact ha pins s1 σ H1 D I1 q1
 | false=>exact hb pins s1 σ H1 D I1 q1
end

noncomputable abbrev TG:=V→St→Hp→(St→Hp→Prop)→Prop
noncomputable abbrev TGs:=List V→St→Hp→(St→Hp→Prop)→Prop
noncomputable def PG(X:Cx)(target:Expr)(t:TG):Prop :=
 ∀ (pins:List (Addr×Obj)) (s:Shared) (σ:St) (H:Hp) (v:V) (u:Value) (Q:St→Hp→Prop),Inv X pins σ H s→RelV v u→t v σ H Q →
  wpAny (model X.prog X.w) X.A (assign target X.env u) (fun _ s'=>∃ σ' H',Inv X pins σ' H' s'∧Q σ' H') X.xe s
noncomputable def PGs(X:Cx)(ts:List Expr)(t:TGs):Prop :=
 ∀ (pins:List (Addr×Obj)) (s:Shared) (σ:St) (H:Hp) (vs:List V) (us:List Value) (Q:St→Hp→Prop),Inv X pins σ H s→Vals vs us→t vs σ H Q →
  wpAny (model X.prog X.w) X.A (assignInOrder ((assignEach ts X.env).map (·.2)) us) (fun _ s'=>∃ σ' H',Inv X pins σ' H' s'∧Q σ' H') X.xe s
noncomputable abbrev TSet:=V→V→V→Hp→(Hp→Prop)→Prop
noncomputable def PSet(X:Cx)(t:TSet):Prop :=
 ∀ (pins:List (Addr×Obj)) (s:Shared) (σ:St) (H:Hp) (o i v:V) (ov iv u:Value) (Q:Hp→Prop),Inv X pins σ H s→RelV o ov→RelV i iv→RelV v u→t o i v H Q →
  wpAny (model X.prog X.w) X.A (setItem ov iv u) (fun _ s'=>∃ H',Inv X pins σ H' s'∧Q H') X.xe s
section
variable {X:Cx}{pos:Pos}
noncomputable def gName(i:Nat):TG:=fun v σ H Q=>Q (σ.set i (some v)) H
theorem Z470{i:Nat}{x:Str}(hN:X.N.Nodup)(hi:X.N[i]?=some x)(hx:Loc X.env.scope x)(hf:X.fn x=true∨X.env.scope.names.lookup x=some .local:=by first | exact .inl rfl | exact .inr rfl | assumption):PG X (.Name x pos) (gName i):=by
 intro pins s σ H v u Q I r h
 exact wpAny_assign_Name (Z601 I hN hi hx r (fun s' I'=>⟨_,H,I',h⟩) hf)
noncomputable def gNil:TGs:=fun vs σ H Q=>vs=[]∧Q σ H
noncomputable def gCons(t:TG)(u:TGs):TGs:=fun vs σ H Q=>∃ v r,vs=v::r∧t v σ H fun σ' H'=>u r σ' H' Q
theorem Z474:PGs X [] gNil:=by
 intro pins s σ H vs us Q I r h
 obtain ⟨e,h⟩:=h
 subst e
 cases r
 exact assignInOrder_nil ⟨σ,H,I,h⟩
theorem Z473{e:Expr}{es:List Expr}{t:TG}{u:TGs}(h1:PG X e t)(h2:PGs X es u)
  (hs:(assignEach (e::es) X.env).map (·.2)=assign e X.env::(assignEach es X.env).map (·.2):=by rfl):PGs X (e::es) (gCons t u):=by
 intro pins s σ H vs us Q I r h
 obtain ⟨v,vr,e1,h⟩:=h
 subst e1
 cases r with
 | cons r rr =>
  rw [hs]
  refine assignInOrder_cons (thn (h1 pins s σ H _ _ _ I r h) fun _ s1 ⟨σ1,H1,I1,q1⟩=>?_)
  exact h2 pins s1 σ1 H1 _ _ Q I1 rr q1
noncomputable def gTup(K:Qd)(n:Nat)(t:TGs):TG:=fun v σ H Q=>∃ a xs,v=.ref a∧SqT K H a xs∧xs.length=n∧t xs σ H Q
theorem Z472{es:List Expr}{k:Nat}{t:TGs}{n:Nat}(hc:X.calm=true)(h:PGs X es t)
  (hn:(assignEach es X.env).length=n:=by rfl) (hst:(assignEach es X.env).findIdx? (·.1)=none:=by rfl):PG X (.Tuple es k pos) (gTup X.K n t):=by
 intro pins s σ H v u Q I r hw
 obtain ⟨a,xs,e1,hq,hl,hw⟩:=hw
 subst e1
 cases r
 obtain ⟨its,rv,ht,hz⟩:=I.tuple hq
 refine assign_Tuple_tuple (I.ok.hd hc) ht (by simp [hn,← hl,rv.length]) hst fun h' hx=>?_
 have I1:Inv X pins σ H { s with heap:=h' }:=I.kept (t':=s.toks) fun b o e=>hx b o (Jo (Heap.lt_size e)) e
 exact h pins _ σ H xs _ Q I1 (by simpa using rv) hw
noncomputable def gSub(to ti:TE)(t:TSet):TG:=fun v σ H Q=>to σ H fun o H1=>ti σ H1 fun i H2=>t o i v H2 fun H3=>Q σ H3
theorem Z471{o i:Expr}{to ti:TE}{t:TSet}(ho:PE X o to)(hi:PE X i ti)(hs:PSet X t)
  (ha:∀ v,assign (.Subscript o i pos) X.env v=(do
   let ov ← holding [v] (eval o X.env)
   let iv ← holding [v,ov] (eval i X.env)
   standAt pos
   holding [v,ov,iv] (setItem ov iv v)
   release [v,ov,iv] []):=by intro _;rfl):PG X (.Subscript o i pos) (gSub to ti t):=by
 intro pins s σ H v u Q I r h
 rw [ha]
 refine wpAny_bind (wpAny_holding (thn (ho pins s σ H _ I h) fun ov s1 ⟨x,H1,I1,r1,q1⟩=>?_))
 refine wpAny_bind (wpAny_holding (thn (hi pins s1 σ H1 _ I1 q1) fun iv s2 ⟨y,H2,I2,r2,q2⟩=>?_))
 refine wpAny_bind (wpAny_standAt (wpAny_bind (wpAny_holding (thn (hs pins s2 σ H2 x y v ov iv u _ I2 r1 r2 r q2) fun _ s3 ⟨H3,I3,q3⟩=>?_))))
 exact wpAny_release ⟨σ,H3,I3,q3⟩
noncomputable def tAsg(te:TE)(g:TG):TS:=fun D σ H=>te σ H fun x H1=>g x σ H1 D.nx
theorem Z481{tg e:Expr}{te:TE}{g:TG}(he:PE X e te)(hg:PG X tg g)(hs:swapsWithSole [tg] e pos.line X.env=pure false:=by rfl)(hw:swappedStores [tg] e X.env=pure none:=by rfl)
  (h1:(assignEach [tg] X.env).map (·.2)=[assign tg X.env]:=by rfl):PS X (.Assign [tg] e pos) (tAsg te g):=by
 intro pins s σ H D I h
 refine wpAny_Assign_stores (thn (he pins s σ H _ I h) fun v s1 ⟨x,H1,I1,r1,q1⟩=>?_) hs hw
 rw [h1]
 exact thn (hg pins s1 σ H1 x v _ I1 r1 q1) fun _ s2 q=>q
end

section
variable {X:Cx}{pos:Pos}
end

structure It where
 go:Nat→Hp→Prop
 yld:Nat→Hp→V→Hp→Prop
 stop:Nat→Hp→Prop
noncomputable def FpOk(X:Cx)(pins:List (Addr×Obj))(H:Hp)(b:Addr):Prop :=
 H b=none∧b≠X.env.locals∧b∉X.fs∧(b∈X.ex∨X.s₀.heap.objs.size≤b)∧(∀ x c,X.env.cells.lookup x=some c→c≠b)∧∀ p∈X.pn++pins,p.1≠b
theorem Inv.fpOk{X:Cx}{pins:List (Addr×Obj)}{σ:St}{H H':Hp}{s:Shared}{b:Addr}(I:Inv X pins σ H s)(hb:s.heap.objs.size≤b)(hn:H' b=none):FpOk X pins H' b:=by
 refine ⟨hn,Nat.ne_of_gt (Jc I.lt hb),I.nofs hb,.inr (Wt I.sz hb),fun x c e z=>?_,fun p hp z=>?_⟩
 ·obtain ⟨v,q⟩:=I.cell x c e
  exact absurd (Jc q.lt (by rw [z];exact hb)) (Jw _)
 ·exact absurd (Jc (Heap.lt_size (I.pin p hp).1) (by rw [z];exact hb)) (Jw _)
structure Turn(P:Program)(w:World)(K:Qd)(tg:Expr)(J:It)(fp:List Addr)(it:Addr)(tn:Nat→Heap→Prop):Prop where
 mem:it∈fp
 obj:∀ i h,tn i h→∀ b∈fp,∃ o,h.get? b=some o∧∀ v,o.data≠.cell v
 keep:∀ i h h',tn i h→(∀ b∈fp,∀ o,h.get? b=some o→h'.get? b=some o)→tn i h'
 item:∀ (X:Cx),X.prog=P→X.w=w→X.K=K→X.calm=true→∀ (i:Nat) (pins:List (Addr×Obj)) (s:Shared) (σ:St) (H:Hp) (E:Value→Shared→Prop),Inv X pins σ H s→(∀ b∈fp,FpOk X pins H b)→tn i s.heap→J.go i H →
  wpAny (model P w) X.A (pyNext (.ref it)) (fun r s1=>∃ u,r=some u ∧
   wpAny (model P w) X.A (letOwnedTupleGo tg (.ref it) u) (fun _ s2=>∃ x H',Inv X pins σ H' s2∧RelV x u∧J.yld i H x H'∧tn (i + 1) s2.heap∧∀ b∈fp,H' b=none) E s1) E s
 done:∀ (X:Cx),X.prog=P→X.w=w→X.K=K→X.calm=true→∀ (i:Nat) (pins:List (Addr×Obj)) (s:Shared) (σ:St) (H:Hp) (E:Value→Shared→Prop),Inv X pins σ H s→(∀ b∈fp,FpOk X pins H b)→tn i s.heap→J.stop i H →
  wpAny (model P w) X.A (pyNext (.ref it)) (fun r s1=>r=none∧Inv X pins σ H s1) E s
 self:∀ (A:Around) (i:Nat) (s:Shared) (Q:Value→Shared→Prop) (E:Value→Shared→Prop),tn i s.heap→Q (.ref it) s→wpAny (model P w) A (pyIter (.ref it)) Q E s
noncomputable abbrev TI:=St→Hp→(It→Hp→Prop)→Prop
noncomputable def PIE(X:Cx)(pins:List (Addr×Obj))(σ:St)(tg:Expr)(R:It→Hp→Prop)(itv:Value)(s2:Shared):Prop :=
 ∃ (it:Addr) (fp:List Addr) (tn:Nat→Heap→Prop) (J:It) (H':Hp),itv=.ref it∧Inv X pins σ H' s2∧Turn X.prog X.w X.K tg J fp it tn∧tn 0 s2.heap∧(∀ b∈fp,FpOk X pins H' b)∧R J H'
noncomputable def PI(X:Cx)(tg iter:Expr)(wi:TI):Prop :=
 ∀ (pins:List (Addr×Obj)) (s:Shared) (σ:St) (H:Hp) (R:It→Hp→Prop),Inv X pins σ H s→wi σ H R →
  wpAny (model X.prog X.w) X.A (eval iter X.env) (fun v s1=>wpAny (model X.prog X.w) X.A (pyIter v) (PIE X pins σ tg R) X.xe s1) X.xe s
theorem go_of{M:Model}{A:Around}{E:Value→Shared→Prop}{s:Shared}{tg:Expr}{it:Addr}{u:Value}{o:Obj}{n:String}{vs:Array Value}{Q:Unit→Shared→Prop}(ho:s.heap.get? it=some o)(hc:o.cls=.type n)(hd:o.data=.fields vs)
    (hn:["enumerate", "zip", "dict_itemiterator", "dict_reverseitemiterator", "odict_iterator", "itertools.zip_longest", "itertools.pairwise"].contains n=false) (hQ:Q () s):wpAny M A (letOwnedTupleGo tg (.ref it) u) Q E s:=by
  unfold letOwnedTupleGo
  cases tg <;> first
    | exact wpAny_pure hQ
    | (cases u <;> first
        | exact wpAny_pure hQ
        | (refine wpAny_bind (wpAny_load ho ?_)
           rw [hc,hd]
           show wpAny M A (if (["enumerate", "zip", "dict_itemiterator", "dict_reverseitemiterator", "odict_iterator", "itertools.zip_longest", "itertools.pairwise"].contains n && vs[0]? == some (rawInt _))=true then _ else _) Q E s
           rw [if_neg (by intro h;rw [hn,Bool.false_and] at h;cases h)]
           exact wpAny_pure hQ))
noncomputable def Itl(K:Qd)(a:Addr):It :=
 ⟨fun i H=>∃ xs x,SqL K H a xs∧xs[i]?=some x,fun i H x H'=>H'=H∧∀ xs,SqL K H a xs→xs[i]?=some x,fun i H=>∃ xs,SqL K H a xs∧xs.length≤i⟩
noncomputable def Itt(K:Qd)(a:Addr):It :=
 ⟨fun i H=>∃ xs x,SqT K H a xs∧xs[i]?=some x,fun i H x H'=>H'=H∧∀ xs,SqT K H a xs→xs[i]?=some x,fun i H=>∃ xs,SqT K H a xs∧xs.length≤i⟩
noncomputable def Itr(lo:Int)(n:Nat):It:=⟨fun i _=>i < n,fun i H x H'=>H'=H∧x=.int (lo + i),fun i _=>n≤i⟩
theorem Z634{P:Program}{w:World}{K:Qd}{tg:Expr}(a it:Addr):Turn P w K tg (Itl K a) [it] it (fun i h=>h.IsListIter it a i) where
 mem:=by simp
 obj:=fun i h st b hb=>by
  have e:b=it:=by simpa using hb
  subst e
  obtain ⟨o,e,c,d⟩:=st
  exact ⟨o,e,fun v z=>by rw [d] at z;cases z⟩
 keep:=fun i h h' st k=>st.at fun o e=>k it (by simp) o e
 item:=by
  intro X hP hw hK hc i pins s σ H E I hf st hg
  subst hP hw hK
  obtain ⟨xs,x,hq,hx⟩:=hg
  obtain ⟨its,rv,p,hz⟩:=I.list hq
  obtain ⟨u,hu,ru⟩:=rv.get hx
  obtain ⟨f0,f1,f2,f3,f4,f5⟩:=hf it (by simp)
  refine wpAny_pyNext_list_item st p.isList (x:=u) (by simpa using hu) fun h' st' sb=>?_
  have I1:Inv X pins σ H { s with heap:=h' }:=I.turned (t':=s.toks) (fun b o hb e=>(sb.2 b hb).trans e) f0 f1 f3 f4 f5
  obtain ⟨o,e,c,d⟩:=id st'
  exact ⟨u,rfl,go_of (s:={ s with heap:=h' }) e c d (by decide) ⟨x,H,I1,ru,⟨rfl,fun ys hy=>by rw [I.list_inj hy hq];exact hx⟩,st',fun b hb=>(hf b hb).1⟩⟩
 done:=by
  intro X hP hw hK hc i pins s σ H E I hf st hg
  subst hP hw hK
  obtain ⟨xs,hq,hx⟩:=hg
  obtain ⟨its,rv,p,hz⟩:=I.list hq
  obtain ⟨f0,f1,f2,f3,f4,f5⟩:=hf it (by simp)
  have hl:=rv.length
  exact wpAny_pyNext_list_end (I.ok.hd hc) st p.isList (by simp;omega) fun h' eb=>⟨rfl,I.turned (t':=s.toks) (fun b o hb e=>eb b o hb e) f0 f1 f3 f4 f5⟩
 self:=fun _ _ _ _ _ st h=>wpAny_pyIter_listiter st h
theorem Z636{P:Program}{w:World}{K:Qd}{tg:Expr}(a it:Addr):Turn P w K tg (Itt K a) [it] it (fun i h=>h.IsTupleIter it a i) where
 mem:=by simp
 obj:=fun i h st b hb=>by
  have e:b=it:=by simpa using hb
  subst e
  obtain ⟨o,e,c,d⟩:=st
  exact ⟨o,e,fun v z=>by rw [d] at z;cases z⟩
 keep:=fun i h h' st k=>st.at fun o e=>k it (by simp) o e
 item:=by
  intro X hP hw hK hc i pins s σ H E I hf st hg
  subst hP hw hK
  obtain ⟨xs,x,hq,hx⟩:=hg
  obtain ⟨its,rv,p,hz⟩:=I.tuple hq
  obtain ⟨u,hu,ru⟩:=rv.get hx
  obtain ⟨f0,f1,f2,f3,f4,f5⟩:=hf it (by simp)
  refine wpAny_pyNext_tuple_item st (show s.heap.IsTuple a its.toArray from p) (x:=u) (by simpa using hu) fun h' st' sb=>?_
  have I1:Inv X pins σ H { s with heap:=h' }:=I.turned (t':=s.toks) (fun b o hb e=>(sb.2 b hb).trans e) f0 f1 f3 f4 f5
  obtain ⟨o,e,c,d⟩:=id st'
  exact ⟨u,rfl,go_of (s:={ s with heap:=h' }) e c d (by decide) ⟨x,H,I1,ru,⟨rfl,fun ys hy=>by rw [I.tuple_inj hy hq];exact hx⟩,st',fun b hb=>(hf b hb).1⟩⟩
 done:=by
  intro X hP hw hK hc i pins s σ H E I hf st hg
  subst hP hw hK
  obtain ⟨xs,hq,hx⟩:=hg
  obtain ⟨its,rv,p,hz⟩:=I.tuple hq
  obtain ⟨f0,f1,f2,f3,f4,f5⟩:=hf it (by simp)
  have hl:=rv.length
  exact wpAny_pyNext_tuple_end (I.ok.hd hc) st (show s.heap.IsTuple a its.toArray from p) (by simp;omega) fun h' eb=>⟨rfl,I.turned (t':=s.toks) (fun b o hb e=>eb b o hb e) f0 f1 f3 f4 f5⟩
 self:=fun _ _ _ _ _ st h=>wpAny_pyIter_tupleiter st h
theorem Z635{P:Program}{w:World}{K:Qd}{tg:Expr}(it:Addr)(lo:Int)(n:Nat):Turn P w K tg (Itr lo n) [it] it (fun i h=>IsRangeIter h it (lo + (i:Nat) * 1) ((n:Int) - (i:Nat)) 1) where
 mem:=by simp
 obj:=fun i h st b hb=>by
  have e:b=it:=by simpa using hb
  subst e
  exact ⟨_,st,fun v z=>by
   have z':Data.fields _=Data.cell v:=z
   cases z'⟩
 keep:=fun i h h' st k=>k it (by simp) _ st
 item:=by
  intro X hP hw hK hc i pins s σ H E I hf st hg
  subst hP hw hK
  obtain ⟨f0,f1,f2,f3,f4,f5⟩:=hf it (by simp)
  have W:=Walks.range (prog:=X.prog) (w:=X.w) (I.ok.hd hc) it lo 1 n
  refine W.item i s _ _ hg st fun v h' tk hv st' kk=>?_
  obtain ⟨t,rfl⟩:=hv
  have I1:Inv X pins σ H { s with heap:=h',toks:=tk }:=I.turned (fun b o hb e=>kk b o (by simpa using hb) e) f0 f1 f3 f4 f5
  refine ⟨_,rfl,go_of (s:={ s with heap:=h',toks:=tk }) (n := "range_iterator") st' rfl rfl (by decide) ⟨.int (lo + i),H,I1,⟨t,?_⟩,⟨rfl,rfl⟩,st',fun b hb=>(hf b hb).1⟩⟩
  rw [Int.mul_one]
 done:=by
  intro X hP hw hK hc i pins s σ H E I hf st hg
  subst hP hw hK
  obtain ⟨f0,f1,f2,f3,f4,f5⟩:=hf it (by simp)
  exact wpAny_pyNext_range_end (I.ok.hd hc) st (by have:n≤i:=hg;omega) fun h' eb=>⟨rfl,I.turned (t':=s.toks) (fun b o hb e=>eb b o hb e) f0 f1 f3 f4 f5⟩
 self:=fun _ _ _ _ _ st h=>wpAny_pyIter_rangeiter st h
end L2
namespace L2
open PySem PySem.Spec PyProof.Rows
section
variable {X:Cx}{tg:Expr}
theorem Z504{pins:List (Addr×Obj)}{σ:St}{H:Hp}{s:Shared}{R:It→Hp→Prop}{E:Value→Shared→Prop}{lo hi:Int}{t u v:Tok}{tk:Nat}(I:Inv X pins σ H s)(h1:-(2 ^ 62)≤lo)(h2:lo < 2 ^ 62)(h3:-(2 ^ 62)≤hi)(h4:hi < 2 ^ 62)
  (q:R (Itr lo (hi - lo).toNat) H):wpAny (model X.prog X.w) X.A (pyIter (.ref s.heap.objs.size)) (PIE X pins σ tg R) E { s with heap:=s.heap.push { cls:=.type "range",data:=.fields #[.int lo t,.int hi u,.int 1 v] },toks:=tk }:=by
 refine wpAny_pyIter_range (IsRange.new ..) (small_one h1 h2 h3 h4) ?_
 have I1:Inv X pins σ H { s with heap:=s.heap.push { cls:=.type "range",data:=.fields #[.int lo t,.int hi u,.int 1 v] },toks:=tk }:=I.kept fun b o e=>Heap.get?_push_of_some _ e
 refine ⟨(s.heap.push { cls:=.type "range",data:=.fields #[.int lo t,.int hi u,.int 1 v] }).objs.size,[(s.heap.push { cls:=.type "range",data:=.fields #[.int lo t,.int hi u,.int 1 v] }).objs.size],_,_,H,rfl,
  I1.kept (t':=tk) fun b o e=>Heap.get?_push_of_some _ e,Z635 _ lo (hi - lo).toNat,?_,fun b hb=>?_,q⟩
 ·have e1:lo + ((0:Nat):Int) * 1=lo:=by simp
  have e2:(((hi - lo).toNat:Nat):Int) - ((0:Nat):Int)=Builtin.Range.rangeSize lo hi 1:=by rw [rangeSize_one];split <;> omega
  show IsRangeIter _ _ (lo + ((0:Nat):Int) * 1) ((((hi - lo).toNat:Nat):Int) - ((0:Nat):Int)) 1
  rw [e1,e2]
  exact Heap.get?_push_size _ rfl
 ·have e:b=(s.heap.push { cls:=.type "range",data:=.fields #[.int lo t,.int hi u,.int 1 v] }).objs.size:=by simpa using hb
  subst e
  exact I1.fpOk (Qu _) (I1.hok.fresh (Qu _))
noncomputable def iRng1(ta:TA):TI:=fun σ H R=>ta σ H fun vs H1=>∃ j:Int,vs=[.int j]∧-(2 ^ 62)≤j∧j < 2 ^ 62∧R (Itr 0 j.toNat) H1
theorem Z475{a:Expr}{ta:TA}{p pos:Pos}(hg:Gl X "range")(hm:X.mg "range"=none)(ha:PA X [a] ta)(hs:starEach [a] X.env=[(false,eval a X.env)]:=by rfl):PI X tg (.Call (.Name "range" p) [a] [] pos) (iRng1 ta):=by
 intro pins s σ H R I h
 refine Call_ (Z333 I hg hm boot_range (PyProof.Rows.callWith_type1 (thn (ha pos pins s σ H _ I h) fun us s1 ⟨vs,H1,I1,r1,q1⟩=>?_) hs rfl))
 obtain ⟨j,e,q1,q2,q⟩:=q1
 subst e
 cases r1 with
 | cons r rr =>
  cases rr
  obtain ⟨t,rfl⟩:=r
  exact call_range_1 (Z504 I1 (by omega) (by omega) q1 q2 (by simpa using q))

noncomputable def tFor(wi:TI)(g:TG)(tb:TS):TS:=fun D σ H=>wi σ H fun J H1=>∃ W:Nat→Nat→St→Hp→Prop,(∃ m,W 0 m σ H1)∧∀ i m σ H,W i m σ H →
 (J.stop i H∧D.nx σ H)∨(J.go i H∧∃ N:St→Hp→Prop,(∀ σ' H',N σ' H'→∃ m',m' < m∧W (i + 1) m' σ' H')∧∀ x H',J.yld i H x H'→g x σ H' fun σ2 H2=>tb { D with nx:=N,ct:=N,bk:=D.nx } σ2 H2)
noncomputable def pinsAt(fp:List Addr)(h:Heap):List (Addr×Obj):=fp.filterMap fun b=>(h.get? b).map fun o=>(b,o)
theorem Z361{fp:List Addr}{h:Heap}{b:Addr}{o:Obj}(hb:b∈fp)(e:h.get? b=some o):(b,o)∈pinsAt fp h:=List.mem_filterMap.mpr ⟨b,hb,by rw [e];rfl⟩
theorem Z402{fp:List Addr}{h:Heap}{p:Addr×Obj}(hp:p∈pinsAt fp h):p.1∈fp∧h.get? p.1=some p.2:=by
 obtain ⟨b,hb,e⟩:=List.mem_filterMap.mp hp
 cases q:h.get? b with
 | none=>rw [q] at e;cases e
 | some o =>
  rw [q] at e
  have e':(b,o)=p:=Option.some.inj e
  subst e'
  exact ⟨hb,q⟩
theorem Inv.pinned{pins:List (Addr×Obj)}{σ:St}{H:Hp}{s:Shared}{fp:List Addr}(I:Inv X pins σ H s)(hf:∀ b∈fp,FpOk X pins H b)(ho:∀ b∈fp,∃ o,s.heap.get? b=some o∧∀ v,o.data≠.cell v):Inv X (pins++pinsAt fp s.heap) σ H s :=
 I.pins_of fun p hp=>(Qe.mp hp).elim (fun z=>I.pin p (Qf _ z)) fun z=>by
  obtain ⟨hb,e⟩:=Z402 z
  obtain ⟨f0,f1,f2,_⟩:=hf p.1 hb
  obtain ⟨o,e',d⟩:=ho p.1 hb
  rw [e] at e';cases e'
  exact ⟨e,f0,f1,f2,d⟩
theorem Inv.unpinned{pins pl:List (Addr×Obj)}{σ:St}{H:Hp}{s:Shared}(I:Inv X (pins++pl) σ H s):Inv X pins σ H s:=I.pins_of fun p hp=>I.pin p (Qf _ (Qi _ hp))
theorem Z484{iter:Expr}{body:List Stmt}{wi:TI}{g:TG}{tb:TS}{pos:Pos}(hp:PassesOwn (model X.prog X.w) X.A X.env X.xe)(hc:X.calm=true)(hi:PI X tg iter wi)(hg:PG X tg g)(hb:PSs X body tb)
  (hs:∀ x,foldedSetIterable iter X.env x=pure x:=by intro _;rfl):PS X (.For tg iter body [] pos) (tFor wi g tb):=by
 intro pins s σ H D I h
 refine wpAny_For (thn (hi pins s σ H _ I h) fun v s1 h1=>thn h1 fun itv s2 h2=>?_) hs
 obtain ⟨it,fp,tn,J,H2,e,I2,T,st2,f2,W,⟨m0,w0⟩,turn⟩:=h2
 subst e
 have stat:∀ {H':Hp},(∀ b∈fp,H' b=none)→∀ b∈fp,FpOk X pins H' b:=fun hn b hb=>⟨hn b hb,(f2 b hb).2⟩
 refine codeAny_forLoop_any (fun n s'=>∃ i σ' H',Inv X pins σ' H' s'∧tn i s'.heap∧(∀ b∈fp,H' b=none)∧W i n σ' H') ?_ m0 ⟨0,σ,H2,I2,st2,fun b hb=>(f2 b hb).1,w0⟩
 rintro n s3 ⟨i,σ3,H3,I3,st3,fr3,w3⟩
 rcases turn i n σ3 H3 w3 with ⟨stop,qn⟩ | ⟨go,N,hN,step⟩
 ·refine wpAny_passesOwn hp (thn (T.done X rfl rfl rfl hc i pins s3 σ3 H3 X.xe I3 (stat fr3) st3 stop) fun r s4 ⟨hr,I4⟩=>?_)
  subst hr
  exact wpAny_execs_nil ⟨σ3,H3,I4,qn⟩
 ·refine wpAny_passesOwn hp (thn (T.item X rfl rfl rfl hc i pins s3 σ3 H3 X.xe I3 (stat fr3) st3 go) fun r s4 ⟨u,hr,h4⟩=>?_)
  subst hr
  refine wpAny_passesOwn hp (thn h4 fun _ s5 ⟨x,H5,I5,r5,y5,st5,fr5⟩=>?_)
  have I5':=I5.pinned (stat fr5) (T.obj _ _ st5)
  refine wpAny_passesOwn hp (thn (hg _ s5 σ3 H5 x u _ I5' r5 (step x H5 y5)) fun _ s6 ⟨σ6,H6,I6,q6⟩=>?_)
  refine wpAny_passesOwn hp (thn (hb _ s6 σ6 H6 _ I6 q6) fun f s7 q7=>?_)
  have again:∀ {σ7:St} {H7:Hp},Inv X (pins++pinsAt fp s5.heap) σ7 H7 s7→N σ7 H7→∃ m,m < n∧∃ i σ' H',Inv X pins σ' H' s7∧tn i s7.heap∧(∀ b∈fp,H' b=none)∧W i m σ' H':=fun {σ7 H7} I7 n7=>by
   obtain ⟨m',hm,w7⟩:=hN σ7 H7 n7
   refine ⟨m',hm,i + 1,σ7,H7,I7.unpinned,T.keep _ _ _ st5 fun b hb o e=>(I7.pin (b,o) (Qf _ (Qf _ (Z361 hb e)))).1,fun b hb=>?_,w7⟩
   obtain ⟨o,e,d⟩:=T.obj _ _ st5 b hb
   exact (I7.pin (b,o) (Qf _ (Qf _ (Z361 hb e)))).2.1
  cases f with
  | next=>obtain ⟨σ7,H7,I7,n7⟩:=q7;exact again I7 n7
  | cont=>obtain ⟨σ7,H7,I7,n7⟩:=q7;exact again I7 n7
  | brk=>obtain ⟨σ7,H7,I7,q7⟩:=q7;exact ⟨σ7,H7,I7.unpinned,q7⟩
  | ret v=>obtain ⟨x7,σ7,H7,I7,r7,q7⟩:=q7;exact ⟨x7,σ7,H7,I7.unpinned,r7,q7⟩
end

end L2
namespace L2
open PySem PySem.Spec PyProof.Rows
noncomputable abbrev R2:=V→V→Hp→VK→Prop
noncomputable def OpR(X:Cx)(f:Value→Value→Sem Value)(r:R2):Prop :=
 ∀ (pins:List (Addr×Obj)) (s:Shared) (σ:St) (H:Hp) (x y:V) (v u:Value) (Q:VK),Inv X pins σ H s→RelV x v→RelV y u→r x y H Q →
  wpAny (model X.prog X.w) X.A (f v u) (EP X pins σ Q) X.xe s
noncomputable def UnR(X:Cx)(f:Value→Sem Value)(r:V→Hp→VK→Prop):Prop :=
 ∀ (pins:List (Addr×Obj)) (s:Shared) (σ:St) (H:Hp) (x:V) (v:Value) (Q:VK),Inv X pins σ H s→RelV x v→r x H Q →
  wpAny (model X.prog X.w) X.A (f v) (EP X pins σ Q) X.xe s
noncomputable def CallR(X:Cx)(f:Value)(r:List V→Hp→VK→Prop):Prop :=
 ∀ (pins:List (Addr×Obj)) (s:Shared) (σ:St) (H:Hp) (xs:List V) (us:List Value) (Q:VK),Inv X pins σ H s→Vals xs us→r xs H Q →
  wpAny (model X.prog X.w) X.A (call f us) (EP X pins σ Q) X.xe s
noncomputable def tOp(r:R2)(ta tb:TE):TE:=fun σ H Q=>ta σ H fun x H1=>tb σ H1 fun y H2=>r x y H2 Q
noncomputable def tUn(r:V→Hp→VK→Prop)(ta:TE):TE:=fun σ H Q=>ta σ H fun x H1=>r x H1 Q
noncomputable def rI(C:Int→Int→Prop)(g:Int→Int→V):R2:=fun x y H Q=>∃ i j,x=.int i∧y=.int j∧C i j∧Q (g i j) H
noncomputable def rI0(g:Int→Int→V):R2:=fun x y H Q=>∃ i j,x=.int i∧y=.int j∧Q (g i j) H
noncomputable def rU(g:Int→V):V→Hp→VK→Prop:=fun x H Q=>∃ i,x=.int i∧Q (g i) H
section
variable {X:Cx}{a b c:Expr}{ta tb tc:TE}{pos:Pos}
theorem binT(ha:PE X a ta)(hb:PE X b tb){pins:List (Addr×Obj)}{s:Shared}{σ:St}{H:Hp}{R:V→V→Hp→Prop}(I:Inv X pins σ H s)
  (h:ta σ H fun x H1=>tb σ H1 fun y H2=>R x y H2) {Q:Value→Shared→Prop} {f:Value→Value→Sem Value}
  (hf:∀ v u s2 x y H2,Inv X pins σ H2 s2→RelV x v→RelV y u→R x y H2→wpAny (model X.prog X.w) X.A (f v u) Q X.xe s2) :
  wpAny (model X.prog X.w) X.A (eval a X.env) (fun v s₁=>wpAny (model X.prog X.w) X.A (eval b X.env) (fun u s₂=>wpAny (model X.prog X.w) X.A (f v u) Q X.xe s₂) X.xe s₁) X.xe s:=by
 refine thn (ha pins s σ H _ I h) fun v s1 ⟨x,H1,I1,r1,q1⟩=>?_
 refine thn (hb pins s1 σ H1 _ I1 q1) fun u s2 ⟨y,H2,I2,r2,q2⟩=>?_
 exact hf v u s2 x y H2 I2 r1 r2 q2
theorem pe_op{op:Operator}{r:R2}(ho:OpR X (binaryOp op) r)(ha:PE X a ta)(hb:PE X b tb):PE X (.BinOp a op b pos) (tOp r ta tb):=by
 intro pins s σ H Q I h
 exact wpAny_BinOp (binT ha hb I h fun v u s2 x y H2 I2 rx ry q=>ho pins s2 σ H2 x y v u Q I2 rx ry q)
theorem pe_un{op:UnaryOp}{r:V→Hp→VK→Prop}(ho:UnR X (unaryOp op) r)(ha:PE X a ta):PE X (.UnaryOp op a pos) (tUn r ta):=by
 intro pins s σ H Q I h
 exact UnaryOp_ (thn (ha pins s σ H _ I h) fun v s1 ⟨x,H1,I1,r1,q1⟩=>ho pins s1 σ H1 x v Q I1 r1 q1)

theorem opI{f:Value→Value→Sem Value}{C:Int→Int→Prop}{g:Int→Int→Int}
  (rule:∀ (i j:Int) (t u:Tok) (s:Shared) (Q:Value→Shared→Prop) (E:Value→Shared→Prop),C i j→Q (.int (g i j) s.toks) { s with toks:=s.toks + 1 }→wpAny (model X.prog X.w) X.A (f (.int i t) (.int j u)) Q E s) :
  OpR X f (rI C fun i j=>.int (g i j)):=by
 intro pins s σ H x y v u Q I rx ry h
 obtain ⟨i,j,rfl,rfl,hc,q⟩:=h
 obtain ⟨t,rfl⟩:=rx
 obtain ⟨t',rfl⟩:=ry
 exact rule i j t t' s _ _ hc ⟨.int (g i j),H,I.tok _,⟨_,rfl⟩,q⟩
theorem opI0{f:Value→Value→Sem Value}{g:Int→Int→Int}
  (rule:∀ (i j:Int) (t u:Tok) (s:Shared) (Q:Value→Shared→Prop) (E:Value→Shared→Prop),Q (.int (g i j) s.toks) { s with toks:=s.toks + 1 }→wpAny (model X.prog X.w) X.A (f (.int i t) (.int j u)) Q E s) :
  OpR X f (rI0 fun i j=>.int (g i j)):=by
 intro pins s σ H x y v u Q I rx ry h
 obtain ⟨i,j,rfl,rfl,q⟩:=h
 obtain ⟨t,rfl⟩:=rx
 obtain ⟨t',rfl⟩:=ry
 exact rule i j t t' s _ _ ⟨.int (g i j),H,I.tok _,⟨_,rfl⟩,q⟩
theorem opB0{f:Value→Value→Sem Value}{g:Int→Int→Bool}
  (rule:∀ (i j:Int) (t u:Tok) (s:Shared) (Q:Value→Shared→Prop) (E:Value→Shared→Prop),Q (.bool (g i j)) s→wpAny (model X.prog X.w) X.A (f (.int i t) (.int j u)) Q E s) :
  OpR X f (rI0 fun i j=>.bl (g i j)):=by
 intro pins s σ H x y v u Q I rx ry h
 obtain ⟨i,j,rfl,rfl,q⟩:=h
 obtain ⟨t,rfl⟩:=rx
 obtain ⟨t',rfl⟩:=ry
 exact rule i j t t' s _ _ ⟨.bl (g i j),H,I,rfl,q⟩
noncomputable def CDiv(i j:Int):Prop:=0 < j∧j < 1073741824
noncomputable def CMul(i j:Int):Prop:=(-(2 ^ 64) < i∧i < 2 ^ 64)∨(-(2 ^ 64) < j∧j < 2 ^ 64)
theorem CMul.ok{i j:Int}(h:CMul i j):IntMulOk i j:=by
 rcases h with ⟨h1,h2⟩ | ⟨h1,h2⟩
 ·exact .of_left (intBits_le_64 h1 h2)
 ·exact .of_right (intBits_le_64 h1 h2)
theorem Z429:OpR X (binaryOp .Add) (rI0 fun i j=>.int (i + j)):=opI0 fun _ _ _ _ _ _ _ q=>add_int q
theorem Z437:OpR X (binaryOp .Sub) (rI0 fun i j=>.int (i - j)):=opI0 fun _ _ _ _ _ _ _ q=>sub_int q
theorem Z434:OpR X (binaryOp .Mult) (rI CMul fun i j=>.int (i * j)):=opI fun _ _ _ _ _ _ _ hc q=>mul_int q hc.ok
theorem Z431:OpR X (binaryOp .FloorDiv) (rI CDiv fun i j=>.int (i / j)):=opI fun i j _ _ _ _ _ hc q=>by
 have h1:(0:Int) < j:=hc.1
 have h2:j < 1073741824:=hc.2
 exact floordiv_int (by omega) (by rw [Int.fdiv_eq_ediv_of_nonneg i (by omega)];exact q) (.inl (PyProof.noPylong_small (by omega)))
theorem Z433:OpR X (binaryOp .Mod) (rI (fun _ j=>0 < j) fun i j=>.int (i % j)):=opI fun i j _ _ _ _ _ hc q=>by
 have h1:(0:Int) < j:=hc
 exact mod_int' (by omega) (by rw [Int.fmod_eq_emod_of_nonneg i (by omega)];exact q)
theorem unI{f:Value→Sem Value}{g:Int→Int}
  (rule:∀ (i:Int) (t:Tok) (s:Shared) (Q:Value→Shared→Prop) (E:Value→Shared→Prop),Q (.int (g i) s.toks) { s with toks:=s.toks + 1 }→wpAny (model X.prog X.w) X.A (f (.int i t)) Q E s) :
  UnR X f (rU fun i=>.int (g i)):=by
 intro pins s σ H x v Q I rx h
 obtain ⟨i,rfl,q⟩:=h
 obtain ⟨t,rfl⟩:=rx
 exact rule i t s _ _ ⟨.int (g i),H,I.tok _,⟨_,rfl⟩,q⟩
theorem Z640:UnR X (unaryOp .USub) (rU fun i=>.int (-i)):=unI fun _ _ _ _ _ q=>neg_int q

end

noncomputable def scal:V→V→Bool
 | .non,.non=>true | .non,.int _=>true | .int _,.non=>true | .non,.bl _=>true | .bl _,.non=>true | .non,.str _=>true | .str _,.non=>true
 | .int _,.int _=>true | .bl _,.bl _=>true | .str _,.str _=>true | .byt _,.byt _=>true
 | .int _,.str _=>true | .str _,.int _=>true | .bl _,.str _=>true | .str _,.bl _=>true
 | _,_=>false
noncomputable def rEq:R2:=fun x y H Q=>scal x y=true∧Q (.bl (decide (x=y))) H
noncomputable def rNe:R2:=fun x y H Q=>scal x y=true∧Q (.bl (!decide (x=y))) H
theorem Z88{i j:Int}:decide (V.int i=V.int j)=(i == j):=by
 rw [Bool.eq_iff_iff]
 simp
theorem Z86{i j:Bool}:decide (V.bl i=V.bl j)=(i == j):=by
 rw [Bool.eq_iff_iff]
 simp
theorem Z89{i j:Str}:decide (V.str i=V.str j)=(i == j):=by
 rw [Bool.eq_iff_iff]
 simp
theorem Z87{i j:Array UInt8}:decide (V.byt i=V.byt j)=(i.toList == j.toList):=by
 rw [Bool.eq_iff_iff]
 cases i
 cases j
 simp
section
variable {X:Cx}{a b c:Expr}{ta tb tc:TE}{pos:Pos}
theorem Z192{pins:List (Addr×Obj)}{σ:St}{H:Hp}{s:Shared}{Q:VK}{k k':Bool}(I:Inv X pins σ H s)(q:Q (.bl k) H)(e:k=k'):EP X pins σ Q (.bool k') s:=by
 subst e
 exact ⟨.bl k,H,I,rfl,q⟩
theorem op_eq:OpR X (compareOp .Eq) rEq:=by
 intro pins s σ H x y v u Q I rx ry h
 obtain ⟨hs,q⟩:=h
 cases x with
 | non =>
  cases rx
  cases y with
  | non=>cases ry;exact PySem.EqNone.eq_none_none (Z192 I q (by simp))
  | bl j=>cases ry;exact PySem.EqNone.eq_none_bool (Z192 I q (by simp))
  | int j=>obtain ⟨t',rfl⟩:=ry;exact PySem.EqNone.eq_none_int (Z192 I q (by simp))
  | str j=>obtain ⟨t',rfl⟩:=ry;exact PySem.EqNone.eq_none_str (Z192 I q (by simp))
  | _=>exact absurd (show false=true from hs) Qt
 | bl i =>
  cases rx
  cases y with
  | non=>cases ry;exact PySem.EqNone.eq_bool_none (Z192 I q (by simp))
  | bl j=>cases ry;exact eq_bool (Z192 I q Z86)
  | str j=>obtain ⟨t',rfl⟩:=ry;exact PySem.EqMixed.eq_bool_str (Z192 I q (by simp))
  | _=>exact absurd (show false=true from hs) Qt
 | int i =>
  obtain ⟨t,rfl⟩:=rx
  cases y with
  | non=>cases ry;exact PySem.EqNone.eq_int_none (Z192 I q (by simp))
  | int j=>obtain ⟨t',rfl⟩:=ry;exact eq_int (Z192 I q Z88)
  | str j=>obtain ⟨t',rfl⟩:=ry;exact PySem.EqMixed.eq_int_str (Z192 I q (by simp))
  | _=>exact absurd (show false=true from hs) Qt
 | str i =>
  obtain ⟨t,rfl⟩:=rx
  cases y with
  | non=>cases ry;exact PySem.EqNone.eq_str_none (Z192 I q (by simp))
  | bl j=>cases ry;exact PySem.EqMixed.eq_str_bool (Z192 I q (by simp))
  | int j=>obtain ⟨t',rfl⟩:=ry;exact PySem.EqMixed.eq_str_int (Z192 I q (by simp))
  | str j=>obtain ⟨t',rfl⟩:=ry;exact eq_str (Z192 I q Z89)
  | _=>exact absurd (show false=true from hs) Qt
 | byt i =>
  obtain ⟨t,rfl⟩:=rx
  cases y with
  | byt j=>obtain ⟨t',rfl⟩:=ry;exact PySem.W.eq_bytes (Z192 I q Z87)
  | _=>exact absurd (show false=true from hs) Qt
 | _=>cases y <;> exact absurd (show false=true from hs) Qt
theorem op_ne:OpR X (compareOp .NotEq) rNe:=by
 intro pins s σ H x y v u Q I rx ry h
 obtain ⟨hs,q⟩:=h
 cases x with
 | non =>
  cases rx
  cases y with
  | non=>cases ry;exact PySem.EqNone.ne_none_none (Z192 I q (by simp))
  | bl j=>cases ry;exact PySem.EqNone.ne_none_bool (Z192 I q (by simp))
  | int j=>obtain ⟨t',rfl⟩:=ry;exact PySem.EqNone.ne_none_int (Z192 I q (by simp))
  | str j=>obtain ⟨t',rfl⟩:=ry;exact PySem.EqNone.ne_none_str (Z192 I q (by simp))
  | _=>exact absurd (show false=true from hs) Qt
 | bl i =>
  cases rx
  cases y with
  | non=>cases ry;exact PySem.EqNone.ne_bool_none (Z192 I q (by simp))
  | bl j=>cases ry;exact ne_bool (Z192 I q (congrArg not Z86))
  | str j=>obtain ⟨t',rfl⟩:=ry;exact PySem.EqMixed.ne_bool_str (Z192 I q (by simp))
  | _=>exact absurd (show false=true from hs) Qt
 | int i =>
  obtain ⟨t,rfl⟩:=rx
  cases y with
  | non=>cases ry;exact PySem.EqNone.ne_int_none (Z192 I q (by simp))
  | int j=>obtain ⟨t',rfl⟩:=ry;exact ne_int (Z192 I q (congrArg not Z88))
  | str j=>obtain ⟨t',rfl⟩:=ry;exact PySem.EqMixed.ne_int_str (Z192 I q (by simp))
  | _=>exact absurd (show false=true from hs) Qt
 | str i =>
  obtain ⟨t,rfl⟩:=rx
  cases y with
  | non=>cases ry;exact PySem.EqNone.ne_str_none (Z192 I q (by simp))
  | bl j=>cases ry;exact PySem.EqMixed.ne_str_bool (Z192 I q (by simp))
  | int j=>obtain ⟨t',rfl⟩:=ry;exact PySem.EqMixed.ne_str_int (Z192 I q (by simp))
  | str j=>obtain ⟨t',rfl⟩:=ry;exact ne_str (Z192 I q (congrArg not Z89))
  | _=>exact absurd (show false=true from hs) Qt
 | byt i =>
  obtain ⟨t,rfl⟩:=rx
  cases y with
  | byt j=>obtain ⟨t',rfl⟩:=ry;exact PySem.W.ne_bytes (Z192 I q (congrArg not Z87))
  | _=>exact absurd (show false=true from hs) Qt
 | _=>cases y <;> exact absurd (show false=true from hs) Qt
theorem op_lt:OpR X (compareOp .Lt) (rI0 fun i j=>.bl (decide (i < j))):=opB0 fun _ _ _ _ _ _ _ q=>lt_int q
theorem op_gt:OpR X (compareOp .Gt) (rI0 fun i j=>.bl (decide (j < i))):=opB0 fun _ _ _ _ _ _ _ q=>gt_int q
theorem Z432:OpR X (compareOp .Is) (fun x y H Q=>y=.non∧Q (.bl (decide (x=.non))) H):=by
 intro pins s σ H x y v u Q I rx ry h
 obtain ⟨rfl,q⟩:=h
 cases ry
 refine is_none_gen (Z192 I q ?_)
 cases x <;> first
  | (cases rx;rfl)
  | (obtain ⟨t,rfl⟩:=rx;rfl)
theorem Z436:OpR X (compareOp .IsNot) (fun x y H Q=>y=.non∧Q (.bl (!decide (x=.non))) H):=by
 intro pins s σ H x y v u Q I rx ry h
 obtain ⟨rfl,q⟩:=h
 cases ry
 refine isnot_none_gen (Z192 I q ?_)
 cases x <;> first
  | (cases rx;rfl)
  | (obtain ⟨t,rfl⟩:=rx;rfl)
theorem nomark(b:Expr){op:CmpOp}(h:op≠.In:=by decide)(h2:op≠.NotIn:=by decide):behindInMarks op b=false:=by
 have e1:(op == CmpOp.In)=false:=by cases op <;> first | rfl | exact absurd rfl h
 have e2:(op == CmpOp.NotIn)=false:=by cases op <;> first | rfl | exact absurd rfl h2
 cases b <;> simp [behindInMarks,e1,e2]
theorem Z455{op:CmpOp}{r:R2}(ho:OpR X (compareOp op) r)(ha:PE X a ta)(hb:PE X b tb)(hm:behindInMarks op b=false):PE X (.Compare a [op] [b] pos) (tOp r ta tb):=by
 intro pins s σ H Q I h
 exact wpAny_Compare1 (binT ha hb I h fun v u s2 x y H2 I2 rx ry q=>ho pins s2 σ H2 x y v u Q I2 rx ry q) hm
noncomputable def tTest(t:TE):TT:=fun σ H Q=>t σ H fun x H'=>∃ k,x=.bl k∧Q k H'
theorem Z492{op:CmpOp}{r:R2}(ho:OpR X (compareOp op) r)(ha:PE X a ta)(hb:PE X b tb)(hm:behindInMarks op b=false):PT X (.Compare a [op] [b] pos) (tTest (tOp r ta tb)):=by
 intro pins s σ H Q I h
 refine wpAny_isTrue_Compare1 (thn (ha pins s σ H _ I h) fun v s1 ⟨x,H1,I1,r1,q1⟩=>thn (hb pins s1 σ H1 _ I1 q1) fun u s2 ⟨y,H2,I2,r2,q2⟩ =>
  thn (ho pins s2 σ H2 x y v u _ I2 r1 r2 q2) fun c s3 ⟨z,H3,I3,r3,k,e,q3⟩=>?_) hm
 subst e
 cases r3
 exact wpAny_truthy_bool ⟨H3,I3,q3⟩

theorem line63:(sizeLine:Nat) < 2 ^ 63:=by rw [sizeLine_eq];decide


theorem vals1{x:V}{us:List Value}(r:Vals [x] us):∃ u,us=[u]∧RelV x u:=by
 cases r with
 | cons r1 r2=>cases r2;exact ⟨_,rfl,r1⟩
theorem vals2{x y:V}{us:List Value}(r:Vals [x,y] us):∃ u w',us=[u,w']∧RelV x u∧RelV y w':=by
 cases r with
 | cons r1 r2 =>
  cases r2 with
  | cons r3 r4=>cases r4;exact ⟨_,_,rfl,r1,r3⟩
theorem Z51(hc:X.calm=true):CallR X (.builtin "max") (fun xs H Q=>∃ i j,xs=[.int i,.int j]∧Q (.int (if j > i then j else i)) H):=by
 intro pins s σ H xs us Q I r h
 obtain ⟨i,j,rfl,q⟩:=h
 obtain ⟨u,w',rfl,⟨t,rfl⟩,⟨t',rfl⟩⟩:=vals2 r
 refine max_two_ints (I.ok.hd hc) fun h' tk k=>⟨_,H,I.kept k,?_,q⟩
 by_cases hj:j > i
 ·rw [if_pos hj,if_pos hj];exact ⟨_,rfl⟩
 ·rw [if_neg hj,if_neg hj];exact ⟨_,rfl⟩
theorem Z52(hc:X.calm=true):CallR X (.builtin "min") (fun xs H Q=>∃ i j,xs=[.int i,.int j]∧Q (.int (if j < i then j else i)) H):=by
 intro pins s σ H xs us Q I r h
 obtain ⟨i,j,rfl,q⟩:=h
 obtain ⟨u,w',rfl,⟨t,rfl⟩,⟨t',rfl⟩⟩:=vals2 r
 refine min_two_ints (I.ok.hd hc) fun h' tk k=>⟨_,H,I.kept k,?_,q⟩
 by_cases hj:j < i
 ·rw [if_pos hj,if_pos hj];exact ⟨_,rfl⟩
 ·rw [if_neg hj,if_neg hj];exact ⟨_,rfl⟩
noncomputable def LenV(K:Qd)(x:V)(H:Hp)(n:Nat):Prop :=
 match x with
 | .str y=>y.length≤sizeLine∧n=y.length
 | .byt y=>y.size≤sizeLine∧n=y.size
 | .ref p=>(∃ xs,SqL K H p xs∧n=xs.length)∨∃ xs,SqT K H p xs∧n=xs.length
 | _=>False
theorem call_len:CallR X (.builtin "len") (fun xs H Q=>∃ x n,xs=[x]∧LenV X.K x H n∧Q (.int n) H):=by
 intro pins s σ H xs us Q I r h
 obtain ⟨x,n,rfl,e,q⟩:=h
 obtain ⟨u,rfl,rx⟩:=vals1 r
 have hl:=line63
 have hs:sizeLine=16777216:=sizeLine_eq
 cases x with
 | str y =>
  obtain ⟨t,rfl⟩:=rx
  obtain ⟨hy,e'⟩:y.length≤sizeLine∧n=y.length:=e
  subst e'
  exact len_str (by omega) ⟨.int _,H,I.tok _,⟨_,rfl⟩,q⟩
 | byt y =>
  obtain ⟨t,rfl⟩:=rx
  obtain ⟨hy,e'⟩:y.size≤sizeLine∧n=y.size:=e
  subst e'
  exact PySem.W.len_bytes (by omega) ⟨.int _,H,I.tok _,⟨_,rfl⟩,q⟩
 | ref p =>
  cases rx
  have e':(∃ xs,SqL X.K H p xs∧n=xs.length)∨∃ xs,SqT X.K H p xs∧n=xs.length:=e
  rcases e' with ⟨xs,hx,e'⟩ | ⟨xs,hx,e'⟩
  ·subst e'
   obtain ⟨its,r',pl,hz⟩:=I.list hx
   have hlen:=r'.length
   exact Calls.call_len_list pl.isList (by simp only [Jg];omega) ⟨.int xs.length,H,I.tok _,⟨_,by simp only [Jg];rw [hlen]⟩,q⟩
  ·subst e'
   obtain ⟨its,r',pl,hz⟩:=I.tuple hx
   have hlen:=r'.length
   exact len_tuple pl (by simp only [Jg];omega) ⟨.int xs.length,H,I.tok _,⟨_,by simp only [Jg];rw [hlen]⟩,q⟩
 | _=>exact (show False from e).elim
end
end L2
namespace L2
open PySem PySem.Spec PyProof.Rows

structure ObjM(h:Heap)(x dx C:Addr)(mA:Str→Option Value):Prop where
 obj:h.get? x=some (PySem.W.instObj C dx)
 ns:h.Ns1 dx mA
 ne:dx≠x
section
variable {prog:Program}{w:World}{A:Around}{E:Value→Shared→Prop}{s:Shared}{K:Qd}{x dx C f:Addr}{mA:Str→Option Value}{name:Str}{v:Value}
end

noncomputable def putF(f:Str)(v:V):List (Str×V)→List (Str×V)
 | []=>[(f,v)]
 | (g,x)::r=>if g=f then (g,v)::r else (g,x)::putF f v r
theorem RelO.some_of{v:V}{o:Option Value}(r:RelO (some v) o):∃ u,o=some u∧RelV v u:=by
 cases o with
 | none=>exact (show False from r).elim
 | some u=>exact ⟨u,rfl,r⟩
section
variable {P:Program}{w:World}{H H':Hp}{h h':Heap}{a C dx:Addr}{fs fs':List (Str×V)}
end

structure Cls(K:Qd)(C:Addr):Prop where
 pg:PySem.W.plainGet K C Str.empty=true
 hd:PySem.W.hasDictIn K C=true
 po:PySem.W.plainOver K C=true
 sa:PySem.W.findIn K (.ref C) "__setattr__"=some (some (.builtin "object.__setattr__"))
structure Con(K:Qd)(C:Addr)(f:Str)(v:V)(u:Value):Prop where
 at_:PySem.W.findIn K (.ref C) f=some (some u)
 rel:RelV v u
 get:PySem.W.specialIn K u "__get__"=some none
 cp:PySem.W.copiedNames.contains f=false
structure Meth(K:Qd)(C:Addr)(m:Str)(f:Addr):Prop where
 at_:PySem.W.findIn K (.ref C) m=some (some (.ref f))
 fn:PySem.W.isFn K (.ref f)=true
 kp:PySem.W.keepIn K (.ref f)=true
section
variable {X:Cx}{pins:List (Addr×Obj)}{σ:St}{H:Hp}{s:Shared}{a C dx:Addr}{fs:List (Str×V)}{f:Str}{v:V}{A:Around}{E:Value→Shared→Prop}
end

section
variable {X:Cx}{o e value:Expr}{f:Str}{pos pos' tpos:Pos}{ta tv:TE}
end

section
variable {X:Cx}{pins:List (Addr×Obj)}{σ:St}{H:Hp}{s:Shared}{A:Around}{E:Value→Shared→Prop}{Q:Value→Shared→Prop}{c:Value}{b:Bool}
inductive TyOf(K:Qd)(H:Hp):V→Value→Prop where
 | non:TyOf K H .non (.type "NoneType")
 | bl (x:Bool):TyOf K H (.bl x) (.type "bool")
 | int (i:Int):TyOf K H (.int i) (.type "int")
 | str (x:Str):TyOf K H (.str x) (.type "str")
 | flt (x:UInt64):TyOf K H (.flt x) (.type "float")
 | lst {a:Addr} {xs:List V} (e:H a=some (.lst xs)):TyOf K H (.ref a) (.type "list")
 | frz {a:Addr} {o:Obj} {xs:List V} (e:H a=some (.frz o (.lst xs))):TyOf K H (.ref a) (.type "list")
 | tup {a:Addr} {xs:List V} (e:H a=some (.tup xs)):TyOf K H (.ref a) (.type "tuple")
 | dK {a:Addr} {kvs:List (Key×V)} (e:H a=some (.dK kvs)):TyOf K H (.ref a) (.type "dict")
 | dT {a:Addr} {kvs:List (List Key×V)} (e:H a=some (.dT kvs)):TyOf K H (.ref a) (.type "dict")
 | ins {a C dx:Addr} {fs:List (Str×V)} (e:H a=some (.ins C dx fs)) (cl:Cls K C) (ha:PySem.W.findIn K (.ref C) "__class__"=some (some (.builtin "object.__class__")))
   (hn:PySem.W.specialIn K (.builtin "object.__class__") "__get__"=some (some (.builtin "getset_descriptor.__get__"))) (htk:PySem.W.takesIn K (.builtin "object.__class__")=some true)
   (hm:PySem.W.mroIn K C (.type "object")=some true):TyOf K H (.ref a) (.ref C)
end
end L2
namespace L2
open PySem PySem.Spec PyProof.Rows

structure Room(k:Nat)(A:Around):Prop where
 hd:A.handled=none
 dp:A.depth + 3 * k + 5 < recursionLimit
 un:A.units + 16 * k + 200 < cLine
 gd:A.guards=some []
theorem Room.mono{j k:Nat}{A:Around}(r:Room k A)(h:j≤k):Room j A:=⟨r.hd,by have:=r.dp;omega,by have:=r.un;omega,r.gd⟩
theorem Room.deeper{k:Nat}{A:Around}(r:Room (k + 1) A)(env:Env):Room k (A.deeper env) :=
 ⟨r.hd,by have:=r.dp;show A.depth + 1 + 3 * k + 5 < _;omega,by have:=r.un;show A.units + 3 + 16 * k + 200 < _;omega,r.gd⟩
theorem Room.depth{k:Nat}{A:Around}(r:Room k A):A.depth < recursionLimit:=by have:=r.dp;omega
theorem Room.units{k:Nat}{A:Around}(r:Room k A):A.units + 64 < cLine:=by have:=r.un;omega

noncomputable def tNil:TA:=fun _ H Q=>Q [] H
noncomputable def tCons(ta:TE)(tr:TA):TA:=fun σ H Q=>ta σ H fun x H1=>tr σ H1 fun xs H2=>Q (x::xs) H2
section
variable {X:Cx}{e:Expr}{es:List Expr}{te:TE}{t:TA}{pos:Pos}
theorem Z446:PA X [] tNil:=fun _ _ _ _ H Q I h=>Calls.spliced_nil ⟨[],H,I,.nil,h⟩
theorem Z445(ha:PE X e te)(hr:PA X es t)(hs:starEach (e::es) X.env=(false,eval e X.env)::starEach es X.env:=by rfl):PA X (e::es) (tCons te t):=by
 intro pos pins s σ H Q I h
 rw [hs]
 show wpAny _ _ (spliced ((false,eval e X.env)::backTo pos (starEach es X.env))) _ _ s
 refine Calls.spliced_cons (thn (ha pins s σ H _ I h) fun u s1 ⟨x,H1,I1,r1,q1⟩=>?_)
 exact thn (hr pos pins s1 σ H1 _ I1 q1) fun us s2 ⟨xs,H2,I2,r2,q2⟩=>⟨x::xs,H2,I2,.cons r1 r2,q2⟩
noncomputable def tTup(t:TA):TE:=fun σ H Q=>t σ H fun xs H1=>xs.length≤sizeLine∧∀ p,H1 p=none→Q (.ref p) (upd H1 p (.tup xs))
noncomputable def tLst(t:TA):TE:=fun σ H Q=>t σ H fun xs H1=>xs.length≤sizeLine∧∀ p,H1 p=none→Q (.ref p) (upd H1 p (.lst xs))
theorem Z466{x1}(h:PA X es t):PE X (.Tuple es x1 pos) (tTup t):=by
 intro pins s σ H Q I hq
 refine wpAny_Tuple_spliced (thn (h pos pins s σ H _ I hq) fun us s1 ⟨xs,H1,I1,r,z,q⟩=>⟨by rw [← r.length];exact z,?_⟩)
 have hf:H1 s1.heap.objs.size=none:=I1.hok.fresh (Qu _)
 refine ⟨.ref s1.heap.objs.size,upd H1 s1.heap.objs.size (.tup xs),I1.laid (t':=s1.toks) (fun b u e=>Heap.get?_push_of_some _ e) (Qu _) ?_,rfl,q _ hf⟩
 exact ⟨z,us,r,⟨_,Heap.get?_push_size _ rfl,rfl,_,rfl⟩⟩
theorem Z462(h:PA X es t):PE X (.List es pos) (tLst t):=by
 intro pins s σ H Q I hq
 refine wpAny_List_spliced (thn (h pos pins s σ H _ I hq) fun us s1 ⟨xs,H1,I1,r,z,q⟩=>⟨by rw [← r.length];exact z,?_⟩)
 have hf:H1 s1.heap.objs.size=none:=I1.hok.fresh (Qu _)
 refine ⟨.ref s1.heap.objs.size,upd H1 s1.heap.objs.size (.lst xs),I1.laid (t':=s1.toks) (fun b u e=>Heap.get?_push_of_some _ e) (Qu _) ?_,rfl,q _ hf⟩
 exact ⟨z,us,0,r,Heap.get?_push_size _ rfl⟩
end

noncomputable abbrev Sp:=List V→Hp→VK→XK→Prop
noncomputable abbrev CXT:=List Env→Hp→Shared→XK→Value→Shared→Prop
structure Env0(P:Program)(w:World)(K:Qd)(mg:Str→Option Value)(base:Heap)(A:Around)(outer:List Env)(s:Shared)(H:Hp):Prop where
 frames:A.frames=some outer
 mod:Mod K mg base
 bs:∀ b o,base.get? b=some o→s.heap.get? b=some o∧H b=none
 bsz:base.objs.size≤s.heap.objs.size
 funs:s.heap.FunFrames base outer
 frf:∀ b∈frs outer,H b=none
 hok:HOk P w H s.heap
 bare:AllBare s.gens
noncomputable def CE(outer:List Env)(P:Program)(w:World)(H:Hp)(s:Shared)(Q:VK)(u:Value)(s':Shared):Prop :=
 ∃ v H',s'.os=s.os∧AllBare s'.gens∧Un (frs outer) [] H H' s.heap s'.heap∧HOk P w H' s'.heap∧RelV v u∧Q v H'
noncomputable def CR(CX:CXT)(outer:List Env)(P:Program)(w:World)(H:Hp)(s:Shared)(Q:VK)(E:XK)(r:Result)(s':Shared):Prop :=
 match r with
 | .ok (.ret u)=>CE outer P w H s Q u s'
 | .ok _=>False
 | .error e=>CX outer H s E e s'
structure FnOk(P:Program)(w:World)(K:Qd)(mg:Str→Option Value)(base:Heap)(CX:CXT)(k:Nat)(f:Addr)(fd:FuncData)(ps:List Str)(sp:Sp):Prop where
 len:∀ vs H Q E,sp vs H Q E→vs.length=ps.length
 run:∀ (A:Around) (outer:List Env) (s:Shared) (H:Hp) (args:Args) (us:List Value) (vs:List V) (Q:VK) (E:XK),Room k A→Env0 P w K mg base A outer s H→BindsTo s fd args (ps.zip us)→Vals vs us→sp vs H Q E →
  codeAny (model P w) A (.call (.ref f) args) (CR CX outer P w H s Q E) s
theorem FnOk.imp{P:Program}{w:World}{K:Qd}{mg:Str→Option Value}{base:Heap}{CX:CXT}{k:Nat}{f:Addr}{fd:FuncData}{ps:List Str}{sp sp':Sp}(F:FnOk P w K mg base CX k f fd ps sp)
  (h:∀ vs H Q E,sp' vs H Q E→sp vs H Q E):FnOk P w K mg base CX k f fd ps sp' :=
 ⟨fun vs H Q E q=>F.len vs H Q E (h _ _ _ _ q),fun A outer s H args us vs Q E hr he hb hv hs=>F.run A outer s H args us vs Q E hr he hb hv (h _ _ _ _ hs)⟩
section
variable {X:Cx}{pins:List (Addr×Obj)}{σ:St}{H:Hp}{s s':Shared}
theorem Inv.env0(I:Inv X pins σ H s):Env0 X.prog X.w X.K X.mg X.base X.A X.stack s H :=
 ⟨I.ok.frames,I.ok.mod,I.bs,Wt I.ok.bsz I.sz,I.stack,I.stkFree,I.hok,I.bare⟩
theorem Inv.after{Q:VK}{u:Value}(I:Inv X pins σ H s)(h:CE X.stack X.prog X.w H s Q u s'):EP X pins σ Q u s':=by
 obtain ⟨v,H',os,bare,un,hok,r,q⟩:=h
 obtain ⟨hh,g,d,t,os'⟩:=s'
 obtain rfl:os'=s.os:=os
 exact ⟨v,H',I.call (h':=hh) (g':=g) (d':=d) (t':=t) (ch:=[]) un hok bare (fun b z=>absurd z (by simp)),r,q⟩
end

noncomputable def tCall(sp:Sp)(dvs:List V)(E:XK)(t:TA):TE:=fun σ H Q=>t σ H fun vs H1=>sp (vs++dvs) H1 Q E
noncomputable def Binds(K:Qd)(fd:FuncData)(ps:List Str)(ds:List Value):Prop :=
 ∀ (s:Shared) (us:List Value),K.In s.heap→(us++ds).length=ps.length→BindsTo s fd ⟨us,[]⟩ (ps.zip (us++ds))
theorem Binds.all{K:Qd}{fd:FuncData}{ps:List Str}(h:∀ us:List Value,us.length=ps.length→bindArgs fd ⟨us,[]⟩=pure (ps.zip us)):Binds K fd ps []:=fun s us _ hl=>by
 rw [Jl] at hl ⊢
 exact .of_eq (h us hl)
noncomputable def Passes(CX:CXT)(X:Cx)(E:XK):Prop:=∀ (pins:List (Addr×Obj)) (σ:St) (H:Hp) (s:Shared) (e:Value) (s':Shared),Inv X pins σ H s→CX X.stack H s E e s'→X.xe e s'
section
variable {X:Cx}{CX:CXT}{k:Nat}{f C:Addr}{fd:FuncData}{ps:List Str}{sp:Sp}{dvs:List V}{ds:List Value}{E:XK}{x m:Str}{p pos apos:Pos}{e o:Expr}{es:List Expr}{ta:TE}{t:TA}
structure Mk(K:Qd)(C f:Addr):Prop where
 makes:PySem.W.makesIn K C=true
 init:PySem.W.findIn K (.ref C) "__init__"=some (some (.ref f))
 fn:PySem.W.isFn K (.ref f)=true
 kp:PySem.W.keepIn K (.ref C)=true
end

section
variable {X:Cx}{CX:CXT}{k:Nat}{f C:Addr}{fd:FuncData}{ps ks:List Str}{sp:Sp}{E:XK}{x m:Str}{p pos apos kpos:Pos}{e o:Expr}{es:List Expr}{kws:List Keyword}{te ta:TE}{t tk:TA}{nm:Option Str}
structure KBinds(K:Qd)(fd:FuncData)(ps ks:List Str)(g:List Value→List Value→List Value)(gV:List V→List V→List V):Prop where
 to:∀ (s:Shared) (us ws:List Value),K.In s.heap→(g us ws).length=ps.length→BindsTo s fd ⟨us,ks.zip ws⟩ (ps.zip (g us ws))
 rel:∀ {vs:List V} {us:List Value} {zs:List V} {ws:List Value},Vals vs us→Vals zs ws→Vals (gV vs zs) (g us ws)
variable {g:List Value→List Value→List Value}{gV:List V→List V→List V}
end

structure FnScope(N P:List Str)(sc:Scope):Prop where
 kind:sc.kind=.function
 co:sc.isCoroutine=false
 gen:sc.isGenerator=false
 nd:N.Nodup
 pre:N.take P.length=P
 par:∀ x∈P,sc.names.lookup x=some .local∨sc.names.lookup x=some .cell
 nofree:∀ y∈sc.names,y.2≠.free
theorem Z43{kindOf:Str→Option NameKind}{x:Str}:∀ {binds:List (Str×Value)} {m:Str→Option Value},(∀ v,(x,v)∉binds)→bindL kindOf binds m x=m x
 | [],_,_=>rfl
 | (n,v)::r,m,h=>by
  unfold bindL
  rw [Z43 fun w hw=>h w (Qp _ hw)]
  split
  ·have:x≠n:=by rintro rfl;exact h v Qs
   simp [this]
  ·rfl
theorem Z41{kindOf:Str→Option NameKind}{x:Str}:∀ {binds:List (Str×Value)} {m:Str→Option Value},(∀ v,(x,v)∉binds)→bindC kindOf binds m x=m x
 | [],_,_=>rfl
 | (n,v)::r,m,h=>by
  unfold bindC
  rw [Z41 fun w hw=>h w (Qp _ hw)]
  split
  ·rfl
  ·have:x≠n:=by rintro rfl;exact h v Qs
   simp [this]
theorem Z42{kindOf:Str→Option NameKind}{x:Str}{v:Value}:∀ {P:List Str} {vs:List Value} {i:Nat} {m:Str→Option Value},P.Nodup→P[i]?=some x→vs[i]?=some v→kindOf x=some .local →
  bindL kindOf (P.zip vs) m x=some v
 | [],_,_,_,_,h,_,_=>by simp at h
 | _::_,[],_,_,_,_,h,_=>by simp at h
 | p::P,w::vs,0,m,nd,h1,h2,hk=>by
  simp at h1 h2;subst h1;subst h2
  show bindL kindOf ((p,w)::P.zip vs) m p=_
  unfold bindL
  rw [Z43 fun v hv=>(Ji.mp nd).1 (List.of_mem_zip hv).1,if_pos hk]
  simp
 | p::P,w::vs,i + 1,m,nd,h1,h2,hk=>by
  show bindL kindOf ((p,w)::P.zip vs) m x=_
  unfold bindL
  exact Z42 (i:=i) (Ji.mp nd).2 (by simpa using h1) (by simpa using h2) hk
theorem Z40{kindOf:Str→Option NameKind}{x:Str}{v:Value}:∀ {P:List Str} {vs:List Value} {i:Nat} {m:Str→Option Value},P.Nodup→P[i]?=some x→vs[i]?=some v→kindOf x≠some .local →
  bindC kindOf (P.zip vs) m x=some v
 | [],_,_,_,_,h,_,_=>by simp at h
 | _::_,[],_,_,_,_,h,_=>by simp at h
 | p::P,w::vs,0,m,nd,h1,h2,hk=>by
  simp at h1 h2;subst h1;subst h2
  show bindC kindOf ((p,w)::P.zip vs) m p=_
  unfold bindC
  rw [Z41 fun v hv=>(Ji.mp nd).1 (List.of_mem_zip hv).1,if_neg hk]
  simp
 | p::P,w::vs,i + 1,m,nd,h1,h2,hk=>by
  show bindC kindOf ((p,w)::P.zip vs) m x=_
  unfold bindC
  exact Z40 (i:=i) (Ji.mp nd).2 (by simpa using h1) (by simpa using h2) hk
noncomputable def start(N:List Str)(vs:List V):St:=vs.map some++List.replicate (N.length - vs.length) none
noncomputable def cxOf(CX:CXT)(P:Program)(w:World)(K:Qd)(mg:Str→Option Value)(base:Heap)(N:List Str)(qual:Str)(scope:Scope)(f:Addr)(cd:Value)(A:Around)(outer:List Env)(s:Shared)(H:Hp)(E:XK):Cx where
 prog:=P
 w:=w
 K:=K
 mg:=mg
 base:=base
 A:=A.deeper (envOfC qual scope s.heap.objs.size f cd)
 N:=N
 s₀:=s
 H₀:=H
 env:=envOfC qual scope s.heap.objs.size f cd
 outer:=outer
 stack:=envOfC qual scope s.heap.objs.size f cd::outer
 ex:=[]
 calm:=true
 fn:=fun _=>true
 pn:=[]
 xe:=fun e s'=>wpAny (model P w) (A.deeper (envOfC qual scope s.heap.objs.size f cd)) (leaving (envOfC qual scope s.heap.objs.size f cd) e) (fun _ s''=>CX outer H s E e s'') (fun e' s''=>CX outer H s E e' s'') s'
theorem Z54{sc:Scope}{n:Nat}{x:Str}(h:sc.names.lookup x=some .cell):∃ c,(cellsFrom n sc.names []).lookup x=some c:=by
 have q:=PySem.W.cellsFrom_some sc.names n [] (.inl h)
 exact Option.isSome_iff_exists.mp q
theorem Z252{CX:CXT}{P:Program}{w:World}{K:Qd}{mg:Str→Option Value}{base:Heap}{N ps:List Str}{qual:Str}{scope:Scope}{f:Addr}{cd:Value}{A:Around}{outer:List Env}{s s1:Shared}{H:Hp}{E:XK}{us:List Value}{vs:List V}
  (S:FnScope N ps scope) (hd:A.handled=none) (e0:Env0 P w K mg base A outer s H) (hl:vs.length=ps.length) (r:Vals vs us)
  (x:InCallC s s.heap.objs.size (bindL (envOfC qual scope s.heap.objs.size f cd).kindOf (ps.zip us) fun _=>none) (cellsFrom (s.heap.objs.size + 1) scope.names []) (bindC (envOfC qual scope s.heap.objs.size f cd).kindOf (ps.zip us) fun _=>none) s1) :
  Inv (cxOf CX P w K mg base N qual scope f cd A outer s H E) [] (start N vs) H s1:=by
 have hpl:ps.length≤N.length:=by have:=congrArg List.length S.pre;rw [Wi] at this;omega
 obtain ⟨h1,tk,rfl,hk⟩:=x.done
 have noA:∀ b:Addr,b∉(cxOf CX P w K mg base N qual scope f cd A outer s H E).ex:=fun b z=>absurd (show b∈([]:List Addr) from z) (by simp)
 refine ⟨⟨e0.mod,S.kind,rfl,rfl,Qu _,fun y z c h1 h2=>?_,fun y hy=>?_,fun y c _ h=>?_,fun _=>hd,Around.frames_deeper e0.frames,.inr ⟨rfl,rfl⟩,fun b z=>absurd z (noA b),e0.bs,e0.bsz,fun b _ _=>noA b,fun b z=>absurd z (noA b),e0.funs,e0.frf⟩,
  rfl,e0.bare,Un.kept hk,⟨_,x.toInCall.ns,fun i y v h1 h2 h3=>?_⟩,fun y c h=>⟨_,x.cell y c h⟩,e0.hok.fresh (Qu _),fun y c h=>?_,fun p hp=>absurd (show p∈([]:List (Addr×Obj)) from hp) (by simp),e0.hok.kept hk,?_⟩
 ·exact name_of_addr x.apart (PySem.mem_of_lookup h1) (PySem.mem_of_lookup h2)
 ·have hy:scope.names.lookup y=some .cell∨scope.names.lookup y=some .free:=hy
  rcases hy with hy | hy
  ·exact Z54 hy
  ·exact absurd rfl (S.nofree _ (PySem.mem_of_lookup hy))
 ·exact Nat.le_of_lt (x.above y c (PySem.mem_of_lookup h))
 ·have hi:i < vs.length:=by
   unfold start at h2
   by_cases hi:i < vs.length
   ·exact hi
   ·rw [Jd (by simpa using hi)] at h2
    rw [Wr] at h2
    split at h2 <;> cases h2
  have ha:vs[i]?=some v:=by
   unfold start at h2
   rw [Qo (by simpa using hi),Qa] at h2
   cases e:vs[i]? with
   | none=>rw [e] at h2;cases h2
   | some a=>rw [e] at h2;cases h2;rfl
  obtain ⟨u,hu,rv⟩:=r.get ha
  have hp:ps[i]?=some y:=by
   rw [← S.pre,List.getElem?_take_of_lt (by omega)];exact h1
  have ndP:ps.Nodup:=by rw [← S.pre];exact S.nd.sublist (List.take_sublist _ _)
  refine ⟨u,rv,?_⟩
  rcases S.par y (Qg hp) with k | k
  ·exact .inl ⟨k,Z42 ndP hp hu k⟩
  ·obtain ⟨c,e⟩:=Z54 (n:=s.heap.objs.size + 1) k
   refine .inr ⟨.inl k,c,e,?_⟩
   have q:=x.cell y c e
   rw [Z40 ndP hp hu (by show scope.names.lookup y≠_;rw [k];decide)] at q
   exact q
 ·exact e0.hok.fresh (Nat.le_of_lt (x.above y c (PySem.mem_of_lookup h)))
 ·unfold start
  show _=N.length
  rw [Qx,Qn,Jr]
  omega
theorem fn_of{CX:CXT}{P:Program}{w:World}{K:Qd}{mg:Str→Option Value}{base:Heap}{k:Nat}{f:Addr}{name qual:Str}{params:Arguments}{body:List Stmt}{scope:Scope}{dV kV doc pm cdv ct oc:Value}{an od:Option Addr}
  {osl:Array (Option Value)} {N ps:List Str} {sp:Sp} (lk:K.lookup f=some ⟨oc,od,.func (PySem.W.fnOf name qual params body scope dV kV doc pm an cdv ct),osl⟩) (hcd:PySem.W.codeIn K cdv qual=true) (S:FnScope N ps scope)
  (len:∀ vs H Q E,sp vs H Q E→vs.length=ps.length)
  (hbody:∀ (A:Around) (outer:List Env) (s:Shared) (H:Hp) (vs:List V) (Q:VK) (E:XK),Room k (A.deeper (envOfC qual scope s.heap.objs.size f cdv))→sp vs H Q E →
   ∃ t,PSs (cxOf CX P w K mg base N qual scope f cdv A outer s H E) body t∧t { nx:=fun _ H'=>Q .non H',rt:=Q } (start N vs) H) :
  FnOk P w K mg base CX (k + 1) f (PySem.W.fnOf name qual params body scope dV kV doc pm an cdv ct) ps sp:=by
 refine ⟨len,fun A outer s H args us vs Q E hr e0 hb r hsp=>?_⟩
 have hl:=len _ _ _ _ hsp
 have KX:K.In s.heap:=e0.mod.kin.keeps fun b o e=>(e0.bs b o e).1
 have lim:s.heap.NoLimit:=e0.mod.nolimit.keeps fun b o e=>(e0.bs b o e).1
 have hkind:∀ y∈ps.zip us,scope.names.lookup y.1=some .local∨(scope.names.lookup y.1=some .cell∧((cellsFrom (s.heap.objs.size + 1) scope.names []).lookup y.1).isSome=true):=fun ⟨n,v⟩ hy=>by
  rcases S.par n (List.of_mem_zip hy).1 with q | q
  ·exact .inl q
  ·exact .inr ⟨q,PySem.W.cellsFrom_some _ _ _ (.inl q)⟩
 refine codeAny_call_function hr.depth (KX _ _ lk) rfl S.co S.gen rfl (PySem.W.codeRec_of KX hcd) (hb _ _ _ _ ?_)
 refine wpAny_newFunctionEnv_cells S.kind hkind fun env he s1 x=>?_
 subst he
 refine ⟨lim.keeps x.toInCall.keep,codeAny_func ?_⟩
 obtain ⟨t,ht,hq⟩:=hbody A outer s H vs Q E (hr.deeper _) hsp
 have I:Inv (cxOf CX P w K mg base N qual scope f cdv A outer s H E) [] (start N vs) H s1:=Z252 S hr.hd e0 hl r x
 refine wpAny_mono (ht [] s1 (start N vs) H _ I hq) (fun fl s' hs=>?_) fun e s' hs=>hs
 have fin:∀ {σ':St} {H':Hp} {v:V} {u:Value},Inv (cxOf CX P w K mg base N qual scope f cdv A outer s H E) [] σ' H' s'→RelV v u→Q v H'→CE outer P w H s Q u s' :=
  fun {σ' H' v u} J rv q=>⟨v,H',J.os,J.bare,J.base,J.hok,rv,q⟩
 cases fl with
 | ret u =>
  obtain ⟨v,σ',H',J,rv,q⟩:=hs
  exact fin J rv q
 | next =>
  obtain ⟨σ',H',J,q⟩:=hs
  exact fin (v:=V.non) (u:=Value.none) J rfl q
 | brk =>
  obtain ⟨_,_,_,q⟩:=hs
  exact False.elim q
 | cont =>
  obtain ⟨_,_,_,q⟩:=hs
  exact False.elim q
end L2
namespace L2
open PySem PySem.Spec PyProof.Rows
section
variable {X:Cx}{x:Str}{p pos:Pos}{e:Expr}{es:List Expr}{t:TA}{id T:String}{r:List V→Hp→VK→Prop}
noncomputable def tCB(r:List V→Hp→VK→Prop)(t:TA):TE:=fun σ H Q=>t σ H fun vs H1=>r vs H1 Q
theorem Z453(hc:CallR X (.builtin id) r)(hg:Gl X x)(hm:X.mg x=none)(hv:bootBuiltins x=some (.builtin id))(ha:PA X (e::es) t)(hn:x ≠ "__name__":=by decide)(hdb:(x == ("__debug__":Str))=false:=by decide)
  (he:starEach (e::es) X.env=(false,eval e X.env)::starEach es X.env:=by rfl) (hpl:(backTo pos (starEach es X.env)).any (·.1)=false:=by rfl):PE X (.Call (.Name x p) (e::es) [] pos) (tCB r t):=by
 intro pins s σ H Q I h
 refine wpAny_Call_Name_kw (Z333 I hg hm hv ?_ hn hdb)
 exact PyProof.Rows.callWith_builtin1 (thn (ha pos pins s σ H _ I h) fun us s1 ⟨vs,H1,I1,r1,q1⟩=>hc pins s1 σ H1 vs us Q I1 r1 q1) he hpl
theorem Z454(hc:CallR X (.type T) r)(hg:Gl X x)(hm:X.mg x=none)(hv:bootBuiltins x=some (.type T))(ha:PA X (e::es) t)(hn:x ≠ "__name__":=by decide)(hdb:(x == ("__debug__":Str))=false:=by decide)
  (he:starEach (e::es) X.env=(false,eval e X.env)::starEach es X.env:=by rfl) (hpl:(backTo pos (starEach es X.env)).any (·.1)=false:=by rfl):PE X (.Call (.Name x p) (e::es) [] pos) (tCB r t):=by
 intro pins s σ H Q I h
 refine wpAny_Call_Name_kw (Z333 I hg hm hv ?_ hn hdb)
 exact PyProof.Rows.callWith_type1 (thn (ha pos pins s σ H _ I h) fun us s1 ⟨vs,H1,I1,r1,q1⟩=>hc pins s1 σ H1 vs us Q I1 r1 q1) he hpl
end
end L2
namespace HT
open PySem PyProof.Rows
section
open PySem.SeqAt
open PySem.AutoSeq1 (wpAny_loadPart')
open PySem.MeetsSeq PySem.MeetsSeq2 PySem.MeetsSeq3
end
section
variable {prog:Program}{w:World}{A:Around}{E:Value→Shared→Prop}{s:Shared}

end
end HT
namespace L2
open PySem PySem.Spec PyProof.Rows

noncomputable abbrev TO:=St→Hp→(Option Int→Hp→Prop)→Prop
section
variable {X:Cx}{e:Expr}{te:TE}{lo hi:Option Expr}{tl th:TO}{pos p2:Pos}

end
end L2
namespace L2
open PySem PySem.Spec PyProof.Rows

noncomputable def ixN(n:Nat)(i:Int):Option Nat:=if 0≤i then (if i < n then some i.toNat else none) else if -(n:Int)≤i then some (i + n).toNat else none
noncomputable def atI{α:Type}(xs:List α)(i:Int):Option α:=(ixN xs.length i).bind fun j=>xs[j]?
theorem Z264{n:Nat}{i:Int}{j:Nat}(h:ixN n i=some j):seqIndex? i n=some j∧j < n∧-(n:Int)≤i∧i < n:=by
 unfold ixN at h
 by_cases h0:0≤i
 ·rw [if_pos h0] at h
  by_cases h1:i < n
  ·rw [if_pos h1] at h
   have e:i.toNat=j:=Option.some.inj h
   exact ⟨by rw [seqIndex_of h0 h1,e],by omega,by omega,h1⟩
  ·rw [if_neg h1] at h;cases h
 ·rw [if_neg h0] at h
  by_cases h1:-(n:Int)≤i
  ·rw [if_pos h1] at h
   have e:(i + n).toNat=j:=Option.some.inj h
   exact ⟨by rw [seqIndex_neg (by omega) h1,e],by omega,h1,by omega⟩
  ·rw [if_neg h1] at h;cases h
theorem Z20{α:Type}{xs:List α}{i:Int}{v:α}(h:atI xs i=some v):∃ j,seqIndex? i xs.length=some j∧xs[j]?=some v∧j < xs.length∧-(xs.length:Int)≤i∧i < xs.length:=by
 unfold atI at h
 cases e:ixN xs.length i with
 | none=>rw [e] at h;cases h
 | some j =>
  rw [e] at h
  obtain ⟨h1,h2,h3,h4⟩:=Z264 e
  exact ⟨j,h1,h,h2,h3,h4⟩
theorem Z21{α:Type}{xs:List α}{j:Nat}{v:α}(h:xs[j]?=some v):atI xs (j:Int)=some v:=by
 have hj:j < xs.length:=(Qc.mp h).1
 have e:ixN xs.length (j:Int)=some j:=by
  unfold ixN
  rw [if_pos (by omega),if_pos (by omega)];simp
 unfold atI;rw [e];exact h

noncomputable def PlainIx(b:Expr):Prop:=∀ o i,subscripted b false o i=operate [o,i] (getItem o i)
noncomputable def IxR(X:Cx)(r:R2):Prop :=
 ∀ (value slice:Expr) (pins:List (Addr×Obj)) (s:Shared) (σ:St) (H:Hp) (x y:V) (v u:Value) (Q:VK),Inv X pins σ H s→RelV x v→RelV y u→r x y H Q →
  subscripted slice false v u=operate [v,u] (getItem v u)→wpAny (model X.prog X.w) X.A (subscriptTail value slice v u) (EP X pins σ Q) X.xe s
noncomputable def MtR(X:Cx)(id:String)(r:V→List V→Hp→VK→Prop):Prop :=
 ∀ (pins:List (Addr×Obj)) (s:Shared) (σ:St) (H:Hp) (x:V) (xs:List V) (v:Value) (us:List Value) (Q:VK),Inv X pins σ H s→RelV x v→Vals xs us→r x xs H Q →
  wpAny (model X.prog X.w) X.A (call (.builtin id) (v::us)) (EP X pins σ Q) X.xe s
section
variable {X:Cx}{a b:Expr}{ta tb:TE}{pos:Pos}
theorem IxR.or{r r':R2}(h:IxR X r)(h':IxR X r'):IxR X (fun x y H Q=>r x y H Q∨r' x y H Q):=by
 intro value slice pins s σ H x y v u Q I rx ry q hs
 rcases q with q | q
 ·exact h value slice pins s σ H x y v u Q I rx ry q hs
 ·exact h' value slice pins s σ H x y v u Q I rx ry q hs
theorem pe_ix{r:R2}(hr:IxR X r)(ha:PE X a ta)(hb:PE X b tb)(hs:PlainIx b):PE X (.Subscript a b pos) (tOp r ta tb):=by
 intro pins s σ H Q I h
 exact Subscript_ (binT ha hb I h fun v u s2 x y H2 I2 rx ry q=>hr a b pins s2 σ H2 x y v u Q I2 rx ry q (hs _ _))
noncomputable def rIxL(K:Qd):R2:=fun x y H Q=>∃ p xs i v,x=.ref p∧y=.int i∧SqL K H p xs∧atI xs i=some v∧Q v H
noncomputable def rIxT(K:Qd):R2:=fun x y H Q=>∃ p xs i v,x=.ref p∧y=.int i∧SqT K H p xs∧atI xs i=some v∧Q v H
noncomputable def rIxS:R2:=fun x y H Q=>∃ z i c,x=.str z∧y=.int i∧z.length≤sizeLine∧atI z.cps.toList i=some c∧Q (.str ⟨#[c]⟩) H
theorem Z265:IxR X (rIxL X.K):=by
 intro value slice pins s σ H x y v u Q I rx ry h hs
 obtain ⟨p,xs,i,z,rfl,rfl,hq,he,q⟩:=h
 cases rx
 obtain ⟨t,rfl⟩:=ry
 obtain ⟨its,r,pl,hz⟩:=I.list hq
 obtain ⟨j,h1,h2,h3,h4,h5⟩:=Z20 he
 obtain ⟨w,ew,rw'⟩:=r.get h2
 have hl:=r.length
 have hn:=line63
 have fin:EP X pins σ Q w s:=⟨z,H,I,rw',q⟩
 by_cases h0:0≤i
 ·have hj:i.toNat=j:=by
   rw [seqIndex_of h0 h5] at h1
   exact Option.some.inj h1
  exact item_listR pl.isList h0 (by omega) (by rw [hj];simpa using ew) fin hs
 ·have hj:(i + (its.toArray.size:Int)).toNat=j:=by
   rw [seqIndex_neg (by omega) h4] at h1
   rw [Jg,← hl]
   exact Option.some.inj h1
  exact subscriptTail_builtinR (x:=w) pl.isList.typeIs slot_list_getitem.lookup
   (wpAny_getItem_list_neg (Q:=fun r s'=>r=w∧EP X pins σ Q r s') pl.isList (by omega) (by rw [Jg] <;> omega) (by omega) (by rw [hj];simpa using ew) ⟨rfl,fin⟩) hs
theorem Z267:IxR X (rIxT X.K):=by
 intro value slice pins s σ H x y v u Q I rx ry h hs
 obtain ⟨p,xs,i,z,rfl,rfl,hq,he,q⟩:=h
 cases rx
 obtain ⟨t,rfl⟩:=ry
 obtain ⟨its,r,pl,hz⟩:=I.tuple hq
 obtain ⟨j,h1,h2,h3,h4,h5⟩:=Z20 he
 obtain ⟨w,ew,rw'⟩:=r.get h2
 have hl:=r.length
 have hn:=line63
 have fin:EP X pins σ Q w s:=⟨z,H,I,rw',q⟩
 exact subscriptTail_builtinR (x:=w) pl.typeIs slot_tuple_getitem.lookup
  (getItem_tuple (j:=j) (Q:=fun r s'=>r=w∧EP X pins σ Q r s') pl (by omega) (by omega) (by rw [Jg,← hl];exact h1) (by simpa using ew) ⟨rfl,fin⟩) hs
theorem Z266:IxR X rIxS:=by
 intro value slice pins s σ H x y v u Q I rx ry h hs
 obtain ⟨z,i,c,rfl,rfl,hz,he,q⟩:=h
 obtain ⟨t,rfl⟩:=rx
 obtain ⟨t',rfl⟩:=ry
 obtain ⟨j,h1,h2,h3,h4,h5⟩:=Z20 he
 have hl:z.cps.toList.length=z.length:=by simp [Str.length]
 rw [hl] at h1 h4 h5
 have hn:=line63
 exact tail_any (typeIs_str s z t) slot_str_getitem.lookup (getItem_str (c:=c) (by
  have e1:decide (i < -(2 ^ 63:Int))=false:=decide_eq_false (by omega)
  have e2:decide (i≥2 ^ 63)=false:=decide_eq_false (by omega)
  rw [e1,e2,Bool.or_false]) (by rw [h1];simpa using h2) ⟨.str ⟨#[c]⟩,H,I.tok _,⟨_,rfl⟩,q⟩) hs
noncomputable def rIx(K:Qd):R2:=fun x y H Q=>rIxL K x y H Q∨rIxT K x y H Q∨rIxS x y H Q
theorem ix_seq:IxR X (rIx X.K):=Z265.or (Z267.or Z266)

theorem Z352(its:List Value)(n j:Nat)(u:Value):Obj.mapSeq (·.setIfInBounds j u) { cls:=.type "list",data:=.seq its.toArray n }={ cls:=.type "list",data:=.seq (its.set j u).toArray n }:=by
 simp [Obj.mapSeq]
theorem Inv.lst{pins:List (Addr×Obj)}{σ:St}{H:Hp}{s:Shared}{p:Addr}{xs:List V}(I:Inv X pins σ H s)(h:H p=some (.lst xs)) :
  ∃ (its:List Value) (n:Nat),Vals xs its∧s.heap.get? p=some { cls:=.type "list",data:=.seq its.toArray n }∧xs.length≤sizeLine:=by
 obtain ⟨z,its,n,r,e⟩:=I.hok p _ h
 exact ⟨its,n,r,e,z⟩
theorem Inv.lstUpd{pins:List (Addr×Obj)}{σ:St}{H:Hp}{s:Shared}{p:Addr}{xs ys:List V}{its its':List Value}{n n':Nat}{f:Obj→Obj}(I:Inv X pins σ H s)(h:H p=some (.lst xs))
  (ho:s.heap.get? p=some { cls:=.type "list",data:=.seq its.toArray n }) (hf:f { cls:=.type "list",data:=.seq its.toArray n }={ cls:=.type "list",data:=.seq its'.toArray n' }) (r:Vals ys its') (hz:ys.length≤sizeLine) (t:Nat) :
  Inv X pins σ (upd H p (.lst ys)) { s with heap:=s.heap.update p f,toks:=t }:=by
 have e:(s.heap.update p f).get? p=some { cls:=.type "list",data:=.seq its'.toArray n' }:=by
  rw [Heap.get?_update_self f ho (by rw [hf] <;> rfl),hf]
 refine I.write (x:=p) (e:=p) (by rw [h];trivial) (.inl rfl) (fun b u hb q=>(Heap.get?_update_other _ _ (Ne.symm hb)).trans q) ⟨_,e⟩ ?_
 exact ⟨hz,its',n',r,e⟩
noncomputable def rSetL:V→V→V→Hp→(Hp→Prop)→Prop:=fun o i v H Q=>∃ p xs k j,o=.ref p∧i=.int k∧H p=some (.lst xs)∧ixN xs.length k=some j∧Q (upd H p (.lst (xs.set j v)))
theorem set_list:PSet X rSetL:=by
 intro pins s σ H o i v ov iv u Q I ro ri rv h
 obtain ⟨p,xs,k,j,rfl,rfl,hp,hj,q⟩:=h
 cases ro
 obtain ⟨t,rfl⟩:=ri
 obtain ⟨its,n,r,ho,hz⟩:=I.lst hp
 obtain ⟨h1,h2,h3,h4⟩:=Z264 hj
 have hl:=r.length
 have hn:=line63
 have I':Inv X pins σ (upd H p (.lst (xs.set j v))) { s with heap:=s.heap.update p (Obj.mapSeq (·.setIfInBounds j u)) } :=
  I.lstUpd hp ho (Z352 its n j u) (r.set rv j) (by rw [List.length_set];exact hz) s.toks
 by_cases h0:0≤k
 ·have hk:k.toNat=j:=by
   rw [seqIndex_of h0 h4] at h1
   exact Option.some.inj h1
  exact PySem.W.ki_setAt ho h0 (by omega) (by rw [Jg,← hl];exact h4) (by rw [hk];exact ⟨_,I',q⟩)
 ·have hk:(k + (its.toArray.size:Int)).toNat=j:=by
   rw [seqIndex_neg (by omega) h3] at h1
   rw [Jg,← hl]
   exact Option.some.inj h1
  exact PySem.W.ki_setBack ho (by omega) (by rw [Jg,← hl];exact h3) (by omega) (by rw [hk];exact ⟨_,I',q⟩)


noncomputable def flatV:V→Bool
 | .non=>true
 | .bl _=>true
 | .int _=>true
 | .str _=>true
 | _=>false
noncomputable def eqV:V→V→Bool
 | .non,.non=>true
 | .bl a,.bl b=>a == b
 | .bl a,.int b=>(if a then 1 else 0) == b
 | .int a,.bl b=>a == (if b then 1 else 0)
 | .int a,.int b=>a == b
 | .str a,.str b=>a == b
 | _,_=>false
theorem Z111{A:Around}{s:Shared}{y x:V}{u v:Value}(ry:RelV y u)(rx:RelV x v)(fy:flatV y=true)(fx:flatV x=true):SeqAt.EqAt A s u v (eqV y x):=by
 cases y with
 | non =>
  cases ry
  cases x with
  | non=>cases rx;exact SeqAt.EqAt.same _
  | bl b=>cases rx;exact SeqAt.EqAt.none_bool b
  | int b=>obtain ⟨t,rfl⟩:=rx;exact SeqAt.EqAt.none_int b t
  | str b=>obtain ⟨t,rfl⟩:=rx;exact SeqAt.EqAt.none_str b t
  | _=>exact absurd (show false=true from fx) Qt
 | bl a =>
  cases ry
  cases x with
  | non=>cases rx;exact SeqAt.EqAt.bool_none a
  | bl b=>cases rx;exact SeqAt.EqAt.bool_bool a b
  | int b=>obtain ⟨t,rfl⟩:=rx;exact SeqAt.EqAt.bool_int a b t
  | str b=>obtain ⟨t,rfl⟩:=rx;exact SeqAt.EqAt.bool_str a b t
  | _=>exact absurd (show false=true from fx) Qt
 | int a =>
  obtain ⟨t',rfl⟩:=ry
  cases x with
  | non=>cases rx;exact SeqAt.EqAt.int_none a t'
  | bl b=>cases rx;exact SeqAt.EqAt.int_bool a t' b
  | int b=>obtain ⟨t,rfl⟩:=rx;exact SeqAt.EqAt.int_int a t' b t
  | str b=>obtain ⟨t,rfl⟩:=rx;exact SeqAt.EqAt.int_str a t' b t
  | _=>exact absurd (show false=true from fx) Qt
 | str a =>
  obtain ⟨t',rfl⟩:=ry
  cases x with
  | non=>cases rx;exact SeqAt.EqAt.str_none a t'
  | bl b=>cases rx;exact SeqAt.EqAt.str_bool a t' b
  | int b=>obtain ⟨t,rfl⟩:=rx;exact SeqAt.EqAt.str_int a t' b t
  | str b=>obtain ⟨t,rfl⟩:=rx;exact SeqAt.EqAt.str_str a t' b t
  | _=>exact absurd (show false=true from fx) Qt
 | _=>exact absurd (show false=true from fy) Qt
noncomputable def eqU(x:V)(u:Value):Bool:=match u with
 | .none=>eqV .non x
 | .bool b=>eqV (.bl b) x
 | .int i _=>eqV (.int i) x
 | .str z _=>eqV (.str z) x
 | _=>false
theorem Z112{x y:V}{u:Value}(r:RelV y u)(f:flatV y=true):eqU x u=eqV y x:=by
 cases y with
 | non=>cases r;rfl
 | bl b=>cases r;rfl
 | int i=>obtain ⟨t,rfl⟩:=r;rfl
 | str z=>obtain ⟨t,rfl⟩:=r;rfl
 | _=>exact absurd (show false=true from f) Qt
theorem Z13{x:V}:∀ {xs:List V} {us:List Value},Vals xs us→xs.all flatV=true→us.any (eqU x)=xs.any fun y=>eqV y x
 | _,_,.nil,_=>rfl
 | y::xs,u::us,.cons r t,f=>by
  rw [List.all_cons,Jt] at f
  rw [List.any_cons,List.any_cons,Z112 r f.1,Z13 t f.2]
theorem Z355{A:Around}{s:Shared}{x:V}{v:Value}(rx:RelV x v)(fx:flatV x=true):∀ {xs:List V} {us:List Value},Vals xs us→xs.all flatV=true→∀ u∈us,SeqAt.EqAt A s u v (eqU x u)
 | _,_,.nil,_=>fun u hu=>by cases hu
 | y::xs,u::us,.cons r t,f=>fun u' hu=>by
  rw [List.all_cons,Jt] at f
  rcases Jb.mp hu with rfl | hu
  ·rw [Z112 r f.1];exact Z111 r rx f.1 fx
  ·exact Z355 rx fx t f.2 u' hu
noncomputable def inV(x:V)(xs:List V):Bool:=xs.any fun y=>eqV y x
noncomputable def rIn(K:Qd)(neg:Bool):R2:=fun x y H Q=>∃ p xs,y=.ref p∧(SqL K H p xs∨SqT K H p xs)∧flatV x=true∧xs.all flatV=true∧Q (.bl (if neg then !inV x xs else inV x xs)) H
theorem Z435:OpR X (compareOp .NotIn) (rIn X.K true):=by
 intro pins s σ H x y v u Q I rx ry h
 obtain ⟨p,xs,rfl,hq,fx,fs,q⟩:=h
 cases ry
 rcases hq with hq | hq
 ·obtain ⟨its,r,pl,hz⟩:=I.list hq
  refine SeqAt.notIn_listAt (eqU x) pl.isList (fun w hw=>Z355 rx fx r fs w (by simpa using hw)) ⟨.bl _,H,I,rfl,?_⟩
  rw [show its.toArray.any (eqU x)=its.any (eqU x) by simp,Z13 r fs]
  exact q
 ·obtain ⟨its,r,pl,hz⟩:=I.tuple hq
  refine SeqAt.notIn_tupleAt (eqU x) pl (fun w hw=>Z355 rx fx r fs w (by simpa using hw)) ⟨.bl _,H,I,rfl,?_⟩
  rw [show its.toArray.any (eqU x)=its.any (eqU x) by simp,Z13 r fs]
  exact q

theorem Z49:CallR X (.type "list") (fun xs H Q=>∃ p ys,xs=[.ref p]∧(SqL X.K H p ys∨SqT X.K H p ys)∧∀ l,H l=none→Q (.ref l) (upd H l (.lst ys))):=by
 intro pins s σ H xs us Q I r h
 obtain ⟨p,ys,rfl,hq,q⟩:=h
 obtain ⟨u,rfl,rx⟩:=vals1 r
 cases rx
 have fin:∀ (its:List Value),Vals ys its→ys.length≤sizeLine→∀ (h':Heap) (c':Nat),(∀ b o',s.heap.get? b=some o'→h'.get? b=some o') →
   h'.get? s.heap.objs.size=some { cls:=.type "list",dict:=none,data:=.seq its.toArray c',slots:=#[] }→EP X pins σ Q (.ref s.heap.objs.size) { s with heap:=h' }:=fun its r' hz h' c' kp e =>
  ⟨.ref s.heap.objs.size,_,I.laid (t':=s.toks) kp (Qu _) (show ObjOk X.prog X.w _ h' _ (.lst ys) from ⟨hz,its,c',r',e⟩),rfl,q _ (I.hok.fresh (Qu _))⟩
 rcases hq with hq | hq
 ·obtain ⟨its,r',pl,hz⟩:=I.list hq
  have hlen:=r'.length
  obtain ⟨o,ho,hc,n,hd⟩:=pl.isList
  exact call_list_seq p (.inl rfl) ho hc hd (fun h' c' kp e=>fin its r' hz h' c' kp e) (by simp only [Jg] <;> omega)
 ·obtain ⟨its,r',pl,hz⟩:=I.tuple hq
  have hlen:=r'.length
  obtain ⟨o,ho,hc,n,hd⟩:=pl
  exact call_list_seq p (.inr rfl) ho hc hd (fun h' c' kp e=>fin its r' hz h' c' kp e) (by simp only [Jg] <;> omega)

noncomputable def tyV(K:Qd)(T:String)(x:V)(H:Hp):Prop:=match x with
 | .str _=>T = "str"
 | .int _=>T = "int"
 | .ref p=>(T = "list"∧∃ xs,SqL K H p xs)∨(T = "tuple"∧∃ o,K.lookup p=some o∧o.cls=.type "tuple"∧o.dict=none) ∨
   (T = "dict"∧((∃ kvs,H p=some (.dK kvs))∨∃ kvs,H p=some (.dT kvs)))∨(T = "set"∧∃ S n,H p=some (.set S n))
 | _=>False
theorem Z638{pins:List (Addr×Obj)}{σ:St}{H:Hp}{s:Shared}{T:String}{x:V}{v:Value}(I:Inv X pins σ H s)(r:RelV x v)(ty:tyV X.K T x H) :
  s.TypeIs v T∧∀ a,v=.ref a→∃ ob,s.heap.get? a=some ob∧ob.dict=none:=by
 cases x with
 | str z =>
  obtain ⟨t,rfl⟩:=r
  cases (show T = "str" from ty)
  exact ⟨typeIs_str s z t,fun _ e=>nomatch e⟩
 | int i =>
  obtain ⟨t,rfl⟩:=r
  cases (show T = "int" from ty)
  exact ⟨typeIs_int s i t,fun _ e=>nomatch e⟩
 | ref p =>
  cases r
  rcases ty with ⟨rfl,xs,hq⟩ | ⟨rfl,o,hk,hc,hd⟩ | ⟨rfl,hk⟩ | ⟨rfl,S,n,hk⟩
  ·obtain ⟨its,_,pl,_⟩:=I.list hq
   refine ⟨pl.isList.typeIs,fun a e=>?_⟩
   cases e
   obtain ⟨o,n,e,c,hd,_⟩:=pl
   exact ⟨o,e,hd⟩
  ·refine ⟨⟨o,I.kIn p o hk,hc⟩,fun a e=>?_⟩
   cases e
   exact ⟨o,I.kIn _ o hk,hd⟩
  ·have z:∃ o,s.heap.get? p=some o∧o.ExactDict:=by
    rcases hk with ⟨kvs,hk⟩ | ⟨kvs,hk⟩
    ·obtain ⟨_,_,_,_,o,_,_,e,ex,_⟩:=I.hok p _ hk
     exact ⟨o,e,ex⟩
    ·obtain ⟨_,_,_,_,o,_,_,e,ex,_⟩:=I.hok p _ hk
     exact ⟨o,e,ex⟩
   obtain ⟨o,e,ex⟩:=z
   refine ⟨⟨o,e,ex.1⟩,fun a e2=>?_⟩
   cases e2
   exact ⟨o,e,ex.2.1⟩
  ·obtain ⟨o,_,_,_,e,ex,_⟩:=I.hok p _ hk
   refine ⟨⟨o,e,ex.1⟩,fun a e2=>?_⟩
   cases e2
   exact ⟨o,e,ex.2.1⟩
 | _=>exact False.elim ty
noncomputable def tBM0(K:Qd)(T:String)(r:V→List V→Hp→VK→Prop)(to:TE):TE:=fun σ H Q=>to σ H fun x H1=>tyV K T x H1∧r x [] H1 Q
noncomputable def tBM(K:Qd)(T:String)(r:V→List V→Hp→VK→Prop)(to:TE)(t:TA):TE:=fun σ H Q=>to σ H fun x H1=>tyV K T x H1∧t σ H1 fun xs H2=>r x xs H2 Q
variable {o e:Expr}{es:List Expr}{to:TE}{t:TA}{name:Str}{apos cpos:Pos}{T id:String}{r:V→List V→Hp→VK→Prop}
theorem Z452(pa:PlainAttrs T)(slot:Slot T name id)(hty:typeOf (.builtin id)=pure (.type "method_descriptor"))(hm:MtR X id r)(ho:PE X o to)
  (hbase:attributeBase o name X.env (eval o X.env)=eval o X.env:=by rfl) (hline:(apos.endLine == cpos.line)=true:=by rfl):PE X (.Call (.Attribute o name apos) [] [] cpos) (tBM0 X.K T r to):=by
 intro pins s σ H Q I h
 refine wpAny_Call_method0_late hbase hline (thn (ho pins s σ H _ I h) fun v s1 ⟨x,H1,I1,r1,ty,q1⟩=>?_)
 obtain ⟨h1,h2⟩:=Z638 I1 r1 ty
 exact ⟨T,id,pa,slot,hty,h1,h2,Calls.callWith_builtin rfl (PySem.evalArgs_none (hm pins s1 σ H1 x [] v [] Q I1 r1 .nil q1))⟩
theorem pe_bm(pa:PlainAttrs T)(slot:Slot T name id)(hty:typeOf (.builtin id)=pure (.type "method_descriptor"))(hm:MtR X id r)(ho:PE X o to)(ha:PA X (e::es) t)
  (hbase:attributeBase o name X.env (eval o X.env)=eval o X.env:=by rfl)
  (hfew:((backTo cpos (starEach (e::es) X.env)).all (fun x=>!x.1) && (backToKw cpos (keywordEach [] X.env)).all (fun x=>x.1.isSome)
   && decide ((e::es).length + ([]:List Keyword).length + (if ([]:List Keyword).isEmpty then 0 else 1) < 30))=true:=by rfl)
  (hline:(apos.endLine == cpos.line)=true:=by rfl) (hs:starEach (e::es) X.env=(false,eval e X.env)::starEach es X.env:=by rfl) (hplain:(backTo cpos (starEach es X.env)).any (·.1)=false:=by rfl) :
  PE X (.Call (.Attribute o name apos) (e::es) [] cpos) (tBM X.K T r to t):=by
 intro pins s σ H Q I h
 refine wpAny_Call_method_late hbase hfew hline rfl (thn (ho pins s σ H _ I h) fun v s1 ⟨x,H1,I1,r1,ty,q1⟩=>?_)
 obtain ⟨h1,h2⟩:=Z638 I1 r1 ty
 refine ⟨T,id,pa,slot,hty,h1,h2,?_⟩
 have hA:=ha cpos pins s1 σ H1 _ I1 q1
 rw [hs] at hA ⊢
 refine Calls.callWith_builtin (by show (false || (backTo cpos (starEach es X.env)).any (·.1))=false;rw [hplain] <;> rfl) (Calls.evalArgs_plain ?_)
 exact thn hA fun us s2 ⟨vs,H2,I2,r2,q2⟩=>hm pins s2 σ H2 x vs v us Q I2 r1 r2 q2

end
end L2
namespace L2
open PySem PySem.Spec PyProof.Rows
noncomputable def MtM(X:Cx)(id:String)(r:V→List V→Hp→VK→Prop):Prop :=
 ∀ (pins:List (Addr×Obj)) (s:Shared) (σ:St) (H:Hp) (x:V) (xs:List V) (v:Value) (us:List Value) (Q:VK),Inv X pins σ H s→RelV x v→Vals xs us→r x xs H Q →
  wpAny (model X.prog X.w) X.A (call (.builtin id) (v::us)) (EP X pins σ Q) X.xe s

theorem Vals.one:∀ {x:V} {us:List Value},Vals [x] us→∃ u,us=[u]∧RelV x u
 | _,_,.cons r .nil=>⟨_,rfl,r⟩
theorem Vals.reverse{xs:List V}{us:List Value}(h:Vals xs us):Vals xs.reverse us.reverse:=by
 induction h with
 | nil=>exact .nil
 | cons r t ih=>rw [List.reverse_cons,List.reverse_cons];exact Vals.append ih (.cons r .nil)
section
variable {X:Cx}{pins:List (Addr×Obj)}{σ:St}{H:Hp}{s:Shared}{l b:Addr}{xs ys zs:List V}

theorem Inv.lset{its its':List Value}{n:Nat}{f:Array Value→Array Value}{t':Nat}(I:Inv X pins σ H s)(hH:H l=some (.lst xs))
  (e:s.heap.get? l=some { cls:=.type "list",data:=.seq its.toArray n }) (hf:f its.toArray=its'.toArray) (hv:Vals ys its') (hz:ys.length≤sizeLine) :
  Inv X pins σ (upd H l (.lst ys)) { s with heap:=s.heap.update l (Obj.mapSeq f),toks:=t' }:=by
 have q:=PySem.IsL.update e f
 rw [hf] at q
 refine I.write (x:=l) (e:=l) (by rw [hH];exact trivial) (.inl rfl) (fun b' u hb hu=>(Heap.get?_update_other s.heap (Obj.mapSeq f) (Ne.symm hb)).trans hu) ⟨_,q⟩ ?_
 exact ⟨hz,its',_,hv,q⟩
theorem Inv.lnew{its:List Value}{t':Nat}(I:Inv X pins σ H s)(hv:Vals ys its)(hz:ys.length≤sizeLine) :
  Inv X pins σ (upd H s.heap.objs.size (.lst ys)) { s with heap:=s.heap.push { cls:=.type "list",data:=.seq its.toArray },toks:=t' } :=
 I.laid (fun _ _ q=>Heap.get?_push_of_some _ q) (Qu _) ⟨hz,its,0,hv,Heap.get?_push_size _ rfl⟩
theorem Inv.fresh(I:Inv X pins σ H s):H s.heap.objs.size=none:=I.hok.fresh (Qu _)
theorem Inv.lstM(I:Inv X pins σ H s)(hH:H l=some (.lst xs)):xs.length≤sizeLine∧∃ (its:List Value) (n:Nat),Vals xs its∧xs.length=its.length∧s.heap.get? l=some { cls:=.type "list",data:=.seq its.toArray n }:=by
 obtain ⟨z,its,n,r,e⟩:=I.hok l _ hH
 exact ⟨z,its,n,r,r.length,e⟩
end
section
variable {X:Cx}

noncomputable def rAppend:V→List V→Hp→VK→Prop:=fun x vs H Q=>∃ l xs y,x=.ref l∧vs=[y]∧H l=some (.lst xs)∧xs.length < sizeLine∧Q .non (upd H l (.lst (xs++[y])))
theorem Z372:MtM X "list.append" rAppend:=by
 intro pins s σ H x vs v us Q I rx rv h
 obtain ⟨l,xs,y,rfl,rfl,hH,hz,q⟩:=h
 cases rx
 obtain ⟨u,rfl,ru⟩:=rv.one
 obtain ⟨z,its,n,r,hl,e⟩:=I.lstM hH
 refine call_meets F.slot_list_append ⟨_,e,rfl⟩ F.entry_list_append (F.args_list_append_2 _ _) (PySem.list_append l its.toArray n u (by rw [Jg];omega)) ⟨e,?_⟩
 refine ⟨.non,_,I.lset (its':=its++[u]) hH e (by simp) (r.append (.cons ru .nil)) ?_,rfl,q⟩
 rw [Qx,Wg]
 omega

noncomputable def rCat:R2:=fun x y H Q=>∃ l b xs zs,x=.ref l∧y=.ref b∧H l=some (.lst xs)∧H b=some (.lst zs)∧xs.length + zs.length≤sizeLine∧∀ p,H p=none→Q (.ref p) (upd H p (.lst (xs++zs)))
theorem Z430:OpR X (binaryOp .Add) rCat:=by
 intro pins s σ H x y v u Q I rx ry h
 obtain ⟨l,b,xs,zs,rfl,rfl,hH,hB,hz,q⟩:=h
 cases rx
 cases ry
 obtain ⟨z,its,n,r,hl,e⟩:=I.lstM hH
 obtain ⟨z2,its2,n2,r2,hl2,e2⟩:=I.lstM hB
 refine PySem.P.add_list e e2 ?_ (by rw [Jg,Jg];omega)
 have ea:its.toArray++its2.toArray=(its++its2).toArray:=by simp
 rw [ea]
 exact ⟨.ref _,_,I.lnew (t':=s.toks) (r.append r2) (by rw [Qx];omega),rfl,q _ I.fresh⟩

end

section
variable {prog:Program}{w:World}{A:Around}{E:Value→Shared→Prop}{s:Shared}
end
section
variable {X:Cx}
end
end L2
namespace Att
open PySem PySem.W PySem.Calls PyProof.Rows

theorem Z249{P:Params}{h:Heap}:∀ (ns:List Int) (vs:List Value),WellAll P h vs (ns.map WData.int)→IntsAre vs ns:=by
 intro ns
 induction ns with
 | nil =>
  intro vs w
  rw [Wm] at w
  cases w
  exact .nil
 | cons n ns ih =>
  intro vs w
  rw [Ql] at w
  cases w with
  | cons a b =>
   cases a
   exact .cons _ _ (ih _ b)
theorem Z594{l:OpenLaw}{n:Nat}(hn:l.most=some n){P:Params}{h:Heap}{args:List WData}{vals:List Value}
  (hpre:l.row.toRowW.claim.pre args=true) (hwl:WellAll P h vals args) :
  ∃ a vs ns,vals=[Value.ref a]∧args=[WData.list (ns.map WData.int)]∧h.get? a=some { cls:=.type "list",data:=.seq vs.toArray }∧IntsAre vs ns∧ns.length≤n:=by
 have hsh:WShape.hasAll [] args [.list .int]=true:=(pre_splitW hpre).1
 have hc:l.pre.holds [] { args:=args }=true:=(pre_splitW hpre).2
 obtain ⟨d,r,rfl,h1,h2⟩:=hasAllW_cons hsh
 obtain rfl:=hasAllW_nil h2
 obtain ⟨xs,rfl,h3⟩:=hasW_list h1
 obtain ⟨ns,rfl⟩:=items_int h3
 have hlen:ns.length≤n:=by
  unfold OpenLaw.pre at hc
  have h4:(WTm.not (.lt (.lit (.int (n:Int))) (.len (.arg 0)))).holds [] { args:=[.list (ns.map .int)] }=true:=by
   have h4:=(holds_andW hc).1
   rw [hn] at h4
   exact h4
  have h5:=condW_of h4 (w_not (w_lt w_lit (w_len_list (w_arg rfl))))
  rw [Qn] at h5
  refine Nat.le_of_not_lt fun q=>?_
  have q':(n:Int) < ((ns.length:Nat):Int):=by omega
  first
   | (rw [decide_eq_true q'] at h5;exact absurd h5 (by decide))
   | (simp at h5;omega)
 cases hwl with
 | cons w1 w2 =>
  cases w2
  cases w1 with
  | list ho hall=>exact ⟨_,_,ns,rfl,rfl,ho,Z249 ns _ hall,hlen⟩
theorem Z478(l:OpenLaw)(args:List WData):l.row.toRowW.claim.post args (.bool true) args=true :=
 postW_of (r:=l.row.toRowW) (X:=(true == true))
  (show WShape.has [] (.bool true) .bool=true by first | rfl | decide | simp [WShape.has,WShape.arms,WShape.armsAll])
  (show (WTm.eq .res (.lit (.bool true))).value [] { args:=args,res:=some (.bool true),after:=args }=some (.bool (true == true)) from w_eq_bool (w_res rfl) w_lit) rfl

theorem Z25{l:OpenLaw}{n:Nat}{q:Program}{loose:List Str}{XP:(Str→Option Value)→Heap→Prop}{YP:World→Heap→Prop}{d:DefRec}
  (hn:l.most=some n) (hdf:d.params.defaults=[])
  (call:∀ (w:World) (s₀ s₁:Shared) (mg mb:Str→Option Value) (fa:Addr) (o:Obj) (pm cd doc:Value) (a:Addr) (vs:List Value) (ns:List Int),
   Ground q loose [] XP w s₀ mg mb s₁.heap→YP w s₁.heap →
   s₁.heap.get? fa=some o→o.data=.func (docDef d.name d.params d.body d.scope pm cd doc)→s₁.heap.CodeRec cd d.name→mg d.name=some (.ref fa) →
   s₁.heap.get? a=some { cls:=.type "list",data:=.seq vs.toArray }→IntsAre vs ns→ns.length≤n→s₁.gens=#[] →
   codeAny (model l.prog w) callerA (.call (.ref fa) ⟨[.ref a],[]⟩) (fun r s'=>r=.ok (.ret (.bool true))∧OldK s₁.heap s'.heap∧s'.os=s₁.os∧AllBare s'.gens) s₁) :
  WalkO q loose XP YP l.row.toRowW d [] (fun f vs=>PySem.call f vs):=by
 intro w s₀ s₁ mg mb G Y fa o pm cd doc dV kV ho hd hcd hD hmg hg args vals as hpre hlay hrd hwl hlo
 obtain rfl:dV=.none:=Dflts.none hD hdf
 obtain rfl:kV=.none:=Dflts.noKw hD
 obtain ⟨a,vs,ns,rfl,rfl,hobj,hints,hlen⟩:=Z594 hn hpre hwl
 refine enter_call (codeAny_mono (call w s₀ s₁ mg mb fa o pm cd doc a vs ns G Y ho (fd_plain hd) hcd hmg hobj hints hlen hg) fun r s' hq=>?_)
 obtain ⟨rfl,h2,h3,h4⟩:=hq
 exact ⟨.inl ⟨.bool true,.bool true,[],rfl,fun _=>rfl,.bool true,Z478 l _,fun _=>⟨List.Pairwise.nil,fun _ hm=>(nomatch hm)⟩⟩,h2,h3,h4⟩

section
variable {prog:Program}{w:World}{A:Around}{E:Value→Shared→Prop}{s:Shared}{K:Frag}

noncomputable def ledger(h:Heap)(L d:Addr):List (Addr×Obj):=(List.range h.objs.size).filterMap fun a=>if a=L∨a=d then none else (h.get? a).map fun o=>(a,o)
end
end Att
namespace L2
open PySem PySem.Spec PyProof.Rows
theorem Z679:∀ {vs:List Value} {ns:List Int},IntsAre vs ns→Vals (ns.map V.int) vs
 | _,_,.nil=>.nil
 | _,_,.cons n t h=>.cons ⟨t,rfl⟩ (Z679 h)
noncomputable def Only(H:Hp):Prop:=∀ b,H b=none∨∃ o xs,H b=some (.frz o (.lst xs))
theorem Z316{P:Program}{w:World}{K:Qd}{mg mb:Str→Option Value}{CX:CXT}{k:Nat}{fa a:Addr}{fd:FuncData}{x:Str}{sp:Sp}{s₁:Shared}{vs:List Value}{ns:List Int}
  (KX:K.In s₁.heap) (hns:s₁.heap.Ns mainGlobals mg) (hb:s₁.heap.Ns builtinsNs mb) (hbb:∀ x:Str,x ≠ "__name__"→mb x=bootBuiltins x) (hlim:s₁.heap.NoLimit) (hg:s₁.gens=#[])
  (ha:s₁.heap.get? a=some { cls:=.type "list",data:=.seq vs.toArray }) (hi:IntsAre vs ns) (hl:ns.length≤sizeLine) (hr:Room k callerA)
  (F:∀ base:Heap,K.In base→base.Ns mainGlobals mg→FnOk P w K mg base CX k fa fd [x] sp) (hbind:∀ (s:Shared) (u:Value),BindsTo s fd ⟨[u],[]⟩ [(x,u)])
  (hsp:∀ H:Hp,Only H→SqL K H a (ns.map V.int)→sp [.ref a] H (fun v _=>v=.bl true) fun _ _ _=>False)
  (hCX:∀ H e s',CX [] H s₁ (fun _ _ _=>False) e s'→False) :
  codeAny (model P w) callerA (.call (.ref fa) ⟨[.ref a],[]⟩) (fun r s'=>r=.ok (.ret (.bool true))∧OldK s₁.heap s'.heap∧s'.os=s₁.os∧AllBare s'.gens) s₁:=by
 have rv:=Z679 hi
 have lenV:=hi.length
 have core:∀ H:Hp,Only H→SqL K H a (ns.map V.int)→HOk P w H s₁.heap→(∀ b,H b≠none→b=a)→(H a≠none→K.lookup a=none) →
   codeAny (model P w) callerA (.call (.ref fa) ⟨[.ref a],[]⟩) (fun r s'=>r=.ok (.ret (.bool true))∧OldK s₁.heap s'.heap∧s'.os=s₁.os∧AllBare s'.gens) s₁:=by
  intro H hO hS hok hA hK
  have base_of:∀ {b:Addr} {o:Obj},s₁.heap.get? b=some o→H b=none→(hidT s₁.heap H).get? b=some o:=fun e n=>Z227 e n
  have noA:∀ {b:Addr} {o:Obj} {es:Array DictEntry} {ep:Nat},s₁.heap.get? b=some o→o.data=.dict es ep→H b=none:=fun {b o es ep} e d=>by
   cases q:H b with
   | none=>rfl
   | some u =>
    have e':b=a:=hA b (by rw [q];simp)
    subst e'
    rw [ha] at e;cases e
    have d':Data.seq vs.toArray _=Data.dict es ep:=d
    cases d'
  have nsK:∀ {b:Addr} {m:Str→Option Value},s₁.heap.Ns b m→(hidT s₁.heap H).Ns b m:=fun {b m} ⟨o,es,ep,e,d,r⟩=>⟨o,es,ep,base_of e (noA e d),d,r⟩
  have hKb:K.In (hidT s₁.heap H):=fun b o e=>base_of (KX b o e) (by
   cases q:H b with
   | none=>rfl
   | some u =>
    have e':b=a:=hA b (by rw [q];simp)
    subst e'
    rw [hK (by rw [q];simp)] at e;cases e)
  have hM:Mod K mg (hidT s₁.heap H):=⟨hKb,nsK hns,⟨mb,nsK hb,hbb⟩,let ⟨mc,h1,h2⟩:=hlim;⟨mc,nsK h1,h2⟩⟩
  have e0:Env0 P w K mg (hidT s₁.heap H) callerA [] s₁ H:=⟨rfl,hM,fun b o e=>Z401 e,Nat.le_of_eq (Z228 _ _),trivial,fun b hb=>absurd (show b∈([]:List Addr) from hb) (by simp),hok,.of_eq hg⟩
  refine codeAny_mono ((F _ hKb (nsK hns)).run callerA [] s₁ H ⟨[.ref a],[]⟩ [.ref a] [.ref a] _ _ hr e0 (hbind s₁ (.ref a)) (.cons rfl .nil) (hsp H hO hS)) fun r s' h=>?_
  cases r with
  | error e=>exact (hCX H e s' h).elim
  | ok fl =>
   cases fl with
   | next=>exact False.elim h
   | brk=>exact False.elim h
   | cont=>exact False.elim h
   | ret u =>
    obtain ⟨v,H',os,bare,un,hok',r',q⟩:=h
    have q':v=.bl true:=q
    subst q'
    obtain rfl:u=Value.bool true:=r'
    refine ⟨rfl,OldK.of_keep fun b o e=>?_,os,bare⟩
    cases q:H b with
    | none=>exact un.keep b o e q (by intro z;exact absurd (show b∈([]:List Addr) from z) (by simp)) (by simp)
    | some u =>
     rcases hO b with z | ⟨ob,xs,z⟩
     ·rw [q] at z;cases z
     ·have z2:=un.frzs b ob _ z
      obtain ⟨e1,_⟩:=hok b _ z
      obtain ⟨e2,_⟩:=hok' b _ z2
      rw [e] at e1;cases e1
      exact e2
 cases hk:K.lookup a with
 | some o =>
  have e:=KX a o hk
  rw [ha] at e
  cases e
  refine core (fun _=>none) (fun _=>.inl rfl) (.inr ⟨_,vs.toArray,_,hk,rfl,rfl,rfl,by rw [Jg,lenV];exact hl,by simpa using rv⟩) (fun b u z=>by have z':(none:Option HO)=some u:=z;cases z') (fun b z=>absurd rfl z) fun z=>absurd rfl z
 | none =>
  refine core (fun b=>if b=a then some (.frz { cls:=.type "list",data:=.seq vs.toArray } (.lst (ns.map V.int))) else none) (fun b=>?_) (.inl (.inr ⟨{ cls:=.type "list",data:=.seq vs.toArray },if_pos rfl⟩)) (fun b u z=>?_) (fun b z=>?_) fun _=>hk
  ·by_cases hb:b=a
   ·exact .inr ⟨_,_,if_pos hb⟩
   ·exact .inl (if_neg hb)
  ·by_cases hb:b=a
   ·have z':=(if_pos hb).symm.trans z
    cases z'
    subst hb
    exact ⟨ha,by rw [Qn];exact hl,vs,_,rv,ha⟩
   ·have z':=(if_neg hb).symm.trans z
    cases z'
  ·by_cases hb:b=a
   ·exact hb
   ·exact absurd (if_neg hb) z
end L2
namespace L2
open PySem PySem.Spec PyProof.Rows
noncomputable abbrev KOf{K:Qd}{h:Heap}(_:K.In h):Qd:=K
theorem Z681{l:PySem.W.OpenLaw}{n k:Nat}{q:Program}{loose:List Str}{XP:(Str→Option Value)→Heap→Prop}{YP:World→Heap→Prop}{d:DefRec}{K:Params→Qd}{CX:World→CXT}{sp:World→Sp}{x:Str}
  (hn:l.most=some n) (hn2:n≤sizeLine) (hdf:d.params.defaults=[]) (hr:Room k callerA)
  (hY:∀ (w:World) (h:Heap),YP w h→(K w.params).In h)
  (F:∀ (w:World) (mg:Str→Option Value) (fa:Addr) (h:Heap),(K w.params).In h→h.Ns mainGlobals mg→mg d.name=some (.ref fa) →
   ∃ fd:FuncData,(∀ (s:Shared) (u:Value),BindsTo s fd ⟨[u],[]⟩ [(x,u)]) ∧
    ∀ base:Heap,(K w.params).In base→base.Ns mainGlobals mg→FnOk l.prog w (K w.params) mg base (CX w) k fa fd [x] (sp w))
  (hsp:∀ (w:World) (H:Hp) (a:Addr) (ns:List Int),ns.length≤n→Only H→SqL (K w.params) H a (ns.map V.int)→sp w [.ref a] H (fun v _=>v=.bl true) fun _ _ _=>False)
  (hCX:∀ (w:World) (H:Hp) (s:Shared) (e:Value) (s':Shared),CX w [] H s (fun _ _ _=>False) e s'→False) :
  PySem.W.WalkO q loose XP YP l.row.toRowW d [] (fun f vs=>PySem.call f vs):=by
 refine Att.Z25 hn hdf fun w s₀ s₁ mg mb fa o pm cd doc a vs ns G Y ho hd hcd hmg hobj hints hlen hg=>?_
 have KX:=hY w _ Y
 obtain ⟨fd,hb,hF⟩:=F w mg fa _ KX G.T.g hmg
 exact Z316 KX G.T.g G.T.b G.T.builtins G.T.nolimit hg hobj hints (Wt hlen hn2) hr hF hb (fun H hO hS=>hsp w H a ns hlen hO hS) fun H e s'=>hCX w H s₁ e s'
end L2


namespace L2
open PySem PySem.Spec PyProof.Rows

noncomputable def defArgs(s:Stmt):Arguments:=match s with
 | .FunctionDef _ a _ _ _ _ _ _ _ _=>a
 | _=>{ posonlyargs:=[],args:=[],vararg:=none,kwonlyargs:=[],kw_defaults:=[],kwarg:=none,defaults:=[] }
noncomputable def defBody(s:Stmt):List Stmt:=match s with
 | .FunctionDef _ _ b _ _ _ _ _ _ _=>b
 | _=>[]
noncomputable def defScope(s:Stmt):Scope:=match s with
 | .FunctionDef _ _ _ _ _ _ sc _ _ _=>sc
 | _=>{ kind:=.function,names:=[],isGenerator:=false,isCoroutine:=false }

noncomputable abbrev CX0:CXT:=fun _ _ _ _ _ _=>False
noncomputable abbrev E0:XK:=fun _ _ _=>False

structure Fun(K:Qd)(x qual:Str)(st:Stmt)(f:Addr)(fd:FuncData):Prop where
 ex:∃ (oc:Value) (od:Option Addr) (kV doc pm:Value) (an:Option Addr) (cdv ct:Value) (osl:Array (Option Value)),
  fd=PySem.W.fnOf x qual (defArgs st) (defBody st) (defScope st) .none kV doc pm an cdv ct∧K.lookup f=some ⟨oc,od,.func fd,osl⟩∧PySem.W.codeIn K cdv qual=true
 kp:PySem.W.keepIn K (.ref f)=true
section
variable {P:Program}{w:World}{K:Qd}{mg:Str→Option Value}{base:Heap}
theorem Z203{x qual:Str}{st:Stmt}{f:Addr}{oc:Value}{od an:Option Addr}{osl:Array (Option Value)}{kV doc pm cdv ct:Value}(l:K.lookup f=some ⟨oc,od,.func (PySem.W.fnOf x qual (defArgs st) (defBody st) (defScope st) .none kV doc pm an cdv ct),osl⟩)
  (c:PySem.W.codeIn K cdv qual=true) (k:PySem.W.keepIn K (.ref f)=true):Fun K x qual st f (PySem.W.fnOf x qual (defArgs st) (defBody st) (defScope st) .none kV doc pm an cdv ct):=⟨⟨oc,od,kV,doc,pm,an,cdv,ct,osl,rfl,l,c⟩,k⟩
end
theorem hu_of{A:Around}{k:Nat}(hr:Room k A):A.units + 1 < cLine:=Nat.lt_of_le_of_lt (Nat.add_le_add_left (by decide:1≤64) _) hr.units

section
variable {X:Cx}
theorem pv(i:Nat){x:Str}{pos:Pos}(hN:X.N[i]?=some x:=by rfl)(hv:Vis X.env.scope x:=by first | exact Or.inl rfl | exact Or.inr (Or.inl rfl) | exact Or.inr (Or.inr rfl))(hd:(x == ("__debug__":Str))=false:=by decide)
  (hcd:(x == ("__classdict__":Str))=false:=by decide):PE X (.Name x pos) (tVar i):=Z467 hN hv hd hcd
end

theorem iteF{A B:Prop}(h:B):if false=true then A else B:=by
 rw [if_neg Qt]
 exact h
theorem iteT{A B:Prop}(h:A):if true=true then A else B:=by
 rw [if_pos rfl]
 exact h

noncomputable def Same(H H':Hp):Prop:=∀ b o,H b=some o→H' b=some o
theorem Same.trans{H H1 H2:Hp}(a:Same H H1)(b:Same H1 H2):Same H H2:=fun c o h=>b c o (a c o h)
theorem Same.seq{K:Qd}{H H':Hp}{a:Addr}{xs:List V}(e:Same H H')(h:SqL K H a xs):SqL K H' a xs:=by
 rcases h with (h | ⟨o,h⟩) | h
 ·exact .inl (.inl (e _ _ h))
 ·exact .inl (.inr ⟨o,e _ _ h⟩)
 ·exact .inr h
end L2
namespace L2
open PySem PySem.Spec PyProof.Rows

section
variable {κ:Type}[DecidableEq κ]
noncomputable def valV(kvs:List (κ×V))(k:κ):Option V:=(kvs.find? fun kv=>decide (kv.1=k)).map (·.2)
noncomputable def putK(kvs:List (κ×V))(k:κ)(v:V):List (κ×V) :=
 if (kvs.any fun kv=>decide (kv.1=k))=true then kvs.map (fun kv=>if kv.1=k then (kv.1,v) else kv) else kvs++[(k,v)]
theorem Z676{p:κ×V}{r:List (κ×V)}{k:κ}(e:p.1=k):valV (p::r) k=some p.2:=by simp [valV,List.find?_cons,e]
theorem Z675{p:κ×V}{r:List (κ×V)}{k:κ}(e:¬ p.1=k):valV (p::r) k=valV r k:=by simp [valV,List.find?_cons,e]
theorem Z672(k:κ):∀ kvs:List (κ×V),(kvs.any fun kv=>decide (kv.1=k))=(valV kvs k).isSome
 | []=>rfl
 | p::r=>by
  rw [List.any_cons]
  by_cases e:p.1=k
  ·simp only [Z676 e,decide_eq_true e,Bool.true_or,Option.isSome_some]
  ·rw [Z675 e,decide_eq_false e,Bool.false_or];exact Z672 k r
theorem Z340(kvs:List (κ×V))(k:κ)(v:V):(putK kvs k v).length≤kvs.length + 1:=by
 unfold putK
 split
 ·rw [Qn];omega
 ·rw [Qx,Jq,List.length_nil];omega
theorem Z496{kvs:List (κ×V)}{k:κ}(v:V)(h:valV kvs k=none):putK kvs k v=kvs++[(k,v)]:=by
 unfold putK
 rw [Z672,h]
 exact if_neg (by decide)
theorem RelO.isSome_eq{o:Option V}{u:Option Value}(r:RelO o u):o.isSome=u.isSome:=by
 cases o with
 | none=>cases u with
  | none=>rfl
  | some _=>exact (show False from r).elim
 | some _=>cases u with
  | none=>exact (show False from r).elim
  | some _=>rfl
theorem KV.val{kvs:List (κ×V)}{vs:List (κ×Value)}(r:KV kvs vs)(k:κ):RelO (valV kvs k) (valueAt vs k):=by
 unfold KV at r
 induction r with
 | nil=>exact True.intro
 | @cons p q ps qs h t ih =>
  obtain ⟨h1,h2⟩:=h
  by_cases e:p.1=k
  ·have e':q.1=k:=h1.symm.trans e
   have b:valueAt (q::qs) k=some q.2:=by simp [valueAt,List.find?_cons,e']
   rw [Z676 e,b];exact h2
  ·have e':¬ q.1=k:=fun z=>e (h1.trans z)
   have b:valueAt (q::qs) k=valueAt qs k:=by simp [valueAt,List.find?_cons,e']
   rw [Z675 e,b];exact ih
theorem KV.any{kvs:List (κ×V)}{vs:List (κ×Value)}(r:KV kvs vs)(k:κ):(kvs.any fun kv=>decide (kv.1=k))=vs.any fun kv=>decide (kv.1=k):=by
 unfold KV at r
 induction r with
 | nil=>rfl
 | cons h t ih=>rw [List.any_cons,List.any_cons,ih,h.1]
theorem KV.repl{kvs:List (κ×V)}{vs:List (κ×Value)}(r:KV kvs vs)(k:κ){y:V}{u:Value}(ry:RelV y u) :
  KV (kvs.map fun kv=>if kv.1=k then (kv.1,y) else kv) (vs.map fun kv=>if kv.1=k then (kv.1,u) else kv):=by
 unfold KV at r ⊢
 induction r with
 | nil=>exact .nil
 | @cons p q ps qs h t ih =>
  rw [Ql,Ql]
  refine .cons ?_ ih
  obtain ⟨h1,h2⟩:=h
  by_cases e:p.1=k
  ·rw [if_pos e,if_pos (h1.symm.trans e)];exact ⟨h1,ry⟩
  ·rw [if_neg e,if_neg (fun z=>e (h1.trans z))];exact ⟨h1,h2⟩
theorem KV.put{kvs:List (κ×V)}{vs:List (κ×Value)}(r:KV kvs vs)(k:κ){y:V}{u:Value}(ry:RelV y u):KV (putK kvs k y) (stored vs k u):=by
 unfold putK stored
 rw [r.any k]
 by_cases e:(vs.any fun kv=>decide (kv.1=k))=true
 ·rw [if_pos e,if_pos e];exact r.repl k ry
 ·rw [if_neg e,if_neg e];exact Paired.snoc r ⟨rfl,ry⟩
theorem KV.length{kvs:List (κ×V)}{vs:List (κ×Value)}(r:KV kvs vs):kvs.length=vs.length:=Paired.length r
end

theorem kV_is{P:Program}{w:World}{k:Key}{u:Value}(r:RelV (kV k) u):(mixKind P w).is k u=true:=by
 cases k with
 | inl i=>obtain ⟨t,e⟩:=(show ∃ t,u=Value.int i t from r);subst e;exact Z370 P w i t
 | inr x=>obtain ⟨t,e⟩:=(show ∃ t,u=Value.str x t from r);subst e;exact Z371 P w x t
theorem Z260{P:Program}{w:World}:∀ {ks:List Key} {us:List Value},Vals (ks.map kV) us→ItemsAre (mixKind P w) ks us
 | [],_,r=>by rw [Wm] at r;cases r;exact .nil
 | k::ks,_,r=>by
  rw [Ql] at r
  cases r with
  | cons h t=>exact .cons (kV_is h) (Z260 t)
noncomputable abbrev KT(H:Hp):List (List Key×V)→List (List Key×Addr×Value)→Prop:=Paired fun p q=>p.1=q.1∧H q.2.1=some (.tup (p.1.map kV))∧RelV p.2 q.2.2
theorem KT.val{H:Hp}{kvs:List (List Key×V)}{xs:List (List Key×Addr×Value)}(r:KT H kvs xs)(k:List Key):RelO (valV kvs k) ((atKey xs k).map (·.2)):=by
 induction r with
 | nil=>exact True.intro
 | @cons p q ps qs h t ih =>
  obtain ⟨h1,_,h2⟩:=h
  by_cases e:p.1=k
  ·have e':q.1=k:=h1.symm.trans e
   have b:atKey (q::qs) k=some q.2:=by simp [atKey,List.find?_cons,e']
   rw [Z676 e,b];exact h2
  ·have e':¬ q.1=k:=fun z=>e (h1.trans z)
   have b:atKey (q::qs) k=atKey qs k:=by simp [atKey,List.find?_cons,e']
   rw [Z675 e,b];exact ih
theorem KT.repl{H:Hp}{kvs:List (List Key×V)}{xs:List (List Key×Addr×Value)}(r:KT H kvs xs)(k:List Key){y:V}{u:Value}(ry:RelV y u) :
  KT H (kvs.map fun kv=>if kv.1=k then (kv.1,y) else kv) (xs.map (putAt k u)):=by
 induction r with
 | nil=>exact .nil
 | @cons p q ps qs h t ih =>
  rw [Ql,Ql]
  refine .cons ?_ ih
  obtain ⟨h1,h2,h3⟩:=h
  unfold putAt
  by_cases e:p.1=k
  ·rw [if_pos e,if_pos (h1.symm.trans e)];exact ⟨h1,h2,ry⟩
  ·rw [if_neg e,if_neg (fun z=>e (h1.trans z))];exact ⟨h1,h2,h3⟩
theorem KT.put{H:Hp}{kvs:List (List Key×V)}{xs:List (List Key×Addr×Value)}(r:KT H kvs xs)(k:List Key){b:Addr}{y:V}{u:Value}(hb:H b=some (.tup (k.map kV)))(ry:RelV y u) :
  KT H (putK kvs k y) (storedH xs k b u):=by
 have e:(kvs.any fun kv=>decide (kv.1=k))=(atKey xs k).isSome:=by
  rw [Z672,(r.val k).isSome_eq,Option.isSome_map]
 unfold putK storedH
 rw [e]
 by_cases q:(atKey xs k).isSome=true
 ·rw [if_pos q,if_pos q];exact r.repl k ry
 ·rw [if_neg q,if_neg q];exact Paired.snoc r ⟨rfl,hb,ry⟩
theorem KT.keeps{H H':Hp}{kvs:List (List Key×V)}{xs:List (List Key×Addr×Value)}(r:KT H kvs xs)(ht:∀ b ys,H b=some (.tup ys)→H' b=some (.tup ys)):KT H' kvs xs :=
 Paired.mapP r fun _ _ z=>⟨z.1,ht _ _ z.2.1,z.2.2⟩
section
variable {P:Program}{w:World}{H:Hp}{h:Heap}{a:Addr}
theorem rd_of{u:HO}(ok:HOk P w H h)(e:Rd H a u):ObjOk P w H h a u:=e.ok ok
theorem dk_rd{kvs:List (Key×V)}(ok:HOk P w H h)(e:Rd H a (.dK kvs)):kvs.length≤sizeLine∧(a == sysModules)=false∧∃ vs,KV kvs vs∧h.DictOf (mixKind P w) a vs :=
 show ObjOk P w H h a (.dK kvs) from rd_of ok e
theorem dk_of{kvs:List (Key×V)}(ok:HOk P w H h)(e:H a=some (.dK kvs)):kvs.length≤sizeLine∧(a == sysModules)=false∧∃ vs,KV kvs vs∧h.DictOf (mixKind P w) a vs:=dk_rd ok (.inl e)
theorem Z277{ks:List Key}(ok:HOk P w H h)(e:H a=some (.tup (ks.map kV))):(tupleKind (mixKind P w)).is h ks a:=by
 obtain ⟨_,its,r,o,h1,h2,n,h3⟩:=(show ObjOk P w H h a (.tup (ks.map kV)) from ok a _ e)
 exact ⟨o,its.toArray,n,h1,h2,h3,by simpa using Z260 r⟩
theorem dt_rd{kvs:List (List Key×V)}(ok:HOk P w H h)(e:Rd H a (.dT kvs)):kvs.length≤sizeLine∧(a == sysModules)=false ∧
  ∃ xs,KT H kvs xs∧h.DictOfH (tupleKind (mixKind P w)) a xs:=by
 obtain ⟨z,y,xs,r,o,es,ep,h1,h2,h3,h4,h5⟩:=(show ObjOk P w H h a (.dT kvs) from rd_of ok e)
 refine ⟨z,y,xs,r,o,es,ep,h1,h2,h3,h4,fun x hx=>?_,h5⟩
 have all:∀ {l:List (List Key×V)} {m:List (List Key×Addr×Value)},KT H l m→∀ x∈m,(tupleKind (mixKind P w)).is h x.1 x.2.1:=by
  intro l m q
  induction q with
  | nil=>intro x hx;exact nomatch hx
  | @cons p q ps qs hq t ih =>
   intro x hx
   rcases Jb.mp hx with e | hx
   ·subst e
    exact Z277 ok (by rw [← hq.1];exact hq.2.1)
   ·exact ih x hx
 exact all r x hx
theorem dt_of{kvs:List (List Key×V)}(ok:HOk P w H h)(e:H a=some (.dT kvs)):kvs.length≤sizeLine∧(a == sysModules)=false ∧
  ∃ xs,KT H kvs xs∧h.DictOfH (tupleKind (mixKind P w)) a xs:=dt_rd ok (.inl e)
end
noncomputable def DGet(H:Hp)(a:Addr)(y:V)(r:Option V):Prop :=
 (∃ kvs k,Rd H a (.dK kvs)∧y=kV k∧r=valV kvs k)∨∃ kvs k b,Rd H a (.dT kvs)∧y=.ref b∧H b=some (.tup (k.map kV))∧r=valV kvs k
noncomputable def DPut(H:Hp)(a:Addr)(y v:V)(H':Hp):Prop :=
 (∃ kvs k,H a=some (.dK kvs)∧y=kV k∧kvs.length < sizeLine∧H'=upd H a (.dK (putK kvs k v))) ∨
 ∃ kvs k b,H a=some (.dT kvs)∧y=.ref b∧H b=some (.tup (k.map kV))∧kvs.length < sizeLine∧H'=upd H a (.dT (putK kvs k v))
theorem DGet.k{H:Hp}{a:Addr}{kvs:List (Key×V)}{k:Key}(e:H a=some (.dK kvs)):DGet H a (kV k) (valV kvs k):=.inl ⟨kvs,k,.inl e,rfl,rfl⟩
theorem DGet.t{H:Hp}{a b:Addr}{kvs:List (List Key×V)}{k:List Key}(e:H a=some (.dT kvs))(eb:H b=some (.tup (k.map kV))):DGet H a (.ref b) (valV kvs k):=.inr ⟨kvs,k,b,.inl e,rfl,eb,rfl⟩
theorem DPut.k{H:Hp}{a:Addr}{kvs:List (Key×V)}{k:Key}{v:V}(e:H a=some (.dK kvs))(hl:kvs.length < sizeLine):DPut H a (kV k) v (upd H a (.dK (putK kvs k v))):=.inl ⟨kvs,k,e,rfl,hl,rfl⟩
theorem DPut.t{H:Hp}{a b:Addr}{kvs:List (List Key×V)}{k:List Key}{v:V}(e:H a=some (.dT kvs))(eb:H b=some (.tup (k.map kV)))(hl:kvs.length < sizeLine) :
  DPut H a (.ref b) v (upd H a (.dT (putK kvs k v))):=.inr ⟨kvs,k,b,e,rfl,eb,hl,rfl⟩
section
variable {X:Cx}{pins:List (Addr×Obj)}{σ:St}{H:Hp}{s:Shared}{a:Addr}{y v:V}{u r:Value}{o:Option V}{A:Around}{E:Value→Shared→Prop}
theorem Inv.big(I:Inv X pins σ H s):sysModules < s.heap.objs.size:=by
 have h:mainGlobals < s.heap.objs.size:=(I.mod.glob.keeps I.bk).lt
 exact Nat.lt_trans (by decide) h
theorem Z81{Q:Value→Shared→Prop}(hu:A.units + 1 < cLine)(I:Inv X pins σ H s)(g:DGet H a y (some v))(ry:RelV y u)(h:∀ w' s',Inv X pins σ H s'→RelV v w'→Q w' s') :
  wpAny (model X.prog X.w) A (getItem (.ref a) u) Q E s:=by
 rcases g with ⟨kvs,k,e,ey,l⟩ | ⟨kvs,k,b,e,ey,eb,l⟩
 ·subst ey
  obtain ⟨z,hd,vs,rel,dd⟩:=dk_rd I.hok e
  obtain ⟨w',hw,rw'⟩:=RelO.some_of (v:=v) (o:=valueAt vs k) (by rw [l];exact rel.val k)
  exact wpAny_getItem_of (kV_is ry) dd.mapOf hw (h w' _ (I.tok _) rw')
 ·subst ey
  cases (show u=Value.ref b from ry)
  obtain ⟨z,hd,xs,rel,dd⟩:=dt_rd I.hok e
  obtain ⟨w',hw,rw'⟩:=RelO.some_of (v:=v) (o:=(atKey xs k).map (·.2)) (by rw [l];exact rel.val k)
  obtain ⟨p,hp,hp2⟩:=Option.map_eq_some_iff.mp hw
  refine wpAny_getItem_heap (tupleKind_room_in1 hu) (Z277 I.hok eb) dd hp ?_
  rw [hp2]
  exact h w' _ (I.tok _) rw'
theorem Z82{Q:Value→Shared→Prop}(hu:A.units + 1 < cLine)(I:Inv X pins σ H s)(g:DGet H a y o)(ry:RelV y u)(h:∀ s',Inv X pins σ H s'→Q (.bool (!o.isSome)) s') :
  wpAny (model X.prog X.w) A (compareOp .NotIn u (.ref a)) Q E s:=by
 rcases g with ⟨kvs,k,e,ey,l⟩ | ⟨kvs,k,b,e,ey,eb,l⟩
 ·subst ey
  obtain ⟨z,hd,vs,rel,dd⟩:=dk_rd I.hok e
  refine wpAny_notIn_of (kV_is ry) hd dd.mapOf ?_
  rw [← (rel.val k).isSome_eq,← l]
  exact h _ (I.tok _)
 ·subst ey
  cases (show u=Value.ref b from ry)
  obtain ⟨z,hd,xs,rel,dd⟩:=dt_rd I.hok e
  refine wpAny_notIn_heap (tupleKind_room_in1 hu) (Z277 I.hok eb) hd dd ?_
  have q:=(rel.val k).isSome_eq
  rw [Option.isSome_map] at q
  rw [← q,← l]
  exact h _ (I.tok _)
theorem Z84{h':Heap}{t':Nat}{ob:HO}(I:Inv X pins σ H s)(mu:Mut (H a))(hs:Heap.SameBut a s.heap h')(he:∃ q,h'.get? a=some q)(new:ObjOk X.prog X.w (upd H a ob) h' a ob) :
  Inv X pins σ (upd H a ob) { s with heap:=h',toks:=t' } :=
 I.write (x:=a) (e:=a) mu (.inl rfl) (fun b q hb z=>(hs.2 b hb).trans z) he new
theorem Z98{P:Program}{w:World}{H':Hp}{h':Heap}{kvs:List (Key×V)}{vs:List (Key×Value)}(z:kvs.length≤sizeLine)(hd:(a == sysModules)=false)(rel:KV kvs vs)(dd:h'.DictOf (mixKind P w) a vs) :
  ObjOk P w H' h' a (.dK kvs):=⟨z,hd,vs,rel,dd⟩
theorem Z83{H':Hp}{Q:Unit→Shared→Prop}(hu:A.units + 1 < cLine)(I:Inv X pins σ H s)(g:DPut H a y v H')(ry:RelV y u)(rv:RelV v r)(h:∀ s',Inv X pins σ H' s'→Q () s') :
  wpAny (model X.prog X.w) A (setItem (.ref a) u r) Q E s:=by
 rcases g with ⟨kvs,k,e,ey,l,eH⟩ | ⟨kvs,k,b,e,ey,eb,l,eH⟩
 ·subst ey eH
  obtain ⟨z,hd,vs,rel,dd⟩:=dk_of I.hok e
  have hz:vs.length≤sizeLine:=by rw [← rel.length];exact z
  have hl:(putK kvs k v).length≤sizeLine:=by have:=Z340 kvs k v;omega
  refine wpAny_setItem_pairs (hsz:=hz) (kV_is ry) dd fun h' dd' hs=>h _ ?_
  have he:∃ q,h'.get? a=some q:=let ⟨q,_,_,hq,_⟩:=dd';⟨q,hq⟩
  exact Z84 I (by rw [e];exact True.intro) hs he (Z98 hl hd (rel.put k rv) dd')
 ·subst ey eH
  cases (show u=Value.ref b from ry)
  obtain ⟨z,hd,xs,rel,dd⟩:=dt_of I.hok e
  have hz:xs.length≤sizeLine:=by rw [← Paired.length rel];exact z
  have hl:(putK kvs k v).length≤sizeLine:=by have:=Z340 kvs k v;omega
  refine wpAny_setItem_heap (hsz:=hz) (tupleKind_room_in1 hu) (Z277 I.hok eb) dd fun h' dd' hs=>h _ ?_
  obtain ⟨q,es,ep,hq,h2,h3,h4,_,h5⟩:=dd'
  refine Z84 I (by rw [e];exact True.intro) hs ⟨q,hq⟩ ⟨hl,hd,_,(rel.put k eb rv).keeps fun c ys ec=>?_,q,es,ep,hq,h2,h3,h4,h5⟩
  rw [Z646 (ne_of ec e (fun z=>nomatch z))]
  exact ec
end
section
variable {X:Cx}{pins:List (Addr×Obj)}{σ:St}{H:Hp}{s:Shared}{a:Addr}{kvs:List (Key×V)}{k:Key}{u:Value}{A:Around}{E:Value→Shared→Prop}
theorem d_len{Q:Value→Shared→Prop}(I:Inv X pins σ H s)(e:Rd H a (.dK kvs))(h:∀ t s',Inv X pins σ H s'→Q (.int kvs.length t) s'):wpAny (model X.prog X.w) A (call (.builtin "len") [.ref a]) Q E s:=by
 obtain ⟨z,hd,vs,rel,dd⟩:=dk_rd I.hok e
 refine call_len_dict hd dd (by rw [← rel.length];rw [sizeLine_eq] at z;omega) ?_
 rw [← rel.length]
 exact h _ _ (I.tok _)
end

noncomputable def NoSl(i:Expr):Prop:=∀ ov iv,subscripted i false ov iv=operate [ov,iv] (getItem ov iv)
theorem Z603{prog:Program}{w:World}{A:Around}{E:Value→Shared→Prop}{s:Shared}{env:Env}{value slice:Expr}{pos:Pos}{T id:String}{Q:Value→Shared→Prop}
  (hl:typeLookup (.type T) "__getitem__"=pure (some (.builtin id))) (hs:NoSl slice)
  (h:wpAny (model prog w) A (eval value env) (fun o s₁=>wpAny (model prog w) A (eval slice env) (fun i s₂=>s₂.TypeIs o T∧wpAny (model prog w) A (getItem o i) Q E s₂) E s₁) E s) :
  wpAny (model prog w) A (eval (.Subscript value slice pos) env) Q E s:=by
 refine Subscript_ (wpAny_mono h (fun o s₁ h₁=>wpAny_mono h₁ (fun i s₂ h₂=>?_) fun _ _ x=>x) fun _ _ x=>x)
 obtain ⟨hT,h₂⟩:=h₂
 unfold subscriptTail
 refine wpAny_bind ?_
 rw [getitemInPython_of_ne hT.not_modules]
 refine wpAny_bind (wpAny_specialOf hT hl ?_)
 have fin:wpAny (model prog w) A (subscripted slice false o i) (fun r s₃=>wpAny (model prog w) A (letTemporaryGo value o r >>= fun _=>pure r) Q E s₃) E s₂:=by
  rw [hs o i]
  exact wpAny_operating (wpAny_mono h₂ (fun r s₃ h₃=>wpAny_bind (wpAny_letTemporaryGo (wpAny_pure h₃))) fun _ _ x=>x)
 first
  | exact wpAny_pure (wpAny_bind fin)
  | exact wpAny_bind (wpAny_pure (wpAny_bind fin))
  | exact wpAny_bind fin
theorem Z95{X:Cx}{pins:List (Addr×Obj)}{σ:St}{H:Hp}{s:Shared}{a:Addr}{y:V}{o:Option V}(I:Inv X pins σ H s)(g:DGet H a y o):s.TypeIs (.ref a) "dict":=by
 rcases g with ⟨kvs,k,e,_,_⟩ | ⟨kvs,k,b,e,_,_,_⟩
 ·obtain ⟨_,_,vs,_,dd⟩:=dk_rd I.hok e
  exact dd.typeIs
 ·obtain ⟨_,_,xs,_,dd⟩:=dt_rd I.hok e
  exact dd.typeIs
noncomputable def tDGet(td ty:TE):TE:=fun σ H Q=>td σ H fun x H1=>ty σ H1 fun y H2=>∃ a v,x=.ref a∧DGet H2 a y (some v)∧Q v H2
noncomputable def tDNotIn(ty td:TE):TE:=fun σ H Q=>ty σ H fun y H1=>td σ H1 fun x H2=>∃ a o,x=.ref a∧DGet H2 a y o∧Q (.bl (!o.isSome)) H2
noncomputable def sDPut(td ty tv:TE):TS:=fun D σ H=>tv σ H fun v H1=>td σ H1 fun x H2=>ty σ H2 fun y H3=>∃ a H4,x=.ref a∧DPut H3 a y v H4∧D.nx σ H4
section
variable {X:Cx}{o i e value:Expr}{pos pos' tpos:Pos}{td ty tv:TE}
theorem Z457(hu:X.A.units + 1 < cLine)(ho:PE X o td)(hi:PE X i ty)(hs:NoSl i):PE X (.Subscript o i pos) (tDGet td ty):=by
 intro pins s σ H Q I h
 refine Z603 PySem.F.slot_dict_getitem.lookup hs (thn (ho pins s σ H _ I h) fun u s1 ⟨x,H1,I1,rx,q1⟩=>thn (hi pins s1 σ H1 _ I1 q1) fun iv s2 ⟨y,H2,I2,ry,a,v,ex,g,q2⟩=>?_)
 subst ex
 obtain rfl:u=Value.ref a:=rx
 exact ⟨Z95 I2 g,Z81 hu I2 g ry fun w' s3 I3 rw'=>⟨v,H2,I3,rw',q2⟩⟩
theorem Z449(hu:X.A.units + 1 < cLine)(hi:PE X i ty)(ho:PE X o td):PC X .NotIn i o (tDNotIn ty td):=by
 intro pins s σ H Q I h
 refine thn (hi pins s σ H _ I h) fun iv s1 ⟨y,H1,I1,ry,q1⟩=>thn (ho pins s1 σ H1 _ I1 q1) fun u s2 ⟨x,H2,I2,rx,a,ov,ex,g,q2⟩=>?_
 subst ex
 obtain rfl:u=Value.ref a:=rx
 exact Z82 hu I2 g ry fun s3 I3=>⟨.bl (!ov.isSome),H2,I3,rfl,q2⟩
theorem Z482(hu:X.A.units + 1 < cLine)(ho:PE X o td)(hi:PE X i ty)(hv:PE X value tv)(hs:swapsWith value (some (.Subscript o i pos')) pos.line X.env=pure false) :
  PS X (.Assign [.Subscript o i pos'] value pos) (sDPut td ty tv):=by
 intro pins s σ H D I h
 refine wpAny_Assign_Subscript (thn (hv pins s σ H _ I h) fun r s1 ⟨v,H1,I1,rv,q1⟩=>thn (ho pins s1 σ H1 _ I1 q1) fun u s2 ⟨x,H2,I2,rx,q2⟩=>thn (hi pins s2 σ H2 _ I2 q2) fun iv s3 ⟨y,H3,I3,ry,a,H4,ex,g,q3⟩=>?_) hs
 subst ex
 obtain rfl:u=Value.ref a:=rx
 exact Z83 hu I3 g ry rv fun s4 I4=>⟨σ,H4,I4,q3⟩
end

theorem Z97{P:Program}{w:World}{H:Hp}(h:Heap)(hb:sysModules < h.objs.size):ObjOk P w H (h.push { cls:=.type "dict",data:=.dict #[] }) h.objs.size (.dK []) :=
 ⟨Nat.zero_le _,beq_eq_false_iff_ne.mpr (Ne.symm (Jo hb)),[],.nil,Heap.DictOf.new h⟩
noncomputable def tDNewK:TE:=fun _ H Q=>∀ p,H p=none→Q (.ref p) (upd H p (.dK []))
section
variable {X:Cx}{pos:Pos}
theorem Z459:PE X (.Dict [] [] pos) tDNewK:=fun pins s σ H Q I h =>
 wpAny_Dict_empty ⟨.ref s.heap.objs.size,_,I.laid (a:=s.heap.objs.size) (o:=.dK []) (t':=s.toks) (fun _ _ q=>Heap.get?_push_of_some _ q) (Qu _) (Z97 s.heap I.big),rfl,h _ (I.hok.fresh (Qu _))⟩
end
noncomputable def tPairs:List (TE×TE)→St→Hp→(List (V×V)→Hp→Prop)→Prop
 | [],_,H,Q=>Q [] H
 | (tk,tv)::r,σ,H,Q=>tk σ H fun x H1=>tv σ H1 fun y H2=>tPairs r σ H2 fun ps H3=>Q ((x,y)::ps) H3
noncomputable abbrev VV:List (V×V)→List (Value×Value)→Prop:=Paired fun p q=>RelV p.1 q.1∧RelV p.2 q.2
noncomputable def PPs(X:Cx)(pos:Pos)(keys:List (Option Expr))(values:List Expr)(trs:List (TE×TE)):Prop :=
 ∀ (pins:List (Addr×Obj)) (s:Shared) (σ:St) (H:Hp) (Q:List (V×V)→Hp→Prop),Inv X pins σ H s→tPairs trs σ H Q →
  wpAny (model X.prog X.w) X.A (evalPairs (pairTrees keys values X.env pos)) (fun vs s'=>∃ ps H',Inv X pins σ H' s'∧VV ps vs∧Q ps H') X.xe s
theorem Z480{X:Cx}{pos:Pos}:PPs X pos [] [] []:=fun pins s σ H Q I h=>pairTrees_nil_walk ⟨[],H,I,.nil,h⟩
theorem Z479{X:Cx}{pos:Pos}{k v:Expr}{ks:List (Option Expr)}{vs:List Expr}{tk tv:TE}{trs:List (TE×TE)}(hk:PE X k tk)(hv:PE X v tv)(hr:PPs X pos ks vs trs) :
  PPs X pos (some k::ks) (v::vs) ((tk,tv)::trs):=fun pins s σ H Q I h =>
 pairTrees_cons_walk (thn (hk pins s σ H _ I h) fun u s1 ⟨x,H1,I1,rx,q1⟩=>thn (hv pins s1 σ H1 _ I1 q1) fun w2 s2 ⟨y,H2,I2,ry,q2⟩ =>
  thn (hr pins s2 σ H2 _ I2 q2) fun ws s3 ⟨ps,H3,I3,rel,q3⟩=>⟨(x,y)::ps,H3,I3,.cons ⟨rx,ry⟩ rel,q3⟩)
noncomputable def mergeK(kvs more:List (Key×V)):List (Key×V):=more.foldl (fun acc kv=>putK acc kv.1 kv.2) kvs
theorem KV.merge:∀ {more:List (Key×V)} {rs:List (Key×Value)} {kvs:List (Key×V)} {vs:List (Key×Value)},KV more rs→KV kvs vs→KV (mergeK kvs more) (merged vs rs):=by
 intro more rs kvs vs r
 unfold KV at r
 induction r generalizing kvs vs with
 | nil=>intro q;exact q
 | @cons p q ps qs h t ih =>
  intro r0
  have e:KV (putK kvs p.1 p.2) (stored vs q.1 q.2):=by
   have:=r0.put p.1 h.2
   rw [← h.1];exact this
  exact ih e
theorem Z339:∀ (more kvs:List (Key×V)),(mergeK kvs more).length≤kvs.length + more.length
 | [],kvs=>by show kvs.length≤kvs.length + 0;omega
 | p::r,kvs=>by
  have h1:=Z339 r (putK kvs p.1 p.2)
  have h2:=Z340 kvs p.1 p.2
  show (mergeK (putK kvs p.1 p.2) r).length≤_
  rw [Jq];omega
theorem Z53{P:Program}{w:World}:∀ {kvs:List (Key×V)} {ws:List (Value×Value)},VV (kvs.map fun kv=>(kV kv.1,kv.2)) ws→∃ rs,Carries (mixKind P w) ws rs∧KV kvs rs
 | [],_,r=>by rw [Wm] at r;cases r;exact ⟨[],True.intro,.nil⟩
 | p::kvs,_,r=>by
  rw [Ql] at r
  cases r with
  | @cons a b as bs h t =>
   obtain ⟨rs,c,q⟩:=Z53 (P:=P) (w:=w) t
   obtain ⟨b1,b2⟩:=b
   exact ⟨(p.1,b2)::rs,⟨kV_is h.1,rfl,c⟩,.cons ⟨rfl,h.2⟩ q⟩
noncomputable def tDisp(trs:List (TE×TE)):TE:=fun σ H Q=>∀ p,H p=none→tPairs trs σ (upd H p (.dK [])) fun ps H2=>H2 p=some (.dK [])∧∃ kvs:List (Key×V),ps=kvs.map (fun kv=>(kV kv.1,kv.2))∧kvs.length≤15∧Q (.ref p) (upd H2 p (.dK (mergeK [] kvs)))
theorem Z458{X:Cx}{pos:Pos}{keys:List (Option Expr)}{values:List Expr}{trs:List (TE×TE)}(h:PPs X pos keys values trs)(hall:keys.all (·.isSome)=true)(hl:keys.length=values.length)(h0:keys≠[])
  (h15:keys.length≤15):PE X (.Dict keys values pos) (tDisp trs):=by
 intro pins s σ H Q I q
 have hn:=I.hok.fresh (Qu s.heap.objs.size)
 have I1:=I.laid (a:=s.heap.objs.size) (o:=.dK []) (h':=s.heap.push { cls:=.type "dict",data:=.dict #[] }) (t':=s.toks) (fun _ _ q=>Heap.get?_push_of_some _ q) (Qu _) (Z97 s.heap I.big)
 refine wpAny_Dict_walk (knd:=mixKind X.prog X.w) hall hl h0 h15 (thn (h pins _ σ _ _ I1 (q _ hn)) fun ws s2 ⟨ps,H2,I2,rel,e,kvs,ep,lk,q2⟩=>?_)
 subst ep
 obtain ⟨rs,c,rk⟩:=Z53 (P:=X.prog) (w:=X.w) rel
 obtain ⟨z,hd,vs0,r0,dd⟩:=dk_of I2.hok e
 cases r0
 refine ⟨rs,c,dd,fun h' dd' hs=>⟨.ref s.heap.objs.size,_,?_,rfl,q2⟩⟩
 have hz:(mergeK [] kvs).length≤sizeLine:=by
  have h1:=Z339 kvs []
  rw [List.length_nil] at h1
  rw [sizeLine_eq];omega
 have he:∃ q,h'.get? s.heap.objs.size=some q:=let ⟨q,_,_,hq,_⟩:=dd';⟨q,hq⟩
 exact Z84 I2 (by rw [e];exact True.intro) hs he (Z98 hz hd (rk.merge .nil) dd')

structure M1(X:Cx)(o:Expr)(m:Str)(apos:Pos)(e:Expr)(cpos:Pos):Prop where
 base:attributeBase o m X.env (eval o X.env)=eval o X.env
 few:((backTo cpos (starEach [e] X.env)).all (fun x=>!x.1) && (backToKw cpos (keywordEach [] X.env)).all (fun x=>x.1.isSome)
  && decide (([e]:List Expr).length + ([]:List Keyword).length + (if ([]:List Keyword).isEmpty then 0 else 1) < 30))=true
 line:(apos.endLine == cpos.line)=true
 trees:backTo cpos (starEach [e] X.env)=[(false,eval e X.env)]
structure M2(X:Cx)(o:Expr)(m:Str)(apos:Pos)(e f:Expr)(cpos:Pos):Prop where
 base:attributeBase o m X.env (eval o X.env)=eval o X.env
 few:((backTo cpos (starEach [e,f] X.env)).all (fun x=>!x.1) && (backToKw cpos (keywordEach [] X.env)).all (fun x=>x.1.isSome)
  && decide (([e,f]:List Expr).length + ([]:List Keyword).length + (if ([]:List Keyword).isEmpty then 0 else 1) < 30))=true
 line:(apos.endLine == cpos.line)=true
 trees:backTo cpos (starEach [e,f] X.env)=[(false,eval e X.env),(false,eval f X.env)]
section
variable {X:Cx}{pins:List (Addr×Obj)}{σ:St}{H:Hp}{s:Shared}{a:Addr}{y d:V}{u r:Value}{o:Option V}{A:Around}{E:Value→Shared→Prop}
end
section
variable {X:Cx}{o e f:Expr}{apos cpos:Pos}{td ty tx:TE}
end

section
variable {X:Cx}{pins:List (Addr×Obj)}{σ:St}{H:Hp}{s:Shared}{a:Addr}{kvs:List (Key×V)}{A:Around}{E:Value→Shared→Prop}
theorem Z80{Q:Value→Shared→Prop}(I:Inv X pins σ H s)(e:Rd H a (.dK kvs))(h:∀ p s',H p=none→Inv X pins σ (upd H p (.dK kvs)) s'→Q (.ref p) s'):wpAny (model X.prog X.w) A (call (.type "dict") [.ref a]) Q E s:=by
 obtain ⟨z,hd,vs,rel,dd⟩:=dk_rd I.hok e
 refine kt_call_dict hd dd (by rw [← rel.length];exact z) fun h' dd' hs=>?_
 refine h _ _ (I.hok.fresh (Qu _)) (I.laid (a:=s.heap.objs.size) (o:=.dK kvs) (t':=s.toks) (fun b q hq=>?_) (Qu _) (Z98 z (beq_eq_false_iff_ne.mpr (Ne.symm (Jo I.big))) rel dd'))
 exact (hs.2 b (Jo (Heap.lt_size hq))).trans (Heap.get?_push_of_some _ hq)
end
section
variable {X:Cx}{pins:List (Addr×Obj)}{σ:St}{H:Hp}{s:Shared}{a:Addr}{y:V}{u:Value}{A:Around}{E:Value→Shared→Prop}
end
end L2
namespace L2
open PySem PySem.Spec PyProof.Rows
section
variable {X:Cx}
theorem Z48:CallR X (.builtin "len") (fun xs H Q=>∃ a kvs,xs=[V.ref a]∧H a=some (.dK kvs)∧Q (.int kvs.length) H):=by
 intro pins s σ H xs us Q I r h
 obtain ⟨a,kvs,rfl,ha,q⟩:=h
 obtain ⟨u,rfl,ru⟩:=vals1 r
 cases ru
 exact d_len I (.inl ha) fun t s' I'=>⟨.int kvs.length,H,I',⟨t,rfl⟩,q⟩
end

section
variable {κ:Type}[DecidableEq κ]
theorem Z674{kvs:List (κ×V)}{k:κ}{v:V}(h:valV kvs k=some v):k∈kvs.map (·.1):=by
 have q:(kvs.any fun kv=>decide (kv.1=k))=true:=by
  rw [Z672,h]
  all_goals rfl
 obtain ⟨p,hp,e⟩:=List.any_eq_true.mp q
 exact Qk.mpr ⟨p,hp,of_decide_eq_true e⟩
theorem Z393:∀ {l:List κ} {k:κ},l.Nodup→¬ k∈l→(l++[k]).Nodup
 | [],k,_,_=>by simp
 | a::r,k,h,hk=>by
  obtain ⟨h1,h2⟩:=Ji.mp h
  show (a::(r++[k])).Nodup
  refine Ji.mpr ⟨fun m=>?_,Z393 h2 fun m=>hk (Jb.mpr (Or.inr m))⟩
  rcases Qe.mp m with q | q
  ·exact h1 q
  ·exact hk (Jb.mpr (Or.inl (Qy.mp q).symm))
end
end L2

namespace L2
open PySem PySem.Spec PyProof.Rows
theorem Z64{prog:Program}{w:World}{A:Around}{R:Result→Shared→Prop}{s:Shared}{elt target iter:Expr}{ifs:List Expr}{scope:Scope}{pos:Pos}{it acc:Value}{env:Env}(I:Nat→Shared→Prop)
  (turn:∀ n s,I n s→wpAny (model prog w) A (pyNext it) (fun r s₁=>match r with
   | none=>R (.ok .next) s₁
   | some v=>wpAny (model prog w) A (letOwnedTupleGo target it v) (fun _ s₀=>wpAny (model prog w) A (assign target env v) (fun _ s₂ =>
     wpAny (model prog w) A (forIn ifs true fun c r=>if r=true then do let ok ← isTrue c env (eval c env);pure (ForInStep.yield ok) else pure (ForInStep.yield r)) (fun ok s₃ =>
      if ok=true then wpAny (model prog w) A (eval elt env) (fun x s₄ =>
       wpAny (model prog w) A (call (.builtin "list.append") [acc,x]) (fun _ s₅=>∃ m,m < n∧I m s₅) (fun _ _=>False) s₄) (fun _ _=>False) s₃
      else ∃ m,m < n∧I m s₃) (fun _ _=>False) s₂) (fun _ _=>False) s₀) (fun _ _=>False) s₁) (fun _ _=>False) s)
  (n:Nat) (h:I n s) :
  codeAny (model prog w) A (.compLoop (.ListComp elt [⟨target,iter,ifs,0⟩] scope pos) 0 it acc env) R s:=by
 refine codeAny_loop rfl I (fun n s hI=>?_) n h
 show wpAny _ A ((compTurn (.ListComp elt [⟨target,iter,ifs,0⟩] scope pos) 0 it acc env).onRaise (fun x=>do noteFrame x env;theTreesLotGoes x)) _ _ s
 refine wpAny_noted ?_
 rw [compTurn_list]
 have no:∀ (M:Model) (e:Value) (s':Shared),False→notedBy M A env (fun e s'=>R (.error e) s') e s':=fun _ _ _ z=>z.elim
 refine wpAny_bind (wpAny_standAt (wpAny_bind (wpAny_mono (turn n s hI) (fun r s₁ h₁=>?_) (fun _ _ z=>z.elim))))
 cases r with
 | none=>exact wpAny_pure h₁
 | some v =>
  refine wpAny_bind (wpAny_mono h₁ (fun _ s₀ h₀=>?_) (fun _ _ z=>z.elim))
  refine wpAny_bind (wpAny_mono h₀ (fun _ s₂ h₂=>wpAny_bind (wpAny_mono h₂ (fun ok s₃ h₃=>?_) (fun _ _ z=>z.elim))) (fun _ _ z=>z.elim))
  cases ok with
  | false=>exact wpAny_pure ⟨rfl,h₃⟩
  | true =>
   exact wpAny_bind (wpAny_bind (wpAny_mono h₃ (fun x s₄ h₄=>wpAny_bind (wpAny_mono h₄ (fun _ s₅ h₅=>wpAny_pure (wpAny_pure ⟨rfl,h₅⟩)) (fun _ _ z=>z.elim))) (fun _ _ z=>z.elim)))
theorem Z57{env:Env}:∀ {names:List (Str×NameKind)} (cs0:List (Str×Addr)),(∀ p∈names,p.2=.free→∃ c,env.cells.lookup p.1=some c) →
  (∀ n c,cs0.lookup n=some c→env.cells.lookup n=some c) →
  ∃ cl:List (Str×Addr),(forIn names cs0 fun (x:Str×NameKind) (cs:List (Str×Addr))=>(if (x.2 == NameKind.free)=true then (do let a ← cellOf env x.1;pure (ForInStep.yield ((x.1,a)::cs))) else pure (ForInStep.yield cs):Sem (ForInStep (List (Str×Addr)))))=pure cl ∧
   (∀ n c,cl.lookup n=some c→env.cells.lookup n=some c)∧(∀ n,(n∈cs0.map (·.1)∨(n,NameKind.free)∈names)→∃ c,cl.lookup n=some c)
 | [],cs0,_,h2=>⟨cs0,rfl,h2,fun n hn=>by
   rcases hn with hn | hn
   ·have:(cs0.lookup n).isSome=true:=by
     clear h2
     induction cs0 with
     | nil=>simp at hn
     | cons p r ih =>
      obtain ⟨a,b⟩:=p
      rw [Wj]
      cases e:n == a with
      | true=>rfl
      | false =>
       have:n≠a:=by intro z;subst z;simp at e
       refine ih ?_
       simpa [this] using hn
    exact Option.isSome_iff_exists.mp this
   ·cases hn⟩
 | (n,k)::r,cs0,h1,h2=>by
  rw [List.forIn_cons]
  by_cases hk:k=.free
  ·subst hk
   obtain ⟨c,hc⟩:=h1 (n,.free) Qs rfl
   have e1:cellOf env n=pure c:=by unfold cellOf;rw [hc]
   have h2':∀ m d,((n,c)::cs0).lookup m=some d→env.cells.lookup m=some d:=fun m d e=>by
    rw [Wj] at e
    cases q:m == n with
    | true =>
     rw [q] at e
     have:m=n:=by simpa using q
     subst this
     rw [hc];exact e
    | false=>rw [q] at e;exact h2 m d e
   obtain ⟨cl,e,q1,q2⟩:=Z57 (names:=r) ((n,c)::cs0) (fun p hp=>h1 p (Qp _ hp)) h2'
   refine ⟨cl,?_,q1,fun m hm=>q2 m ?_⟩
   ·rw [if_pos (by rfl),e1]
    exact e
   ·rcases hm with hm | hm
    ·exact .inl (Qp _ hm)
    ·rcases Jb.mp hm with z | z
     ·cases z;exact .inl Qs
     ·exact .inr z
  ·obtain ⟨cl,e,q1,q2⟩:=Z57 (names:=r) cs0 (fun p hp=>h1 p (Qp _ hp)) h2
   refine ⟨cl,?_,q1,fun m hm=>q2 m ?_⟩
   ·rw [if_neg (by simpa using hk)]
    exact e
   ·rcases hm with hm | hm
    ·exact .inl hm
    ·rcases Jb.mp hm with z | z
     ·cases z;exact absurd rfl hk
     ·exact .inr z
theorem Z56{env:Env}{scope:Scope}(h:∀ p∈scope.names,p.2=.free→∃ c,env.cells.lookup p.1=some c) :
  ∃ cl:List (Str×Addr),closureFor scope env=pure cl∧(∀ n c,cl.lookup n=some c→env.cells.lookup n=some c)∧∀ n,(n,NameKind.free)∈scope.names→∃ c,cl.lookup n=some c:=by
 obtain ⟨cl,e,q1,q2⟩:=Z57 (env:=env) (names:=scope.names) [] h (fun n c e=>by simp at e)
 refine ⟨cl,?_,q1,fun n hn=>q2 n (.inr hn)⟩
 unfold closureFor
 simp only []
 refine Eq.trans ?_ (congrArg (fun m=>m >>= fun r=>pure r) e)
 rfl
noncomputable def cxC(X:Cx)(N:List Str)(scope:Scope)(cl:List (Str×Addr))(C:Addr)(s:Shared)(H:Hp)(fp:List Addr):Cx where
 prog:=X.prog
 w:=X.w
 K:=X.K
 mg:=X.mg
 base:=X.base
 A:=X.A
 N:=N
 s₀:=s
 H₀:=H
 env:=compEnvC scope cl C X.env
 outer:=X.stack
 stack:=X.stack
 ex:=fp
 fn:=fun _=>false
 calm:=X.calm
 pn:=X.pn
 xe:=fun _ _=>False
structure CompSc(X:Cx)(t:Nat)(N:List Str)(scope:Scope):Prop where
 kind:scope.kind=.function
 nocell:∀ y∈scope.names,y.2≠.cell
 names:∀ y∈scope.names,y.2=.local→scope.names.lookup y.1=some .local
 free:∀ y∈scope.names,y.2=.free→X.env.scope.names.lookup y.1=some .cell∨X.env.scope.names.lookup y.1=some .free
 len:N.length=X.N.length + t
 rest:∀ p∈(N.drop t).zip X.N,p.1=p.2∨scope.names.lookup p.1=none
 own:∀ y∈X.N,scope.names.lookup y≠some .local∨y∉N.drop t
theorem Z341{scope:Scope}{env:Env}{x:Str}{k:NameKind}:(relabel scope env).names.lookup x=some k→∃ k0,scope.names.lookup x=some k0∧(k=k0∨(k0=.free∧k=.cell)):=by
 show (scope.names.map _).lookup x=some k→_
 induction scope.names with
 | nil=>intro h;simp at h
 | cons p r ih =>
  obtain ⟨n,kk⟩:=p
  intro h
  simp only [Ql] at h
  by_cases hx:x=n
  ·subst hx
   by_cases hc:(kk == NameKind.free && env.scope.kind == .function && env.kindOf x == some .cell)=true
   ·rw [if_pos hc] at h
    rw [Wj,beq_self_eq_true] at h
    refine ⟨kk,by rw [Wj,beq_self_eq_true],.inr ⟨?_,(Option.some.inj h).symm⟩⟩
    simp only [Jt,beq_iff_eq] at hc
    exact hc.1.1
   ·rw [if_neg hc] at h
    rw [Wj,beq_self_eq_true] at h
    exact ⟨kk,by rw [Wj,beq_self_eq_true],.inl (Option.some.inj h).symm⟩
  ·have hb:(x == n)=false:=by simpa using hx
   have h':(r.map fun (x:Str×NameKind)=>match x with | (n,k)=>if (k == NameKind.free && env.scope.kind == .function && env.kindOf n == some .cell)=true then (n,NameKind.cell) else (n,k)).lookup x=some k:=by
    by_cases hc:(kk == NameKind.free && env.scope.kind == .function && env.kindOf n == some .cell)=true
    ·rw [if_pos hc,Wj,hb] at h;exact h
    ·rw [if_neg hc,Wj,hb] at h;exact h
   obtain ⟨k0,q1,q2⟩:=ih h'
   exact ⟨k0,by rw [Wj,hb];exact q1,q2⟩
section
variable {X:Cx}{pins:List (Addr×Obj)}{σ:St}{H:Hp}{s:Shared}
theorem Z69{t:Nat}{N:List Str}{scope:Scope}{cl:List (Str×Addr)}{C:Addr}{fp:List Addr}(I:Inv X pins σ H s)(S:CompSc X t N scope)(hC:s.heap.objs.size≤C)(hfp:∀ b∈fp,FpOk X pins H b∧b < s.heap.objs.size)
  (q1:∀ n c,cl.lookup n=some c→X.env.cells.lookup n=some c) (q2:∀ n,(n,NameKind.free)∈scope.names→∃ c,cl.lookup n=some c):(cxC X N scope cl C s H fp).Ok where
 mod:=I.ok.mod
 kind:=S.kind
 glob:=I.ok.glob
 blt:=I.ok.blt
 above:=hC
 inj:=fun x y c h1 h2=>I.ok.inj x y c (q1 x c h1) (q1 y c h2)
 has:=fun x hx=>by
  have hx:(relabel scope X.env).names.lookup x=some .cell∨(relabel scope X.env).names.lookup x=some .free:=hx
  rcases hx with hx | hx
  ·obtain ⟨k0,e,z⟩:=Z341 hx
   rcases z with z | ⟨z,_⟩
   ·subst z;exact absurd rfl (S.nocell _ (PySem.mem_of_lookup e))
   ·subst z;exact q2 x (PySem.mem_of_lookup e)
  ·obtain ⟨k0,e,z⟩:=Z341 hx
   rcases z with z | ⟨z,z'⟩
   ·subst z;exact q2 x (PySem.mem_of_lookup e)
   ·cases z'
 cab:=fun x c h _=>by cases h
 hd:=I.ok.hd
 frames:=I.ok.frames
 stk:=.inl rfl
 exf:=fun b hb=>⟨Jo (Jc (hfp b hb).2 hC),fun x c e=>(hfp b hb).1.2.2.2.2.1 x c (q1 x c e)⟩
 bs:=I.bs
 bsz:=Wt I.ok.bsz I.sz
 noex:=fun b o e hb=>by
  obtain ⟨_,_,_,h,_⟩:=(hfp b hb).1
  rcases h with h | h
  ·exact I.ok.noex b o e h
  ·exact absurd (Jc (Heap.lt_size e) (Wt I.ok.bsz h)) (Jw _)
 exfs:=fun b hb z=>by
  obtain ⟨_,h1,h2,_⟩:=(hfp b hb).1
  rcases Jb.mp (I.stkSub b z) with e | e
  ·exact h1 e
  ·exact h2 e
 funs:=I.stack
 frf:=I.stkFree
theorem Z74{t:Nat}{N:List Str}{scope:Scope}{cl:List (Str×Addr)}{C:Addr}{fp:List Addr}{h1:Heap}{tk:Nat}{D:Addr}(I:Inv X pins σ H s)(S:CompSc X t N scope)(hC:s.heap.objs.size≤C)(hD:s.heap.objs.size≤D)(hDC:D≠C)(hfp:∀ b∈fp,FpOk X pins H b∧b < s.heap.objs.size)
  (q1:∀ n c,cl.lookup n=some c→X.env.cells.lookup n=some c) (q2:∀ n,(n,NameKind.free)∈scope.names→∃ c,cl.lookup n=some c)
  (hn:h1.Ns C fun _=>none) (hk:∀ b o,s.heap.get? b=some o→h1.get? b=some o) (hd:h1.get? D=some { cls:=.type "list",data:=.seq ([]:List Value).toArray }) :
  Inv (cxC X N scope cl C s H fp) pins (List.replicate t none++σ) (upd H D (.lst [])) { s with heap:=h1,toks:=tk }:=by
 have lt:∀ b o,s.heap.get? b=some o→b < s.heap.objs.size:=fun b o e=>Heap.lt_size e
 have fC:H C=none:=I.hok.fresh hC
 have fD:H D=none:=I.hok.fresh hD
 refine ⟨Z69 I S hC hfp q1 q2,rfl,I.bare,Un.laid hk hD fD,⟨_,hn,fun i x v e1 e2 e3=>?_⟩,fun x c e=>?_,?_,fun x c e=>?_,fun p hp=>?_,I.hok.laid hk hD ⟨by simp,[],0,.nil,hd⟩,?_⟩
 ·
  have hi:t≤i:=by
   by_cases z:t≤i
   ·exact z
   ·rw [Qo (by simpa using z),Wr] at e2
    split at e2 <;> cases e2
  obtain ⟨j,rfl⟩:∃ j,i=t + j:=⟨i - t,by omega⟩
  rw [Jd (by simp)] at e2
  simp only [Jr,Nat.add_sub_cancel_left] at e2
  have e1:N[t + j]?=some x:=e1
  have hN:(N.drop t)[j]?=some x:=by rw [List.getElem?_drop];exact e1
  have hj:j < X.N.length:=by rw [← I.len];exact (Qc.mp e2).1
  obtain ⟨y,hy⟩:∃ y,X.N[j]?=some y:=⟨_,Qh hj⟩
  have hm:(x,y)∈(N.drop t).zip X.N:=by
   have:((N.drop t).zip X.N)[j]?=some (x,y):=by rw [List.getElem?_zip_eq_some];exact ⟨hN,hy⟩
   exact Qg this
  have vis:∃ k0,scope.names.lookup x=some k0:=by
   rcases e3 with e3 | e3 | e3
   ·obtain ⟨k0,e,_⟩:=Z341 (scope:=scope) (env:=X.env) e3;exact ⟨k0,e⟩
   ·obtain ⟨k0,e,_⟩:=Z341 (scope:=scope) (env:=X.env) e3;exact ⟨k0,e⟩
   ·obtain ⟨k0,e,_⟩:=Z341 (scope:=scope) (env:=X.env) e3;exact ⟨k0,e⟩
  obtain ⟨k0,hk0⟩:=vis
  have exy:x=y:=by
   rcases S.rest _ hm with z | z
   ·exact z
   ·rw [hk0] at z;cases z
  subst exy
  have hfree:k0=.free:=by
   rcases S.own x (Qg hy) with z | z
   ·
    rcases e3 with e3 | e3 | e3
    ·obtain ⟨k1,e,w⟩:=Z341 (scope:=scope) (env:=X.env) e3
     rw [hk0] at e;cases e
     rcases w with w | ⟨_,w⟩
     ·subst w;exact absurd hk0 z
     ·cases w
    ·obtain ⟨k1,e,w⟩:=Z341 (scope:=scope) (env:=X.env) e3
     rw [hk0] at e;cases e
     rcases w with w | ⟨w,_⟩
     ·subst w;exact absurd rfl (S.nocell _ (PySem.mem_of_lookup hk0))
     ·exact w
    ·obtain ⟨k1,e,w⟩:=Z341 (scope:=scope) (env:=X.env) e3
     rw [hk0] at e;cases e
     rcases w with w | ⟨_,w⟩
     ·exact w.symm
     ·cases w
   ·exact absurd (Qg hN) z
  subst hfree
  obtain ⟨c,hc⟩:=q2 x (PySem.mem_of_lookup hk0)
  have hcX:=q1 x c hc
  obtain ⟨m,_,hl⟩:=I.loc
  have vX:Vis X.env.scope x:=by
   rcases S.free _ (PySem.mem_of_lookup hk0) rfl with z | z
   ·exact .inr (.inl z)
   ·exact .inr (.inr z)
  obtain ⟨u,r,l⟩:=hl j x v hy e2 vX
  refine ⟨u,r,.inr ⟨?_,c,hc,?_⟩⟩
  ·rcases e3 with e3 | e3 | e3
   ·obtain ⟨k1,e,w⟩:=Z341 (scope:=scope) (env:=X.env) e3
    rw [hk0] at e;cases e
    rcases w with w | ⟨_,w⟩ <;> cases w
   ·exact .inl e3
   ·exact .inr e3
  ·rcases l with ⟨k,_⟩ | ⟨_,c',hc',z⟩
   ·rcases S.free _ (PySem.mem_of_lookup hk0) rfl with z | z
    ·have k':X.env.scope.names.lookup x=some .local:=k
     rw [show X.env.scope.names.lookup x=some .cell from z] at k';cases k'
    ·have k':X.env.scope.names.lookup x=some .local:=k
     rw [show X.env.scope.names.lookup x=some .free from z] at k';cases k'
   ·rw [hcX] at hc';cases hc'
    obtain ⟨o,ho,hd⟩:=z
    exact ⟨o,hk _ _ ho,hd⟩
 ·obtain ⟨v,o,ho,hd⟩:=I.cell x c (q1 x c e)
  exact ⟨v,o,hk _ _ ho,hd⟩
 ·show upd H D (.lst []) C=none
  rw [Z646 (Ne.symm hDC)];exact fC
 ·obtain ⟨v,o,ho,_⟩:=I.cell x c (q1 x c e)
  rw [Z646 (Jo (Jc (lt _ _ ho) hD))]
  exact I.freeC x c (q1 x c e)
 ·obtain ⟨e,n,ne,nf,d⟩:=I.pin p hp
  refine ⟨hk _ _ e,?_,Jo (Jc (lt _ _ e) hC),fun z=>?_,d⟩
  ·rw [Z646 (Jo (Jc (lt _ _ e) hD))];exact n
  ·rcases Jb.mp (I.stkSub p.1 z) with w | w
   ·exact ne w
   ·exact nf w
 ·show (List.replicate t none++σ).length=N.length
  rw [Qx,Jr,S.len,I.len];omega
theorem Z66{t:Nat}{N:List Str}{scope:Scope}{cl:List (Str×Addr)}{C:Addr}{fp:List Addr}{s':Shared}{H':Hp}{σ':St}(I:Inv X pins σ H s)(hC:s.heap.objs.size≤C)(hfp:∀ b∈fp,FpOk X pins H b∧b < s.heap.objs.size)
  (J:Inv (cxC X N scope cl C s H fp) pins σ' H' s'):Inv X pins σ H' s' :=
 I.call' (ch:=fp) J.os J.base J.hok J.bare fun b hb=>by
  obtain ⟨_,h1,h2,h3,h4,h5⟩:=(hfp b hb).1
  exact ⟨h3,h1,h4,h5⟩
theorem Z67{C:Addr}{h':Heap}{s0 s':Shared}{H0:Hp}{σ0:St}(I0:Inv X pins σ0 H0 s0)(hC:s0.heap.objs.size≤C)(J:Inv X pins σ H s')(hn:H C=none)(hs:Heap.SameBut C s'.heap h'):Inv X pins σ H { s' with heap:=h' }:=by
 obtain ⟨f0,f1,f2,f3,f4,f5⟩:=I0.fpOk hC (I0.hok.fresh hC)
 exact J.turned (t':=s'.toks) (fun b o hb e=>(hs.2 b hb).trans e) hn f1 f3 f4 f5
end
section
variable {X:Cx}
noncomputable def PF(X:Cx)(ifs:List Expr)(t:TT):Prop :=
 ∀ (pins:List (Addr×Obj)) (s:Shared) (σ:St) (H:Hp) (Q:Bool→Hp→Prop),Inv X pins σ H s→t σ H Q →
  wpAny (model X.prog X.w) X.A (forIn ifs true fun c r=>if r=true then do let ok ← isTrue c X.env (eval c X.env);pure (ForInStep.yield ok) else pure (ForInStep.yield r)) (TP X pins σ Q) X.xe s
noncomputable def tYes:TT:=fun _ H Q=>Q true H
theorem Z468:PF X [] tYes:=fun _ _ _ H _ I h=>wpAny_tests_nil ⟨H,I,h⟩
theorem Z469{c:Expr}{t:TT}(h:PT X c t):PF X [c] t:=fun pins s σ H Q I q=>wpAny_tests_one (h pins s σ H Q I q)
noncomputable def compW(J:It)(t:Nat)(g:TG)(tt:TT)(te:TE)(σ:St)(H1:Hp)(Q:VK):Prop:=∀ D,H1 D=none→∃ W:Nat→Nat→List V→St→Hp→Prop,(∃ m,W 0 m [] (List.replicate t none++σ) (upd H1 D (.lst [])))∧∀ i m ys τ H,W i m ys τ H →
 (J.stop i H∧Q (.ref D) H)∨(J.go i H∧∃ N:List V→St→Hp→Prop,(∀ zs τ' H',N zs τ' H'→∃ m',m' < m∧W (i + 1) m' zs τ' H')∧∀ x H',J.yld i H x H'→g x τ H' fun τ2 H2=>tt τ2 H2 fun b H3 =>
  if b=true then te τ2 H3 fun y H4=>H4 D=some (.lst ys)∧ys.length < sizeLine∧N (ys++[y]) τ2 (upd H4 D (.lst (ys++[y]))) else N ys τ2 H3)
noncomputable def tComp(t:Nat)(wi:TI)(g:TG)(tt:TT)(te:TE):TE:=fun σ H Q=>wi σ H fun J H1=>compW J t g tt te σ H1 Q
theorem Z65{t:Nat}{N:List Str}{scope:Scope}{tg iter elt:Expr}{ifs:List Expr}{cl:List (Str×Addr)}{pos:Pos}{g:TG}{tt:TT}{te:TE}{pins:List (Addr×Obj)}{σ:St}{H1:Hp}{s2:Shared}{E:Value→Shared→Prop}
  {it:Addr} {fp:List Addr} {tn:Nat→Heap→Prop} {J:It} {Q:VK} {RR:Value→Addr→Result→Shared→Prop}
  (hc:X.calm=true) (S:CompSc X t N scope) (q1:∀ n c,cl.lookup n=some c→X.env.cells.lookup n=some c) (q2:∀ n,(n,NameKind.free)∈scope.names→∃ c,cl.lookup n=some c)
  (hg:∀ C s H fp,PG (cxC X N scope cl C s H fp) tg g) (hf:∀ C s H fp,PF (cxC X N scope cl C s H fp) ifs tt) (he:∀ C s H fp,PE (cxC X N scope cl C s H fp) elt te)
  (I:Inv X pins σ H1 s2) (T:Turn X.prog X.w X.K tg J fp it tn) (st:tn 0 s2.heap) (f2:∀ b∈fp,FpOk X pins H1 b)
  (h:∀ D,H1 D=none→∃ W:Nat→Nat→List V→St→Hp→Prop,(∃ m,W 0 m [] (List.replicate t none++σ) (upd H1 D (.lst [])))∧∀ i m ys τ H,W i m ys τ H →
   (J.stop i H∧Q (.ref D) H)∨(J.go i H∧∃ N:List V→St→Hp→Prop,(∀ zs τ' H',N zs τ' H'→∃ m',m' < m∧W (i + 1) m' zs τ' H')∧∀ x H',J.yld i H x H'→g x τ H' fun τ2 H2=>tt τ2 H2 fun b H3 =>
    if b=true then te τ2 H3 fun y H4=>H4 D=some (.lst ys)∧ys.length < sizeLine∧N (ys++[y]) τ2 (upd H4 D (.lst (ys++[y]))) else N ys τ2 H3))
  (hR:∀ D C s' H',s2.heap.objs.size≤C→D≠C→Inv X pins σ H' s'→H' C=none→(∃ m,s'.heap.Ns C m)→Q (.ref D) H'→RR (.ref D) C (.ok .next) s') :
  wpAny (model X.prog X.w) X.A (newList []) (fun acc s₃=>wpAny (model X.prog X.w) X.A (newFunctionEnv scope X.env.globals cl [] X.env.qual none .none (some X.env)) (fun cenv s₄ =>
   codeAny (model X.prog X.w) X.A (.compStart (.ListComp elt [⟨tg,iter,ifs,0⟩] scope pos) 0 (.ref it) acc { cenv with scope:=relabel scope X.env }) (RR acc cenv.locals) s₄) E s₃) E s2:=by
 refine wpAny_newObj_type (wpAny_newFunctionEnv S.nocell (by intro y hy;simp at hy) (fun h₁ hns₁ hsb₁=>?_) S.kind)
 dsimp only at hns₁ hsb₁ ⊢
 generalize hH2:s2.heap.push { cls:=.type "list",dict:=none,data:=.seq ([]:List Value).toArray }=H2 at hns₁ hsb₁ ⊢
 have hCs:H2.objs.size=s2.heap.objs.size + 1:=by rw [← hH2,Heap.size_push]
 have hDC:s2.heap.objs.size≠H2.objs.size:=by rw [hCs];exact Jo (Nat.lt_succ_self _)
 have hCle:s2.heap.objs.size≤H2.objs.size:=by rw [hCs];exact Nat.le_succ _
 have old:∀ b o,s2.heap.get? b=some o→h₁.get? b=some o:=fun b o e =>
  hsb₁.extBut b o (by rw [hCs];exact Jo (Wn (Heap.lt_size e))) (Heap.get?_push_of_some _ (hH2 ▸ Heap.get?_push_of_some _ e))
 have hacc:h₁.get? s2.heap.objs.size=some { cls:=.type "list",data:=.seq ([]:List Value).toArray }:=hsb₁.extBut _ _ hDC (Heap.get?_push_of_some _ (hH2 ▸ Heap.get?_push_size _ rfl))
 have hfp:∀ b∈fp,FpOk X pins H1 b∧b < s2.heap.objs.size:=fun b hb=>⟨f2 b hb,by obtain ⟨o,e,_⟩:=T.obj _ _ st b hb;exact Heap.lt_size e⟩
 have hns:h₁.Ns H2.objs.size fun _=>none:=hns₁
 have I4:=Z74 (tk:=s2.toks + ([]:List (Str×Value)).length) I S hCle (Qu _) hDC hfp q1 q2 hns old hacc
 have st1:tn 0 h₁:=T.keep _ _ _ st fun b _ o e=>old b o e
 obtain ⟨W,⟨m0,w0⟩,turn⟩:=h s2.heap.objs.size (I.hok.fresh (Qu _))
 generalize hY:cxC X N scope cl H2.objs.size s2 H1 fp=Y at I4
 have yfp:∀ {H':Hp},(∀ b∈fp,H' b=none)→∀ b∈fp,FpOk Y pins H' b:=fun hn b hb=>by
  obtain ⟨⟨_,g1,g2,g3,g4,g5⟩,gl⟩:=hfp b hb
  subst hY
  refine ⟨hn b hb,Jo (Jc gl hCle),fun z=>?_,.inl hb,fun x c e=>g4 x c (q1 x c e),g5⟩
  rcases Jb.mp (I.stkSub b z) with w | w
  ·exact g1 w
  ·exact g2 w
 have eP:Y.prog=X.prog:=by subst hY;rfl
 have ew:Y.w=X.w:=by subst hY;rfl
 have eK:Y.K=X.K:=by subst hY;rfl
 have eA:Y.A=X.A:=by subst hY;rfl
 have ecalm:Y.calm=true:=by subst hY;exact hc
 have loop:codeAny (model X.prog X.w) X.A (.compLoop (.ListComp elt [⟨tg,iter,ifs,0⟩] scope pos) 0 (.ref it) (.ref s2.heap.objs.size) (compEnvC scope cl H2.objs.size X.env))
    (RR (.ref s2.heap.objs.size) H2.objs.size) { s2 with heap:=h₁,toks:=s2.toks + ([]:List (Str×Value)).length }:=by
  refine Z64 (fun n s'=>∃ i ys τ H',Inv Y pins τ H' s'∧tn i s'.heap∧(∀ b∈fp,H' b=none)∧W i n ys τ H') ?_ m0 ⟨0,[],_,_,I4,st1,fun b hb=>?_,w0⟩
  ·rintro n s3 ⟨i,ys,τ,H3,I3,st3,fr3,w3⟩
   rcases turn i n ys τ H3 w3 with ⟨stop,qn⟩ | ⟨go,NN,hNN,step⟩
   ·have d:=T.done Y eP ew eK ecalm i pins s3 τ H3 (fun _ _=>False) I3 (yfp fr3) st3 stop
    rw [eA] at d
    refine thn d fun r s4 ⟨hr,I5⟩=>?_
    subst hr
    subst hY
    have J5:=Z66 (t:=t) I hCle hfp I5
    obtain ⟨m,hn,_⟩:=I5.loc
    exact hR _ _ s4 H3 hCle hDC J5 I5.free ⟨m,hn⟩ qn
   ·have d:=T.item Y eP ew eK ecalm i pins s3 τ H3 (fun _ _=>False) I3 (yfp fr3) st3 go
    rw [eA] at d
    refine thn d fun r s4 ⟨u,hr,h4⟩=>?_
    subst hr
    refine thn h4 fun _ s5 ⟨x,H5,I5,r5,y5,st5,fr5⟩=>?_
    have I5':=I5.pinned (yfp fr5) (T.obj _ _ st5)
    subst hY
    refine thn (hg _ _ _ _ _ s5 τ H5 x u _ I5' r5 (step x H5 y5)) fun _ s6 ⟨τ6,H6,I6,q6⟩=>?_
    refine thn (hf _ _ _ _ _ s6 τ6 H6 _ I6 q6) fun b s7 ⟨H7,I7,q7⟩=>?_
    have again:∀ {zs:List V} {σ7:St} {H7:Hp} {s7:Shared},Inv (cxC X N scope cl H2.objs.size s2 H1 fp) (pins++pinsAt fp s5.heap) σ7 H7 s7→(∃ m',m' < n∧W (i + 1) m' zs σ7 H7) →
      ∃ m,m < n∧∃ i ys τ H',Inv (cxC X N scope cl H2.objs.size s2 H1 fp) pins τ H' s7∧tn i s7.heap∧(∀ b∈fp,H' b=none)∧W i m ys τ H':=fun {zs σ7 H7 s7} I7 ⟨m',hm,w7⟩=>by
     refine ⟨m',hm,i + 1,zs,σ7,H7,I7.unpinned,T.keep _ _ _ st5 fun b hb o e=>(I7.pin (b,o) (Qf _ (Qf _ (Z361 hb e)))).1,fun b hb=>?_,w7⟩
     obtain ⟨o,e,d⟩:=T.obj _ _ st5 b hb
     exact (I7.pin (b,o) (Qf _ (Qf _ (Z361 hb e)))).2.1
    cases b with
    | false=>exact again I7 (hNN _ _ _ q7)
    | true =>
     have q7':=q7
     rw [if_pos rfl] at q7' ⊢
     refine thn (he _ _ _ _ _ s7 τ6 H7 _ I7 q7') fun v s8 ⟨y,H8,I8,r8,hl,hz,q8⟩=>?_
     refine thn (Z372 (X:=cxC X N scope cl H2.objs.size s2 H1 fp) _ s8 τ6 H8 (.ref s2.heap.objs.size) [y] (.ref s2.heap.objs.size) [v] (fun _ H9=>NN (ys++[y]) τ6 H9) I8 rfl (.cons r8 .nil) ⟨_,ys,y,rfl,rfl,hl,hz,q8⟩) fun _ s9 ⟨_,H9,I9,_,q9⟩=>?_
     exact again I9 (hNN _ _ _ q9)
  ·have z:=(hfp b hb).2
   rw [Z646 (Jo z)]
   exact (f2 b hb).1
 exact codeAny_compStart_list loop (T.self _ 0 _ _ _ st1 loop)
theorem Z456{t:Nat}{N:List Str}{scope:Scope}{tg iter elt:Expr}{ifs:List Expr}{pos:Pos}{wi:TI}{g:TG}{tt:TT}{te:TE}(hc:X.calm=true)(hi:PI X tg iter wi)(S:CompSc X t N scope)
  (hg:∀ cl C s H fp,PG (cxC X N scope cl C s H fp) tg g) (hf:∀ cl C s H fp,PF (cxC X N scope cl C s H fp) ifs tt) (he:∀ cl C s H fp,PE (cxC X N scope cl C s H fp) elt te)
  (hs:∀ x,foldedSetIterable iter X.env x=pure x:=by intro _;rfl):PE X (.ListComp elt [⟨tg,iter,ifs,0⟩] scope pos) (tComp t wi g tt te):=by
 intro pins s σ H Q I h
 obtain ⟨cl,e,q1,q2⟩:=Z56 (env:=X.env) (scope:=scope) fun p hp hk=>I.ok.has p.1 (S.free p hp hk)
 rw [eval_ListComp]
 refine wpAny_comprehension_free (use:=none) rfl hs e S.kind S.names (thn (hi pins s σ H _ I h) fun v s1 h1=>thn h1 fun itv s2 h2=>?_)
 obtain ⟨it,fp,tn,J,H2,e2,I2,T,st2,f2,hW⟩:=h2
 subst e2
 refine Z65 (Q:=Q) (RR:=fun acc C=>compPost (model X.prog X.w) X.A X.xe none (EP X pins σ Q) acc C) hc S q1 q2 (hg cl) (hf cl) (he cl) I2 T st2 f2 hW ?_
 intro D C s' H' hC hDC J1 hn hm q
 obtain ⟨m,hm⟩:=hm
 exact ⟨m,hm,fun h' hs'=>⟨.ref D,H',Z67 I2 hC J1 hn hs',rfl,q⟩⟩
theorem Z487{t i:Nat}{y:Str}{py spos:Pos}{N:List Str}{scope:Scope}{tg iter elt:Expr}{ifs:List Expr}{pos:Pos}{wi:TI}{g:TG}{tt:TT}{te:TE}(hc:X.calm=true)(hi:PI X tg iter wi)(S:CompSc X t N scope)
  (hg:∀ cl C s H fp,PG (cxC X N scope cl C s H fp) tg g) (hf:∀ cl C s H fp,PF (cxC X N scope cl C s H fp) ifs tt) (he:∀ cl C s H fp,PE (cxC X N scope cl C s H fp) elt te)
  (hN:X.N.Nodup) (hiy:X.N[i]?=some y) (hx:X.env.scope.names.lookup y=some .local)
  (hsw:swapsWith (.ListComp elt [⟨tg,iter,ifs,0⟩] scope pos) (some (.Name y py)) spos.line X.env=pure true)
  (hs:∀ x,foldedSetIterable iter X.env x=pure x:=by intro _;rfl):PS X (.Assign [.Name y py] (.ListComp elt [⟨tg,iter,ifs,0⟩] scope pos) spos) (tAsg (tComp t wi g tt te) (gName i)):=by
 intro pins s σ H D I h
 obtain ⟨cl,e,q1,q2⟩:=Z56 (env:=X.env) (scope:=scope) fun p hp hk=>I.ok.has p.1 (S.free p hp hk)
 rw [exec_Assign_Name_used _ _ _ _ hsw]
 refine wpAny_bind (wpAny_standAt (wpAny_bind ?_))
 show wpAny _ X.A (do let _ ← comprehension (.ListComp elt [⟨tg,iter,ifs,0⟩] scope pos) scope X.env _ (newList []) false (eval iter X.env) (some (assign (.Name y py) X.env))) _ _ s
 refine wpAny_bind (wpAny_mono (wpAny_comprehension_free (use:=some (assign (.Name y py) X.env)) (Q:=fun _ s'=>SP X pins D .next s') rfl hs e S.kind S.names
  (thn (hi pins s σ H _ I h) fun v s1 h1=>thn h1 fun itv s2 h2=>?_)) (fun _ s' hq=>wpAny_pure (wpAny_pure hq)) fun _ _ e=>e)
 obtain ⟨it,fp,tn,J,H2,e2,I2,T,st2,f2,hW⟩:=h2
 subst e2
 refine Z65 (Q:=fun x H1=>gName i x σ H1 D.nx) (RR:=fun acc C=>compPost (model X.prog X.w) X.A X.xe (some (assign (.Name y py) X.env)) (fun _ s'=>SP X pins D .next s') acc C) hc S q1 q2 (hg cl) (hf cl) (he cl) I2 T st2 f2 hW ?_
 intro D' C s' H' hC hDC J1 hn hm q
 obtain ⟨m,hm⟩:=hm
 show wpAny _ X.A (assign (.Name y py) X.env (.ref D')) _ _ _
 have hCL:C≠X.env.locals:=(I2.fpOk hC (I2.hok.fresh hC)).2.1
 refine wpAny_assign_Name (Z602 (v:=.ref D') J1 hN hiy (.inl hx) rfl (fun s3 I3 ⟨a,sb,ha⟩=>?_) (.inr hx))
 have ha':C≠a:=by
  rcases ha with ha | ha
  ·rw [ha];exact hCL
  ·exact fun z=>(I2.fpOk hC (I2.hok.fresh hC)).2.2.2.2.1 y a ha z.symm
 refine ⟨m,hm.sameBut sb ha',fun h' hs'=>?_⟩
 exact ⟨_,H',Z67 I2 hC I3 hn hs',q⟩
end
end L2
namespace L2
open PySem PySem.Spec PyProof.Rows

section
variable {X:Cx}{tg:Expr}
end

theorem Z70{t:Nat}{lo:Int}{n:Nat}{g:TG}{tt:TT}{te:TE}{Q:VK}{σ:St}{H1:Hp}(P:Addr→Nat→List V→St→Hp→Prop)(h0:∀ D,H1 D=none→P D 0 [] (List.replicate t none++σ) (upd H1 D (.lst [])))
  (hs:∀ D i ys τ H,H1 D=none→i < n→P D i ys τ H→g (.int (lo + i)) τ H fun τ2 H2=>tt τ2 H2 fun b H3 =>
   if b=true then te τ2 H3 fun y H4=>H4 D=some (.lst ys)∧ys.length < sizeLine∧P D (i + 1) (ys++[y]) τ2 (upd H4 D (.lst (ys++[y]))) else P D (i + 1) ys τ2 H3)
  (hd:∀ D ys τ H,H1 D=none→P D n ys τ H→Q (.ref D) H):compW (Itr lo n) t g tt te σ H1 Q:=by
 intro D hD
 refine ⟨fun i m ys τ H=>m=n - i∧i≤n∧P D i ys τ H,⟨n,by simp,Nat.zero_le _,h0 D hD⟩,?_⟩
 rintro i m ys τ H ⟨rfl,hi,p⟩
 by_cases hlt:i < n
 ·refine .inr ⟨hlt,P D (i + 1),fun zs τ' H' p'=>⟨n - (i + 1),by omega,rfl,hlt,p'⟩,fun x H' y=>?_⟩
  obtain ⟨e,y⟩:=y
  subst e y
  exact hs D i ys τ _ hD hlt p
 ·have e:i=n:=by omega
  subst e
  exact .inl ⟨Qu _,hd D ys τ H hD p⟩
theorem Z72{lo:Int}{n:Nat}{te:TE}{Q:VK}{σ:St}{H1:Hp}(hn:n≤sizeLine)(R:Nat→V→Prop)
  (hs:∀ i H (Q':VK),i < n→Same H1 H→(∀ y H4,Same H H4→R i y→Q' y H4)→te (some (.int (lo + i))::σ) H Q')
  (hd:∀ D ys H,H1 D=none→Same H1 H→H D=some (.lst ys)→ys.length=n→(∀ i y,ys[i]?=some y→R i y)→Q (.ref D) H):compW (Itr lo n) 1 (gName 0) tYes te σ H1 Q:=by
 refine Z70 (fun D i ys τ H=>(∃ v0,τ=v0::σ)∧Same H1 H∧H D=some (.lst ys)∧ys.length=i∧∀ j y,ys[j]?=some y→R j y) (fun D hD=>⟨⟨none,rfl⟩,fun b o e=>by rw [Z646 (Z396 e hD)];exact e,Z647,rfl,fun j y e=>by simp at e⟩) ?_ ?_
 ·rintro D i ys τ H hD hi ⟨⟨v0,rfl⟩,sm,hl,hlen,hR⟩
  unfold gName tYes
  refine iteT ?_
  refine hs i H _ hi sm fun y H4 s4 ry=>⟨s4 _ _ hl,by omega,⟨_,rfl⟩,fun b o e=>?_,Z647,by simp [hlen],fun j z e=>?_⟩
  ·rw [Z646 (Z396 e hD)]
   exact s4 _ _ (sm _ _ e)
  ·by_cases hj:j < ys.length
   ·rw [Qo hj] at e
    exact hR j z e
   ·rw [Jd (by omega)] at e
    have:j - ys.length=0:=by
     have:=(Qc.mp e).1
     simp at this
     omega
    rw [this] at e
    have e':y=z:=by simpa using e
    subst e'
    have:j=i:=by omega
    subst this
    exact ry
 ·rintro D ys τ H hD ⟨_,sm,hl,hlen,hR⟩
  exact hd D ys H hD sm hl hlen hR
theorem Z71{lo:Int}{n:Nat}{te:TE}{Q:VK}{σ:St}{H1:Hp}(hn:n≤sizeLine)(f:Nat→V)
  (hs:∀ i H (Q':VK),i < n→Same H1 H→(∀ H4,Same H H4→Q' (f i) H4)→te (some (.int (lo + i))::σ) H Q')
  (hd:∀ D H,H1 D=none→Same H1 H→H D=some (.lst ((List.range n).map f))→Q (.ref D) H):compW (Itr lo n) 1 (gName 0) tYes te σ H1 Q:=by
 refine Z72 hn (fun i v=>v=f i) (fun i H Q' hi sm k=>hs i H Q' hi sm fun H4 s4=>k _ H4 s4 rfl) fun D ys H hD sm hl hlen hR=>hd D H hD sm ?_
 have:ys=(List.range n).map f:=by
  apply Jz
  intro i
  by_cases hi:i < n
  ·have h1:ys[i]?=some (ys[i]'(by omega)):=by simp
   rw [h1,hR i _ h1]
   simp [hi]
  ·rw [Jm (by omega),Jm (by simp;omega)]
 rw [← this]
 exact hl

section
variable {X:Cx}
end
end L2
namespace L2
open PySem PySem.Spec PyProof.Rows

noncomputable def compOk(sc:Scope)(N0:List Str)(t:Nat)(N:List Str)(scope:Scope):Bool :=
 (scope.kind == .function) && scope.names.all (fun y=>y.2 != .cell) && scope.names.all (fun y=>y.2 != .local || scope.names.lookup y.1 == some .local)
 && scope.names.all (fun y=>y.2 != .free || sc.names.lookup y.1 == some .cell || sc.names.lookup y.1 == some .free) && (N.length == N0.length + t)
 && ((N.drop t).zip N0).all (fun p=>p.1 == p.2 || scope.names.lookup p.1 == none) && N0.all (fun y=>scope.names.lookup y != some .local || !(N.drop t).contains y)
theorem CompSc.of{X:Cx}{sc:Scope}{N0 N:List Str}{t:Nat}{scope:Scope}(e1:X.env.scope=sc)(e2:X.N=N0)(k:compOk sc N0 t N scope=true):CompSc X t N scope:=by
 unfold compOk at k
 simp only [Jt,List.all_eq_true,beq_iff_eq,bne_iff_ne,Bool.or_eq_true,ne_eq,Bool.not_eq_true',List.contains_eq_mem,decide_eq_false_iff_not] at k
 obtain ⟨⟨⟨⟨⟨⟨k1,k2⟩,k3⟩,k4⟩,k5⟩,k6⟩,k7⟩:=k
 subst e1 e2
 refine ⟨k1,k2,fun y hy hk=>?_,fun y hy hk=>?_,k5,k6,k7⟩
 ·rcases k3 y hy with z | z
  ·exact absurd hk z
  ·exact z
 ·rcases k4 y hy with (z | z) | z
  ·exact absurd hk z
  ·exact .inl z
  ·exact .inr z

structure Def(P:Program)(w:World)(K:Qd)(mg:Str→Option Value)(base:Heap)(x:Str)(k:Nat)(ps:List Str)(sp:Sp):Prop where
 ex:∃ (f:Addr) (fd:FuncData),FnOk P w K mg base CX0 k f fd ps sp∧mg x=some (.ref f)∧PySem.W.keepIn K (.ref f)=true∧Binds K fd ps [] ∧
  ∃ (oc:Value) (od:Option Addr) (osl:Array (Option Value)),K.lookup f=some ⟨oc,od,.func fd,osl⟩
structure At(K:Qd)(mg:Str→Option Value)(x:Str)(st:Stmt)(ps:List Str):Prop where
 ex:∃ (f:Addr) (fd:FuncData),Fun K x x st f fd∧mg x=some (.ref f)∧∀ us:List Value,us.length=ps.length→bindArgs fd ⟨us,[]⟩=pure (ps.zip us)
section
variable {P:Program}{w:World}{K:Qd}{mg:Str→Option Value}{base:Heap}
end
section
variable {X:Cx}{x:Str}{k:Nat}{ps:List Str}{sp:Sp}{p pos:Pos}{e:Expr}{es:List Expr}{t:TA}
end

theorem Z79{CX:CXT}{P:Program}{w:World}{K:Qd}{mg:Str→Option Value}{base:Heap}{N:List Str}{qual:Str}{scope:Scope}{f:Addr}{cd:Value}{A:Around}{outer:List Env}{s:Shared}{H:Hp}{E:XK} :
  (cxOf CX P w K mg base N qual scope f cd A outer s H E).K=K:=rfl
theorem cxC_K{X:Cx}{N:List Str}{scope:Scope}{cl:List (Str×Addr)}{C:Addr}{s:Shared}{H:Hp}{fp:List Addr}:(cxC X N scope cl C s H fp).K=X.K:=rfl

section
variable {X:Cx}
end
end L2

namespace L2.KQ
open PySem PySem.Spec PyProof.Rows L2
section
variable {X:Cx}(K:Qd){tg l o e a b:Expr}{es:List Expr}{tl to ta tv te:TE}{t:TA}{name f:Str}{pos pos' apos cpos:Pos}{T id:String}{r:V→List V→Hp→VK→Prop}
theorem call_len(hK:X.K=K:=by rfl):CallR X (.builtin "len") (fun xs H Q=>∃ x n,xs=[x]∧LenV K x H n∧Q (.int n) H):=by subst hK;exact L2.call_len
end
end L2.KQ
namespace L2
open PySem PySem.Spec PyProof.Rows

section
variable {X:Cx}{st:Stmt}{rest:List Stmt}{t u:TS}
end

noncomputable def IsTy(H:Hp)(x:V)(N:String):Prop:=match x with
 | .non=>N = "NoneType"
 | .bl _=>N = "bool"
 | .int _=>N = "int"
 | .str _=>N = "str"
 | .ref a=>(N = "list"∧∃ xs,H a=some (.lst xs))∨(N = "tuple"∧∃ xs,H a=some (.tup xs))∨(N = "dict"∧∃ kvs,H a=some (.dK kvs))
 | _=>False
noncomputable def kit0(N T:String):Option Bool:=PySem.W.kitOne [] (.type N) (.type T)
noncomputable def subT(N T:String):Bool:=(kit0 N T).getD false
noncomputable def kitAll(N:String)(Ts:List String):Bool:=Ts.all fun T=>(kit0 N T).isSome
theorem kit_K(K:Qd)(N T:String):PySem.W.kitOne K (.type N) (.type T)=kit0 N T:=rfl
theorem Z287(K:Qd)(N:String):∀ (Ts:List String),kitAll N Ts=true→PySem.W.kitAny K (.type N) (Ts.map Value.type)=some (Ts.any (subT N))
 | [],_=>rfl
 | T::Ts,h=>by
  unfold kitAll at h
  rw [List.all_cons,Jt] at h
  obtain ⟨b,hb⟩:=Option.isSome_iff_exists.mp h.1
  have ih:=Z287 K N Ts h.2
  show (match PySem.W.kitOne K (.type N) (.type T) with | some true=>some true | some false=>PySem.W.kitAny K (.type N) (Ts.map Value.type) | none=>none)=_
  rw [kit_K,hb,List.any_cons]
  have hs:subT N T=b:=by unfold subT;rw [hb];rfl
  rw [hs]
  cases b with
  | true=>rfl
  | false=>rw [Bool.false_or];exact ih
section
variable {X:Cx}{pins:List (Addr×Obj)}{σ:St}{H:Hp}{s:Shared}
theorem IsTy.kit{x:V}{u:Value}{N:String}(I:Inv X pins σ H s)(rx:RelV x u)(ty:IsTy H x N):∃ Hh:Heap→Prop,PySem.W.KitX X.K u (.type N) Hh∧Hh s.heap∧u≠.builtin "__main__.__loader__#opaque":=by
 cases x with
 | non=>cases (show u=Value.none from rx);cases (show N = "NoneType" from ty);exact ⟨_,PySem.W.kitx_none,True.intro,fun z=>nomatch z⟩
 | bl y=>cases (show u=Value.bool y from rx);cases (show N = "bool" from ty);exact ⟨_,PySem.W.kitx_bool,True.intro,fun z=>nomatch z⟩
 | int i=>obtain ⟨t,q⟩:=(show ∃ t,u=Value.int i t from rx);cases q;cases (show N = "int" from ty);exact ⟨_,PySem.W.kitx_int,True.intro,fun z=>nomatch z⟩
 | str y=>obtain ⟨t,q⟩:=(show ∃ t,u=Value.str y t from rx);cases q;cases (show N = "str" from ty);exact ⟨_,PySem.W.kitx_str,True.intro,fun z=>nomatch z⟩
 | ref a =>
  cases (show u=Value.ref a from rx)
  rcases ty with ⟨rfl,xs,ea⟩ | ⟨rfl,xs,ea⟩ | ⟨rfl,kvs,ea⟩
  ·obtain ⟨_,_,n,_,h1⟩:=(show ObjOk X.prog X.w H s.heap a (.lst xs) from I.hok a _ ea)
   exact ⟨_,PySem.W.kitx_list,⟨_,h1,rfl⟩,fun z=>nomatch z⟩
  ·obtain ⟨_,_,_,p⟩:=(show ObjOk X.prog X.w H s.heap a (.tup xs) from I.hok a _ ea)
   obtain ⟨o,h1,h2,_⟩:=p
   exact ⟨_,PySem.W.kitx_tuple,⟨o,h1,h2⟩,fun z=>nomatch z⟩
  ·obtain ⟨_,_,vs,_,p⟩:=(show ObjOk X.prog X.w H s.heap a (.dK kvs) from I.hok a _ ea)
   obtain ⟨o,es,ep,h1,h2,_⟩:=p
   exact ⟨_,PySem.W.kitx_dict,⟨o,h1,h2.1⟩,fun z=>nomatch z⟩
 | _=>exact (show False from ty).elim
noncomputable def rIs1:List V→Hp→VK→Prop:=fun xs H Q=>∃ x T N,xs=[x,.ty T]∧IsTy H x N∧(kit0 N T).isSome=true∧Q (.bl (subT N T)) H
theorem Z46:CallR X (.builtin "isinstance") rIs1:=by
 intro pins s σ H xs us Q I r h
 obtain ⟨x,T,N,rfl,ty,e,q⟩:=h
 obtain ⟨u,w',rfl,rx,rc⟩:=vals2 r
 cases rc
 obtain ⟨Hh,Z,p,ne⟩:=ty.kit I rx
 obtain ⟨b,hb⟩:=Option.isSome_iff_exists.mp e
 have hs:subT N T=b:=by unfold subT;rw [hb];rfl
 rw [hs] at q
 exact PySem.W.kia_one Z I.kIn p ((kit_K X.K N T).trans hb) ne fun tk=>⟨.bl b,H,I.tok _,rfl,q⟩
theorem Z639:∀ {Ts:List String} {us:List Value},Vals (Ts.map V.ty) us→us=Ts.map Value.type
 | [],us,r=>by cases r;rfl
 | T::Ts,us,r=>by
  cases r with
  | cons r1 r2 =>
   cases (show _=Value.type T from r1)
   rw [Z639 r2]
   rfl
noncomputable def rIsT:List V→Hp→VK→Prop:=fun xs H Q=>∃ x p Ts N,xs=[x,.ref p]∧H p=some (.tup (Ts.map V.ty))∧IsTy H x N∧kitAll N Ts=true∧Q (.bl (Ts.any (subT N))) H
theorem Z47:CallR X (.builtin "isinstance") rIsT:=by
 intro pins s σ H xs us Q I r h
 obtain ⟨x,p,Ts,N,rfl,hp,ty,e,q⟩:=h
 obtain ⟨u,w',rfl,rx,rc⟩:=vals2 r
 cases rc
 obtain ⟨Hh,Z,hh,ne⟩:=ty.kit I rx
 obtain ⟨_,its,rv,o,h1,h2,n,h3⟩:=(show ObjOk X.prog X.w H s.heap p (.tup (Ts.map V.ty)) from I.hok p _ hp)
 obtain rfl:=Z639 rv
 obtain ⟨c,d,dt,sl⟩:=o
 have h2:c=.type "tuple":=h2
 have h3:dt=_:=h3
 subst h2 h3
 exact PySem.W.kia_tup Z I.kIn hh h1 (Z287 X.K N Ts e) ne fun tk=>⟨.bl _,H,I.tok _,rfl,q⟩
end
end L2

namespace L2
open PySem PySem.Spec PyProof.Rows
noncomputable def Fly(g:Heap)(Z:List Addr)(l:List Env)(ea:Addr)(cls:Value)(h:Heap):Prop :=
 ∃ (B:Heap) (t:Addr),Heap.FlyingW B l ea cls (.ref t) h∧∀ b o,g.get? b=some o→b∉frs l→b∉Z→B.get? b=some o
noncomputable def CX1(P:Program)(w:World):CXT:=fun outer H s E e s'=>∃ (ea:Addr) (cls:Value) (H':Hp) (g:Heap) (Z:List Addr),e=.ref ea∧s'.os=s.os∧AllBare s'.gens∧Un (frs outer) [] H H' s.heap s'.heap∧HOk P w H' s'.heap ∧
 (∀ b o,s.heap.get? b=some o→∃ o',g.get? b=some o')∧(∀ z∈Z,s.heap.objs.size≤z)∧(∀ a o,H' a=some o→(∃ o',g.get? a=some o')∧a∉Z)∧Fly g Z outer ea cls s'.heap∧E cls none H'
section
variable {X:Cx}{pins:List (Addr×Obj)}{σ:St}{Hc H':Hp}{sc s':Shared}{g B h':Heap}{Z:List Addr}
theorem Z195(I:Inv X pins σ Hc sc)(un:Un (frs X.stack) [] Hc H' sc.heap s'.heap)(hok:HOk X.prog X.w H' s'.heap)
  (dom:∀ b o,sc.heap.get? b=some o→∃ o',g.get? b=some o') (zz:∀ z∈Z,sc.heap.objs.size≤z) (tr:∀ a o,H' a=some o→(∃ o',g.get? a=some o')∧a∉Z)
  (hB:∀ b o,g.get? b=some o→b∉frs X.stack→b∉Z→B.get? b=some o) (st:B.StaysIn s'.heap) (st':B.StaysIn h')
  (nf:∀ b∈frs X.stack,∃ o,s'.heap.get? b=some o∧∀ vs,o.data≠.fields vs) (up:s'.heap.UpToSlots h') :
  Un (frs X.stack) [] Hc H' sc.heap h'∧HOk X.prog X.w H' h'∧∀ b,b∉frs X.stack→∀ o,g.get? b=some o→b∉Z→s'.heap.get? b=some o∧h'.get? b=some o:=by
 have same:∀ b,b∉frs X.stack→∀ o,g.get? b=some o→b∉Z→s'.heap.get? b=some o∧h'.get? b=some o:=fun b hb o e hz =>
  ⟨st b o (hB b o e hb hz),st' b o (hB b o e hb hz)⟩
 have nz:∀ b o,sc.heap.get? b=some o→b∉Z:=fun b o e hz=>absurd (Jc (Heap.lt_size e) (zz b hz)) (Jw _)
 have frf:∀ b∈frs X.stack,H' b=none:=fun b hb=>by
  obtain ⟨o,e⟩:∃ o,sc.heap.get? b=some o:=by
   obtain ⟨_,o,ho,_⟩:=I.stack.mem hb
   exact ⟨o,ho⟩
  exact un.free b o e (I.stkFree b hb) (by simp)
 refine ⟨⟨fun b o e n hb _=>?_,fun b o e n hb _=>?_,un.free,fun b o e _=>?_,un.tups,un.frzs,un.tbls⟩,fun a o e=>?_,same⟩
 ·have e1:=un.keep b o e n hb (by simp)
  obtain ⟨o',g1⟩:=dom b o e
  obtain ⟨h1,h2⟩:=same b hb o' g1 (nz b o e)
  rw [e1] at h1
  cases h1
  exact h2
 ·obtain ⟨sl,e1⟩:=un.slot b o e n hb (by simp)
  obtain ⟨o1,e2,nd⟩:=nf b hb
  rw [e1] at e2
  cases e2
  obtain ⟨sl',e3⟩:=up b _ e1 nd
  exact ⟨sl',e3⟩
 ·by_cases hb:b∈frs X.stack
  ·obtain ⟨o1,e2,nd⟩:=nf b hb
   obtain ⟨sl',e3⟩:=up b _ e2 nd
   exact ⟨_,e3⟩
  ·obtain ⟨o',g1⟩:=dom b o e
   exact ⟨o',(same b hb o' g1 (nz b o e)).2⟩
 ·refine (hok a o e).stay (fun b u hb q=>?_) (fun _ q=>q) fun _ _ q=>q
  obtain ⟨ob,tb⟩:∃ ob,H' b=some ob:=by
   rcases hb with rfl | hb
   ·exact ⟨o,e⟩
   ·exact ⟨_,hb⟩
  obtain ⟨⟨o',g1⟩,hz⟩:=tr b ob tb
  have hfr:b∉frs X.stack:=fun z=>by rw [frf b z] at tb;cases tb
  obtain ⟨h1,h2⟩:=same b hfr o' g1 hz
  rw [q] at h1
  cases h1
  exact h2
end
section
variable {P:Program}{w:World}{K:Qd}{mg:Str→Option Value}{base:Heap}{N:List Str}{qual:Str}{scope:Scope}{f:Addr}{cd:Value}{A:Around}{outer:List Env}{s:Shared}{H:Hp}{E:XK}{pins:List (Addr×Obj)}{σ:St}
theorem Z335{Hc H':Hp}{sc s':Shared}{g B h':Heap}{Z:List Addr}{ea t:Addr}{cls:Value}(I:Inv (cxOf (CX1 P w) P w K mg base N qual scope f cd A outer s H E) pins σ Hc sc)
  (os:s'.os=sc.os) (bare:AllBare s'.gens) (un:Un (frs (cxOf (CX1 P w) P w K mg base N qual scope f cd A outer s H E).stack) [] Hc H' sc.heap s'.heap) (hok:HOk P w H' s'.heap)
  (dom:∀ b o,sc.heap.get? b=some o→∃ o',g.get? b=some o') (zz:∀ z∈Z,sc.heap.objs.size≤z) (tr:∀ a o,H' a=some o→(∃ o',g.get? a=some o')∧a∉Z)
  (hB:∀ b o,g.get? b=some o→b∉frs (cxOf (CX1 P w) P w K mg base N qual scope f cd A outer s H E).stack→b∉Z→B.get? b=some o) (st:B.StaysIn s'.heap)
  (nf:∀ b∈frs (cxOf (CX1 P w) P w K mg base N qual scope f cd A outer s H E).stack,∃ o,s'.heap.get? b=some o∧∀ vs,o.data≠.fields vs)
  (fl:Heap.FlyingW B outer ea cls (.ref t) h') (up:s'.heap.UpToSlots h') (q:E cls none H'):CX1 P w outer H s E (.ref ea) { s' with heap:=h' }:=by
 generalize hX:cxOf (CX1 P w) P w K mg base N qual scope f cd A outer s H E=X at I un hB nf
 have e1:X.s₀=s:=by subst hX;rfl
 have e2:X.H₀=H:=by subst hX;rfl
 have e3:X.fs=frs outer:=by subst hX;rfl
 have e4:X.ex=[]:=by subst hX;rfl
 have e5:frs X.stack=X.env.locals::frs outer:=by subst hX;rfl
 have e6:X.prog=P:=by subst hX;rfl
 have e7:X.w=w:=by subst hX;rfl
 obtain ⟨un',hok',same⟩:=Z195 I un (by rw [e6,e7];exact hok) dom zz tr hB st fl.1 nf up
 have ib:=I.base
 rw [e1,e2,e3,e4] at ib
 have ab:=I.ok.above
 rw [e1] at ab
 have sz:=I.sz
 rw [e1] at sz
 have out:∀ b o,s.heap.get? b=some o→b∉frs outer→b∉frs X.stack:=fun b o e hb=>by
  rw [e5]
  intro z
  rcases Jb.mp z with z | z
  ·exact absurd (Jc (Heap.lt_size e) ab) (by rw [z];exact Jw _)
  ·exact hb z
 have inn:∀ b,b∈frs outer→b∈frs X.stack:=fun b hb=>by rw [e5];exact Qp _ hb
 have fL:H' X.env.locals=none:=by
  obtain ⟨m,⟨o,_,_,ho,_⟩,_⟩:=I.loc
  exact un.free _ o ho I.free (by simp)
 refine ⟨ea,cls,H',g,X.env.locals::Z,rfl,os.trans (I.os.trans (by rw [e1])),bare,⟨fun b o e n hb _=>?_,fun b o e n hb _=>?_,fun b o e n _=>?_,fun b o e _=>?_,fun b xs e=>un.tups b xs (ib.tups b xs e),fun b o u e=>un.frzs b o u (ib.frzs b o u e),fun b ps e=>?_⟩,
  by rw [← e6,← e7];exact hok',fun b o e=>?_,fun z hz=>?_,fun a o e=>?_,⟨B,t,fl,fun b o e hb hz=>?_⟩,q⟩
 ·exact un'.keep b o (ib.keep b o e n hb (by simp)) (ib.free b o e n (by simp)) (out b o e hb) (by simp)
 ·obtain ⟨sl,h1⟩:=ib.slot b o e n hb (by simp)
  obtain ⟨sl',h2⟩:=un'.slot b _ h1 (ib.free b o e n (by simp)) (inn b hb) (by simp)
  exact ⟨sl',h2⟩
 ·obtain ⟨o',h1⟩:=ib.there b o e (by simp)
  exact un.free b o' h1 (ib.free b o e n (by simp)) (by simp)
 ·obtain ⟨o',h1⟩:=ib.there b o e (by simp)
  exact un'.there b o' h1 (by simp)
 ·obtain ⟨m1,h1⟩:=ib.tbls b ps e
  obtain ⟨m2,h2⟩:=un.tbls b _ h1
  exact ⟨m1++m2,by rw [h2,Array.append_assoc]⟩
 ·obtain ⟨o',h1⟩:=ib.there b o e (by simp)
  exact dom b o' h1
 ·rcases Jb.mp hz with z | z
  ·rw [z];exact ab
  ·exact Wt sz (zz _ z)
 ·obtain ⟨h1,h2⟩:=tr a o e
  refine ⟨h1,fun z=>?_⟩
  rcases Jb.mp z with z | z
  ·rw [z,fL] at e;cases e
  ·exact h2 z
 ·refine hB b o e (fun z=>?_) fun z=>hz (Qp _ z)
  rw [e5] at z
  rcases Jb.mp z with z | z
  ·exact hz (by rw [z];exact Qs)
  ·exact hb z
theorem passX:Passes (CX1 P w) (cxOf (CX1 P w) P w K mg base N qual scope f cd A outer s H E) E:=by
 intro pins σ Hc sc e s' I c
 obtain ⟨ea,cls,H',g,Z,rfl,os,bare,un,hok,dom,zz,tr,⟨B,t,fl,hB⟩,q⟩:=c
 refine wpAny_leaves_onW (A:=A.deeper (envOfC qual scope s.heap.objs.size f cd)) I.ok.frames rfl fl fun h' fl' up=>?_
 exact Z335 I os bare un hok dom zz tr hB fl.1 (fun b hb=>(fl.2.2.1.mem hb).2) fl' up q
theorem Z448:PassesOwn (model P w) (cxOf (CX1 P w) P w K mg base N qual scope f cd A outer s H E).A (cxOf (CX1 P w) P w K mg base N qual scope f cd A outer s H E).env (cxOf (CX1 P w) P w K mg base N qual scope f cd A outer s H E).xe:=by
 intro e s' h
 exact wpAny_leaving_again (SameStack.refl _) h
end
end L2

namespace L2
open PySem PySem.Spec PyProof.Rows

abbrev bmV:List Value:=[.type "ValueError",.type "Exception",.type "BaseException",.type "object"]
structure ExC(K:Qd)(mg:Str→Option Value)(x:Str)(C:Addr):Prop where
 mg:mg x=some (.ref C)
 exc:PySem.W.excIn K C bmV "ValueError.__new__"=true
section
variable {P:Program}{w:World}{K:Qd}{mg:Str→Option Value}{base:Heap}{N:List Str}{qual:Str}{scope:Scope}{f:Addr}{cd:Value}{A:Around}{outer:List Env}{s:Shared}{H:Hp}{E:XK}
noncomputable def tRaise(E:XK)(cls:Value):TS:=fun _ _ H=>E cls none H
noncomputable def tRaiseA(E:XK)(cls:Value)(t:TA):TS:=fun _ σ H=>t σ H fun vs H1=>vs.length≤sizeLine∧E cls none H1
end

structure DefX(P:Program)(w:World)(K:Qd)(mg:Str→Option Value)(base:Heap)(x:Str)(k:Nat)(ps:List Str)(sp:Sp):Prop where
 ex:∃ (f:Addr) (fd:FuncData),FnOk P w K mg base (CX1 P w) k f fd ps sp∧mg x=some (.ref f)∧PySem.W.keepIn K (.ref f)=true∧Binds K fd ps [] ∧
  ∃ (oc:Value) (od:Option Addr) (osl:Array (Option Value)),K.lookup f=some ⟨oc,od,.func fd,osl⟩
structure AtM(K:Qd)(C:Addr)(m qual:Str)(st:Stmt)(ps:List Str):Prop where
 ex:∃ (f:Addr) (fd:FuncData),Fun K m qual st f fd∧Meth K C m f∧∀ us:List Value,us.length=ps.length→bindArgs fd ⟨us,[]⟩=pure (ps.zip us)
structure MetX(P:Program)(w:World)(K:Qd)(mg:Str→Option Value)(base:Heap)(C:Addr)(m:Str)(k:Nat)(ps:List Str)(sp:Sp):Prop where
 ex:∃ (f:Addr) (fd:FuncData),FnOk P w K mg base (CX1 P w) k f fd ps sp∧Meth K C m f∧Binds K fd ps []
structure AtI(K:Qd)(C:Addr)(qual:Str)(st:Stmt)(ps:List Str):Prop where
 ex:∃ (f:Addr) (fd:FuncData),Fun K "__init__" qual st f fd∧Mk K C f∧∀ us:List Value,us.length=ps.length→bindArgs fd ⟨us,[]⟩=pure (ps.zip us)
structure InitX(P:Program)(w:World)(K:Qd)(mg:Str→Option Value)(base:Heap)(C:Addr)(k:Nat)(ps:List Str)(sp:Sp):Prop where
 ex:∃ (f:Addr) (fd:FuncData),FnOk P w K mg base (CX1 P w) k f fd ps sp∧Mk K C f∧Binds K fd ps []
section
variable {P:Program}{w:World}{K:Qd}{mg:Str→Option Value}{base:Heap}
theorem Fun.okX{x qual:Str}{st:Stmt}{f:Addr}{fd:FuncData}{N ps:List Str}{k:Nat}{sp:Sp}(F:Fun K x qual st f fd)(S:FnScope N ps (defScope st))(len:∀ vs H Q E,sp vs H Q E→vs.length=ps.length)
  (hbody:∀ (cdv:Value) (A:Around) (outer:List Env) (s:Shared) (H:Hp) (vs:List V) (Q:VK) (E:XK),Room k (A.deeper (envOfC qual (defScope st) s.heap.objs.size f cdv))→sp vs H Q E →
   ∃ t,PSs (cxOf (CX1 P w) P w K mg base N qual (defScope st) f cdv A outer s H E) (defBody st) t∧t { nx:=fun _ H'=>Q .non H',rt:=Q } (start N vs) H):FnOk P w K mg base (CX1 P w) (k + 1) f fd ps sp:=by
 obtain ⟨oc,od,kV,doc,pm,an,cdv,ct,osl,rfl,lk,hcd⟩:=F.ex
 exact fn_of lk hcd S len fun A outer s H vs Q E hr hsp=>hbody cdv A outer s H vs Q E hr hsp
theorem At.okX{x:Str}{st:Stmt}{ps N:List Str}{k:Nat}{sp:Sp}(F:At K mg x st ps)(S:FnScope N ps (defScope st))(len:∀ vs H Q E,sp vs H Q E→vs.length=ps.length)
  (hbody:∀ (f:Addr) (cdv:Value) (A:Around) (outer:List Env) (s:Shared) (H:Hp) (vs:List V) (Q:VK) (E:XK),Room k (A.deeper (envOfC x (defScope st) s.heap.objs.size f cdv))→sp vs H Q E →
   ∃ t,PSs (cxOf (CX1 P w) P w K mg base N x (defScope st) f cdv A outer s H E) (defBody st) t∧t { nx:=fun _ H'=>Q .non H',rt:=Q } (start N vs) H):DefX P w K mg base x (k + 1) ps sp:=by
 obtain ⟨f,fd,F,m,b⟩:=F.ex
 obtain ⟨oc,od,_,_,_,_,_,_,osl,_,lk,_⟩:=id F.ex
 exact ⟨f,fd,F.okX S len (hbody f),m,F.kp,.all b,oc,od,osl,lk⟩
theorem Z317{x y:Str}{st:Stmt}{k:Nat}{sp:Sp}{fa:Addr}(F:At K mg y st [x])(D:∀ base,DefX P w K mg base y k [x] sp)(hmg:mg y=some (.ref fa)) :
  ∃ fd:FuncData,(∀ (s:Shared) (u:Value),BindsTo s fd ⟨[u],[]⟩ [(x,u)])∧∀ base:Heap,K.In base→base.Ns mainGlobals mg→FnOk P w K mg base (CX1 P w) k fa fd [x] sp:=by
 obtain ⟨f,fd,F,m,b⟩:=F.ex
 rw [m] at hmg
 cases hmg
 refine ⟨fd,fun s u=>.of_eq (b [u] rfl),fun base _ _=>?_⟩
 obtain ⟨f',fd',G,m',_,_,_,_,_,lk'⟩:=(D base).ex
 rw [m] at m'
 cases m'
 obtain ⟨oc,od,_,_,_,_,_,_,osl,_,lk,_⟩:=id F.ex
 rw [lk] at lk'
 cases lk'
 exact G
end
section
variable {X:Cx}{x m:Str}{C:Addr}{k:Nat}{ps:List Str}{sp:Sp}{p pos apos:Pos}{e o:Expr}{es:List Expr}{t:TA}{ta:TE}{E:XK}
end

noncomputable def PassT(X:Cx)(EX:St→XK):Prop:=∀ (pins:List (Addr×Obj)) (σ:St) (H:Hp) (s:Shared) (e:Value) (s':Shared),Inv X pins σ H s→CX1 X.prog X.w X.stack H s (EX σ) e s'→X.xe e s'
theorem passT0{X:Cx}:PassT X fun _=>E0:=by
 rintro pins σ Hc sc e s' I ⟨_,_,_,_,_,_,_,_,_,_,_,_,_,_,q⟩
 exact q.elim
theorem passTX{P:Program}{w:World}{K:Qd}{mg:Str→Option Value}{base:Heap}{N:List Str}{qual:Str}{scope:Scope}{f:Addr}{cd:Value}{A:Around}{outer:List Env}{s:Shared}{H:Hp}{E:XK} :
  PassT (cxOf (CX1 P w) P w K mg base N qual scope f cd A outer s H E) fun _=>E:=fun pins σ Hc sc e s' I c=>passX pins σ Hc sc e s' I c
noncomputable def tCallT(sp:Sp)(EX:St→XK)(t:TA):TE:=fun σ H Q=>t σ H fun vs H1=>sp vs H1 Q (EX σ)
noncomputable def tMetT(C:Addr)(m:Str)(sp:Sp)(EX:St→XK)(ta:TE)(t:TA):TE:=fun σ H Q=>ta σ H fun x H1=>∃ a dx fs,x=.ref a∧H1 a=some (.ins C dx fs)∧fs.lookup m=none∧t σ H1 fun vs H2=>sp (x::vs) H2 Q (EX σ)
noncomputable def tMkT(C:Addr)(sp:Sp)(EX:St→XK)(t:TA):TE:=fun σ H Q=>t σ H fun vs H1=>∀ x dx,H1 x=none→H1 dx=none→dx≠x →
 sp (.ref x::vs) (upd (upd H1 dx (.own x)) x (.ins C dx [])) (fun v H2=>v=.non∧Q (.ref x) H2) (EX σ)
section
variable {X:Cx}{x m:Str}{C f:Addr}{fd:FuncData}{k:Nat}{ps:List Str}{sp:Sp}{p pos apos:Pos}{e o:Expr}{es:List Expr}{t:TA}{ta:TE}{EX:St→XK}
theorem Z553{pins:List (Addr×Obj)}{σ:St}{H:Hp}{s:Shared}{Q:VK}{us:List Value}{vs:List V}(F:FnOk X.prog X.w X.K X.mg X.base (CX1 X.prog X.w) k f fd ps sp)(hr:Room k X.A)(hb:Binds X.K fd ps [])(hx:PassT X EX)
  (I:Inv X pins σ H s) (r:Vals vs us) (h:sp vs H Q (EX σ)):wpAny (model X.prog X.w) X.A (call (.ref f) us) (EP X pins σ Q) X.xe s:=by
 have hl:(us++[]).length=ps.length:=by rw [Jl,← r.length];exact F.len _ _ _ _ h
 have hbb:=hb s us I.kIn hl
 rw [Jl] at hbb
 refine wpAny_call (codeAny_mono (F.run X.A X.stack s H ⟨us,[]⟩ us vs Q (EX σ) hr I.env0 hbb r h) fun r s' hq=>?_)
 cases r with
 | error e=>exact hx pins σ H s e s' I hq
 | ok fl =>
  cases fl with
  | ret u=>exact I.after hq
  | next=>exact False.elim hq
  | brk=>exact False.elim hq
  | cont=>exact False.elim hq
theorem Z460(D:DefX X.prog X.w X.K X.mg X.base x k ps sp)(hr:Room k X.A)(hx:PassT X EX)(ha:PA X (e::es) t)(hg:Gl X x:=by rfl)(hdb:(x == ("__debug__":Str))=false:=by decide)
  (he:starEach (e::es) X.env=(false,eval e X.env)::starEach es X.env:=by rfl) (hpl:(backTo pos (starEach es X.env)).any (·.1)=false:=by rfl) :
  PE X (.Call (.Name x p) (e::es) [] pos) (tCallT sp EX t):=by
 obtain ⟨f,fd,G,hm,kp,b,_⟩:=D.ex
 intro pins s σ H Q I h
 refine wpAny_Call_Name_kw (Z334 I hg hm ?_ hdb)
 refine PySem.W.callWith_K (h₀:=X.base) I.ok.mod.kin kp (thn (ha pos pins s σ H _ I h) fun us s1 ⟨vs,H1,I1,r,q⟩=>⟨I1.kIn,?_⟩) he hpl
 exact Z553 G hr b hx I1 r q
end

structure Land(X:Cx)(pins:List (Addr×Obj))(σ:St)(Hc:Hp)(sc:Shared)(H:Hp)(g:Heap)(Z:List Addr)(B:Heap)(ea t:Addr)(cls:Value)(s:Shared):Prop where
 inv0:Inv X pins σ Hc sc
 os:s.os=sc.os
 bare:AllBare s.gens
 un:Un (frs X.stack) [] Hc H sc.heap s.heap
 hok:HOk X.prog X.w H s.heap
 dom:∀ b o,sc.heap.get? b=some o→∃ o',g.get? b=some o'
 zz:∀ z∈Z,sc.heap.objs.size≤z
 tr:∀ a o,H a=some o→(∃ o',g.get? a=some o')∧a∉Z
 hB:∀ b o,g.get? b=some o→b∉frs X.stack→b∉Z→B.get? b=some o
 fl:Heap.FlyingW B X.stack ea cls (.ref t) s.heap
section
variable {X:Cx}{pins:List (Addr×Obj)}{σ:St}{Hc H:Hp}{sc s:Shared}{g B:Heap}{Z:List Addr}{ea t:Addr}{cls:Value}
end
noncomputable def hNil:Value→TS:=fun _ _ _ _=>False
noncomputable def hCons(K:Qd)(C:Addr)(ts:TS)(tr:Value→TS):Value→TS:=fun cls D σ H=>∃ b,PySem.W.exmOne K cls (.ref C)=some b∧if b=true then ts D σ H else tr cls D σ H
section
variable {X:Cx}
end
end L2
namespace L2
open PySem PySem.Spec PyProof.Rows
section
variable {X:Cx}
theorem Z45:∀ {bs:List Bool} {us:List Value} (i:Nat) (v:Value),Vals (bs.map V.bl) us→us[i]?=some v→∃ b,bs[i]?=some b∧v=.bool b
 | [],_,i,v,r,e=>by cases r;simp at e
 | b::bs,u::_,0,v,.cons r t,e=>by
  have e':u=v:=by simpa using e
  subst e'
  exact ⟨b,rfl,r⟩
 | b::bs,_,i + 1,v,.cons r t,e=>by
  obtain ⟨c,h1,h2⟩:=Z45 i v t (by simpa using e)
  exact ⟨c,by simpa using h1,h2⟩
theorem call_all(hc:X.calm=true):CallR X (.builtin "all") (fun xs H Q=>∃ (p:Addr) (bs:List Bool),xs=[.ref p]∧SqL X.K H p (bs.map V.bl)∧Q (.bl (bs.all id)) H):=by
 intro pins s σ H xs us Q I r h
 obtain ⟨p,bs,rfl,hq,q⟩:=h
 obtain ⟨u,rfl,ru⟩:=vals1 r
 cases ru
 obtain ⟨its,rv,pl,hz⟩:=I.list hq
 have hl:=pl.isList
 have hlt:p < s.heap.objs.size:=by obtain ⟨_,e,_⟩:=hl;exact Heap.lt_size e
 refine call_all_walk (wpAny_pyIter_list hl ?_)
 refine ⟨s.heap.objs.size,[s.heap.objs.size,p],[s.heap.objs.size],its.toArray.size,_,_,fun i=>(bs[i]?).getD true,rfl,Walks.list (A:=X.A.in1) (I.ok.hd hc) _ p (Jo hlt) its.toArray,
  ⟨⟨_,Heap.get?_push_size _ rfl,rfl,rfl⟩,hl.push _⟩,fun i v s' Q' E' hP hQ=>?_,fun h' tk hk=>?_⟩
 ·obtain ⟨b,e,rfl⟩:=Z45 i v rv (by simpa using hP)
  have hQ:Q' ((bs[i]?).getD true) s':=hQ
  rw [e] at hQ
  exact wpAny_truthy_bool hQ
 ·have e:((List.range its.toArray.size).all fun i=>(bs[i]?).getD true)=bs.all id:=by
   have hlen:=rv.length
   rw [Qn] at hlen
   rw [Jg,← hlen]
   exact LSm.range_all bs
  rw [e]
  exact ⟨.bl (bs.all id),H,I.kept (LSm.kept_iter hk),rfl,q⟩
end
namespace KQ
theorem call_all{X:Cx}(K:Qd)(hc:X.calm=true)(hK:X.K=K:=by rfl):CallR X (.builtin "all") (fun xs H Q=>∃ (p:Addr) (bs:List Bool),xs=[.ref p]∧SqL K H p (bs.map V.bl)∧Q (.bl (bs.all id)) H):=by subst hK;exact L2.call_all hc
end KQ

inductive Dt where
 | non | bl (b:Bool) | int (i:Int) | str (x:Str) | lst (l:List Dt) | tup (l:List Dt)
mutual
noncomputable def Dt.dep:Dt→Nat
 | .lst l=>Dt.deps l + 1
 | .tup l=>Dt.deps l + 1
 | _=>1
noncomputable def Dt.deps:List Dt→Nat
 | []=>0
 | d::r=>max d.dep (Dt.deps r)
end
mutual
noncomputable def Dt.eq:Dt→Dt→Bool
 | .non,.non=>true
 | .bl a,.bl b=>a == b
 | .int a,.int b=>a == b
 | .str a,.str b=>a == b
 | .lst a,.lst b=>Dt.eqs a b
 | .tup a,.tup b=>Dt.eqs a b
 | _,_=>false
noncomputable def Dt.eqs:List Dt→List Dt→Bool
 | [],[]=>true
 | a::r,b::q=>Dt.eq a b && Dt.eqs r q
 | _,_=>false
end
mutual
theorem Dt.eq_iff:∀ (a b:Dt),Dt.eq a b=true↔a=b
 | .non,b=>by cases b <;> simp [Dt.eq]
 | .bl x,b=>by cases b <;> simp [Dt.eq]
 | .int x,b=>by cases b <;> simp [Dt.eq]
 | .str x,b=>by cases b <;> simp [Dt.eq]
 | .lst l,b=>by cases b <;> simp [Dt.eq,Dt.eqs_iff l]
 | .tup l,b=>by cases b <;> simp [Dt.eq,Dt.eqs_iff l]
theorem Dt.eqs_iff:∀ (a b:List Dt),Dt.eqs a b=true↔a=b
 | [],b=>by cases b <;> simp [Dt.eqs]
 | x::r,b=>by cases b <;> simp [Dt.eqs,Dt.eq_iff x,Dt.eqs_iff r]
end
mutual
noncomputable def RelD(H:Hp):Dt→V→Prop
 | .non,x=>x=.non
 | .bl b,x=>x=.bl b
 | .int i,x=>x=.int i
 | .str y,x=>x=.str y
 | .lst l,x=>∃ a xs,x=.ref a∧H a=some (.lst xs)∧xs.length < sizeLine∧RelDs H l xs
 | .tup l,x=>∃ a xs,x=.ref a∧H a=some (.tup xs)∧xs.length < sizeLine∧RelDs H l xs
noncomputable def RelDs(H:Hp):List Dt→List V→Prop
 | [],[]=>True
 | d::l,v::r=>RelD H d v∧RelDs H l r
 | _,_=>False
end
theorem RelDs.length{H:Hp}:∀ {l:List Dt} {xs:List V},RelDs H l xs→xs.length=l.length
 | [],[],_=>rfl
 | [],_::_,h=>h.elim
 | _::_,[],h=>h.elim
 | d::l,v::r,h=>by simp [RelDs.length (l:=l) (xs:=r) h.2]
theorem RelDs.get{H:Hp}:∀ {l:List Dt} {xs:List V} {i:Nat} {d:Dt},RelDs H l xs→l[i]?=some d→∃ v,xs[i]?=some v∧RelD H d v
 | [],_,_,_,_,e=>by simp at e
 | _::_,[],_,_,h,_=>h.elim
 | d::l,v::r,0,d',h,e=>by
  have e':d=d':=by simpa using e
  subst e'
  exact ⟨v,rfl,h.1⟩
 | d::l,v::r,i + 1,d',h,e=>by
  obtain ⟨u,h1,h2⟩:=RelDs.get (l:=l) (xs:=r) (i:=i) (d:=d') h.2 (by simpa using e)
  exact ⟨u,by simpa using h1,h2⟩
mutual
theorem RelD.keep{H H':Hp}(k:∀ a xs,(H a=some (.lst xs)→H' a=some (.lst xs))∧(H a=some (.tup xs)→H' a=some (.tup xs))):∀ {d:Dt} {x:V},RelD H d x→RelD H' d x
 | .non,_,h=>h
 | .bl _,_,h=>h
 | .int _,_,h=>h
 | .str _,_,h=>h
 | .lst l,_,⟨a,xs,e,h1,z,h2⟩=>⟨a,xs,e,(k a xs).1 h1,z,RelDs.keep k h2⟩
 | .tup l,_,⟨a,xs,e,h1,z,h2⟩=>⟨a,xs,e,(k a xs).2 h1,z,RelDs.keep k h2⟩
theorem RelDs.keep{H H':Hp}(k:∀ a xs,(H a=some (.lst xs)→H' a=some (.lst xs))∧(H a=some (.tup xs)→H' a=some (.tup xs))):∀ {l:List Dt} {xs:List V},RelDs H l xs→RelDs H' l xs
 | [],[],_=>trivial
 | [],_::_,h=>h.elim
 | _::_,[],h=>h.elim
 | d::l,v::r,h=>⟨RelD.keep k h.1,RelDs.keep k h.2⟩
end
theorem RelD.same{H H':Hp}(sm:Same H H'){d:Dt}{x:V}(h:RelD H d x):RelD H' d x:=h.keep fun a xs=>⟨fun e=>sm _ _ e,fun e=>sm _ _ e⟩
theorem Dt.deps_le{l:List Dt}{i:Nat}{d:Dt}(h:l[i]?=some d):d.dep≤Dt.deps l:=by
 induction l generalizing i with
 | nil=>simp at h
 | cons e r ih =>
  cases i with
  | zero =>
   have:e=d:=by simpa using h
   subst this
   unfold Dt.deps
   omega
  | succ i =>
   have:=ih (i:=i) (by simpa using h)
   unfold Dt.deps
   omega
theorem Dt.dep_pos(d:Dt):1≤d.dep:=by cases d <;> simp [Dt.dep]
theorem Dt.eqs_all{l l':List Dt}(hl:l.length=l'.length):Dt.eqs l l'=(((List.range l'.length).map fun i=>Dt.eq (l[i]?.getD .non) (l'[i]?.getD .non)).all id):=by
 induction l generalizing l' with
 | nil =>
  cases l' with
  | nil=>rfl
  | cons b r=>simp at hl
 | cons a l ih =>
  cases l' with
  | nil=>simp at hl
  | cons b r =>
   have h:=ih (l':=r) (by simpa using hl)
   rw [Jq,List.range_succ_eq_map]
   simp only [Dt.eqs,h,Ql,Jk,List.all_cons,Ws,Option.getD_some,id]
   rfl
end L2
namespace L2
open PySem PySem.Spec PyProof.Rows
theorem Z78{P:Program}{w:World}{outer:List Env}{H:Hp}{s:Shared}{e:Value}{s':Shared}(z:CX1 P w outer H s (fun _ _ _=>False) e s'):False:=by
 obtain ⟨_,_,_,_,_,_,_,_,_,_,_,_,_,_,q⟩:=z
 exact q

section
variable {X:Cx}{K:Qd}{C:Addr}{e o value:Expr}{ta tv:TE}{f:Str}{pos pos':Pos}
noncomputable def tFldC(C:Addr)(ta:TE)(f:Str):TE:=fun σ H Q=>ta σ H fun x H1=>∃ a dx fs v,x=.ref a∧H1 a=some (.ins C dx fs)∧fs.lookup f=some v∧Q v H1
noncomputable def sFldC(C:Addr)(ta tv:TE)(f:Str):TS:=fun D σ H=>tv σ H fun y H1=>ta σ H1 fun x H2=>∃ a dx fs,x=.ref a∧H2 a=some (.ins C dx fs)∧fs.length < 1000∧D.nx σ (upd H2 a (.ins C dx (putF f y fs)))
end

namespace KQ
theorem ix_seq{X:Cx}(K:Qd)(hK:X.K=K:=by rfl):IxR X (rIx K):=by subst hK;exact L2.ix_seq
end KQ
theorem Same.seqT{K:Qd}{H H':Hp}{a:Addr}{xs:List V}(e:Same H H')(h:SqT K H a xs):SqT K H' a xs:=by
 rcases h with (h | ⟨o,h⟩) | h
 ·exact .inl (.inl (e _ _ h))
 ·exact .inl (.inr ⟨o,e _ _ h⟩)
 ·exact .inr h

noncomputable def Dt.ty:Dt→String
 | .non => "NoneType" | .bl _ => "bool" | .int _ => "int" | .str _ => "str" | .lst _ => "list" | .tup _ => "tuple"
theorem RelD.ty{H:Hp}:∀ {d:Dt} {x:V},RelD H d x→IsTy H x d.ty
 | .non,_,h=>by cases (show _=V.non from h);rfl
 | .bl b,_,h=>by cases (show _=V.bl b from h);rfl
 | .int i,_,h=>by cases (show _=V.int i from h);rfl
 | .str y,_,h=>by cases (show _=V.str y from h);rfl
 | .lst l,_,⟨a,xs,e,h1,_⟩=>by subst e;exact .inl ⟨rfl,xs,h1⟩
 | .tup l,_,⟨a,xs,e,h1,_⟩=>by subst e;exact .inr (.inl ⟨rfl,xs,h1⟩)
noncomputable def Dt.isL:Dt→Bool
 | .lst _=>true
 | _=>false
noncomputable def Dt.isT:Dt→Bool
 | .tup _=>true
 | _=>false
noncomputable def Dt.isB:Dt→Bool
 | .bl _=>true
 | _=>false
noncomputable def Dt.isS:Dt→Bool
 | .str _=>true
 | _=>false
noncomputable def Dt.isN:Dt→Bool
 | .non=>true
 | _=>false
noncomputable def Dt.isI:Dt→Bool
 | .int _=>true
 | _=>false
theorem Z288:∀ N∈["NoneType", "bool", "int", "str", "list", "tuple"],∀ T∈["list", "tuple", "bool", "str", "int"],(kit0 N T).isSome=true:=by decide +kernel
theorem Dt.ty_mem(d:Dt):d.ty∈["NoneType", "bool", "int", "str", "list", "tuple"]:=by cases d <;> simp [Dt.ty]
theorem Dt.kit(d:Dt){T:String}(h:T∈["list", "tuple", "bool", "str", "int"]):(kit0 d.ty T).isSome=true:=Z288 _ d.ty_mem _ h
theorem Dt.sub_list(d:Dt):subT d.ty "list"=d.isL:=by cases d <;> (first | rfl | decide +kernel | (simp only [Dt.ty,Dt.isL];decide +kernel))
theorem Dt.sub_tuple(d:Dt):subT d.ty "tuple"=d.isT:=by cases d <;> (simp only [Dt.ty,Dt.isT];decide +kernel)
theorem Dt.sub_bool(d:Dt):subT d.ty "bool"=d.isB:=by cases d <;> (simp only [Dt.ty,Dt.isB];decide +kernel)
theorem Dt.sub_str(d:Dt):subT d.ty "str"=d.isS:=by cases d <;> (simp only [Dt.ty,Dt.isS];decide +kernel)
theorem Dt.sub_int(d:Dt):subT d.ty "int"=(d.isI || d.isB):=by cases d <;> (simp only [Dt.ty,Dt.isI,Dt.isB];decide +kernel)
theorem Dt.eq_false{d d':Dt}(h:d≠d'):Dt.eq d d'=false:=by
 cases q:Dt.eq d d' with
 | false=>rfl
 | true=>exact absurd ((Dt.eq_iff d d').mp q) h
theorem Dt.eq_non(d:Dt):Dt.eq d .non=d.isN:=by cases d <;> rfl
theorem Z44(a b:Bool):decide (V.bl a=V.bl b)=(a == b):=by cases a <;> cases b <;> rfl
theorem RelD.isNon{H:Hp}{d:Dt}{x:V}(h:RelD H d x):decide (x=V.non)=d.isN:=by
 cases d with
 | non=>cases (show x=V.non from h);rfl
 | bl b=>cases (show x=V.bl b from h);rfl
 | int i=>cases (show x=V.int i from h);rfl
 | str y=>cases (show x=V.str y from h);rfl
 | lst l=>obtain ⟨a,xs,e,_⟩:=h;subst e;rfl
 | tup l=>obtain ⟨a,xs,e,_⟩:=h;subst e;rfl
end L2

namespace RM
open PySem PySem.Spec PyProof.Rows L2
inductive NK where
 | tup | lst (m:Bool) | dic (m:Bool) (ks:List Key) | dit (m:Bool) (ks:List (List Key)) | ins (m:Bool) (C:Addr) (ns:List Str)
 | kst (K:Qd)
inductive D where
 | at (v:V) | nd (k:NK) (l:List D)
inductive T where
 | at (v:V) | nd (a:Addr) (k:NK) (l:List T)
instance:Inhabited T:=⟨.at .non⟩
instance:Inhabited D:=⟨.at .non⟩
noncomputable def NK.mut:NK→Bool
 | .tup=>false | .lst m=>m | .dic m _=>m | .dit m _=>m | .ins m _ _=>m | .kst _=>false
noncomputable def NK.out:NK→Bool
 | .kst _=>true | _=>false
theorem NK.mut_out{k:NK}(h:k.mut=true):k.out=false:=by cases k <;> first | rfl | cases h
noncomputable def NK.fz:NK→NK
 | .tup=>.tup | .lst _=>.lst false | .dic _ ks=>.dic false ks | .dit _ ks=>.dit false ks | .ins _ C ns=>.ins false C ns | .kst K=>.kst K
noncomputable def NodeOk(H:Hp)(a:Addr):NK→List V→Prop
 | .tup,vs=>H a=some (.tup vs)
 | .lst true,vs=>H a=some (.lst vs)
 | .lst false,vs=>Rd H a (.lst vs)
 | .dic _ ks,vs=>ks.length=vs.length∧ks.Nodup∧H a=some (.dK (ks.zip vs))
 | .dit _ ks,vs=>ks.length=vs.length∧ks.Nodup∧H a=some (.dT (ks.zip vs))
 | .ins _ C ns,vs=>ns.length=vs.length∧∃ dx,H a=some (.ins C dx (ns.zip vs))
 | .kst K,vs=>∃ (o:Obj) (its:Array Value) (n:Nat),K.lookup a=some o∧o.cls=.type "list"∧o.dict=none∧o.data=.seq its n∧its.size≤sizeLine∧Vals vs its.toList
theorem NodeOk.keep{H H':Hp}{a:Addr}{k:NK}{vs:List V}(h:NodeOk H a k vs)(e:k.out=true∨H' a=H a):NodeOk H' a k vs:=by
 rcases e with e | e
 ·cases k with
  | kst K=>exact h
  | _=>cases e
 cases k with
 | tup=>exact e.trans h
 | lst m=>cases m with
  | true=>exact e.trans h
  | false=>unfold NodeOk Rd at *;rw [e];exact h
 | dic m ks=>exact ⟨h.1,h.2.1,e.trans h.2.2⟩
 | dit m ks=>exact ⟨h.1,h.2.1,e.trans h.2.2⟩
 | ins m C ns=>obtain ⟨h1,dx,h2⟩:=h;exact ⟨h1,dx,e.trans h2⟩
 | kst K=>exact h
theorem NodeOk.some{H:Hp}{a:Addr}{k:NK}{vs:List V}(h:NodeOk H a k vs)(hk:k.out=false):H a≠none:=by
 cases k with
 | tup=>rw [show H a=_ from h];simp
 | lst m=>cases m with
  | true=>rw [show H a=_ from h];simp
  | false=>rcases h with h | ⟨o,h⟩ <;> (rw [h];simp)
 | dic m ks=>rw [h.2.2];simp
 | dit m ks=>rw [h.2.2];simp
 | ins m C ns=>obtain ⟨h1,dx,h2⟩:=h;rw [h2];simp
 | kst K=>cases hk
noncomputable def cl:V→V
 | .ref _=>.flt 0 | v=>v
noncomputable def T.val:T→V
 | .at v=>v | .nd a _ _=>.ref a
mutual
noncomputable def T.er:T→D
 | .at v=>.at (cl v) | .nd _ k l=>.nd k (T.ers l)
noncomputable def T.ers:List T→List D
 | []=>[] | t::r=>t.er::T.ers r
end
mutual
noncomputable def T.own:T→List Addr
 | .at _=>[] | .nd a k l=>(if k.mut then [a] else [])++T.owns l
noncomputable def T.owns:List T→List Addr
 | []=>[] | t::r=>t.own++T.owns r
end
mutual
noncomputable def T.ro:T→List Addr
 | .at _=>[] | .nd a k l=>(if k.mut || k.out then [] else [a])++T.ros l
noncomputable def T.ros:List T→List Addr
 | []=>[] | t::r=>t.ro++T.ros r
end
mutual
noncomputable def T.ok(H:Hp):T→Prop
 | .at _=>True | .nd a k l=>NodeOk H a k (l.map T.val)∧T.oks H l
noncomputable def T.oks(H:Hp):List T→Prop
 | []=>True | t::r=>t.ok H∧T.oks H r
end
mutual
noncomputable def D.fz:D→D
 | .at v=>.at v | .nd k l=>.nd k.fz (D.fzs l)
noncomputable def D.fzs:List D→List D
 | []=>[] | t::r=>t.fz::D.fzs r
end
mutual
noncomputable def D.imm:D→Bool
 | .at _=>true | .nd k l=>!k.mut && D.imms l
noncomputable def D.imms:List D→Bool
 | []=>true | t::r=>t.imm && D.imms r
end

theorem T.owns_cons{t:T}{r:List T}:T.owns (t::r)=t.own++T.owns r:=rfl
theorem T.ros_cons{t:T}{r:List T}:T.ros (t::r)=t.ro++T.ros r:=rfl
theorem T.ers_eq:∀ l:List T,T.ers l=l.map T.er
 | []=>rfl
 | t::r=>by rw [T.ers,T.ers_eq r];rfl
theorem T.oks_iff{H:Hp}:∀ {l:List T},T.oks H l↔∀ t∈l,t.ok H
 | []=>by simp [T.oks]
 | t::r=>by simp only [T.oks,T.oks_iff (l:=r),Jb,forall_eq_or_imp]
theorem T.owns_app:∀ l m:List T,T.owns (l++m)=T.owns l++T.owns m
 | [],m=>rfl
 | t::r,m=>by simp only [Jh,T.owns,T.owns_app r m,Qq]
theorem T.ros_app:∀ l m:List T,T.ros (l++m)=T.ros l++T.ros m
 | [],m=>rfl
 | t::r,m=>by simp only [Jh,T.ros,T.ros_app r m,Qq]
theorem T.oks_app{H:Hp}{l m:List T}:T.oks H (l++m)↔T.oks H l∧T.oks H m:=by
 simp only [T.oks_iff,Qe]
 exact ⟨fun h=>⟨fun t z=>h t (.inl z),fun t z=>h t (.inr z)⟩,fun h t z=>z.elim (h.1 t) (h.2 t)⟩
theorem T.mem_owns{a:Addr}:∀ {l:List T},a∈T.owns l↔∃ t∈l,a∈t.own
 | []=>by simp [T.owns]
 | t::r=>by simp only [T.owns,Qe,T.mem_owns (l:=r),Jb,exists_eq_or_imp]
theorem T.mem_ros{a:Addr}:∀ {l:List T},a∈T.ros l↔∃ t∈l,a∈t.ro
 | []=>by simp [T.ros]
 | t::r=>by simp only [T.ros,Qe,T.mem_ros (l:=r),Jb,exists_eq_or_imp]
mutual
theorem T.keep{H H':Hp}:∀ {t:T},t.ok H→(∀ a,a∈t.own∨a∈t.ro→H' a=H a)→t.ok H'
 | .at _,_,_=>trivial
 | .nd a k l,h,e=>by
  refine ⟨h.1.keep (by
   cases ko:k.out with
   | true=>exact .inl rfl
   | false =>
    refine .inr (e a ?_)
    unfold T.own T.ro
    rw [ko]
    cases k.mut <;> simp),T.keeps h.2 fun b hb=>e b ?_⟩
  ·unfold T.own T.ro
   rcases hb with hb | hb
   ·exact .inl (Qf _ hb)
   ·exact .inr (Qf _ hb)
theorem T.keeps{H H':Hp}:∀ {l:List T},T.oks H l→(∀ a,a∈T.owns l∨a∈T.ros l→H' a=H a)→T.oks H' l
 | [],_,_=>trivial
 | t::r,h,e=>by
  refine ⟨T.keep h.1 fun a z=>e a ?_,T.keeps h.2 fun a z=>e a ?_⟩
  ·unfold T.owns T.ros
   rcases z with z | z
   ·exact .inl (Qi _ z)
   ·exact .inr (Qi _ z)
  ·unfold T.owns T.ros
   rcases z with z | z
   ·exact .inl (Qf _ z)
   ·exact .inr (Qf _ z)
end
mutual
theorem T.there{H:Hp}{a:Addr}:∀ {t:T},t.ok H→(a∈t.own∨a∈t.ro)→H a≠none
 | .at _,_,z=>by simp [T.own,T.ro] at z
 | .nd b k l,h,z=>by
  unfold T.own T.ro at z
  have:(a=b∧k.out=false)∨a∈T.owns l∨a∈T.ros l:=by
   rcases z with z | z
   ·rcases Qe.mp z with z | z
    ·left
     cases hm:k.mut with
     | true=>rw [hm] at z;exact ⟨by simpa using z,NK.mut_out hm⟩
     | false=>rw [hm] at z;simp at z
    ·exact .inr (.inl z)
   ·rcases Qe.mp z with z | z
    ·left
     cases hm:(k.mut || k.out) with
     | true=>rw [hm] at z;simp at z
     | false=>rw [hm] at z;exact ⟨by simpa using z,by simp at hm;exact hm.2⟩
    ·exact .inr (.inr z)
  rcases this with ⟨rfl,ko⟩ | z
  ·exact h.1.some ko
  ·exact T.theres h.2 z
theorem T.theres{H:Hp}{a:Addr}:∀ {l:List T},T.oks H l→(a∈T.owns l∨a∈T.ros l)→H a≠none
 | [],_,z=>by simp [T.owns,T.ros] at z
 | t::r,h,z=>by
  unfold T.owns T.ros at z
  rcases z with z | z
  ·rcases Qe.mp z with z | z
   ·exact T.there h.1 (.inl z)
   ·exact T.theres h.2 (.inl z)
  ·rcases Qe.mp z with z | z
   ·exact T.there h.1 (.inr z)
   ·exact T.theres h.2 (.inr z)
end
mutual
theorem T.imm_own:∀ {t:T},t.er.imm=true→t.own=[]
 | .at _,_=>rfl
 | .nd a k l,h=>by
  simp only [T.er,D.imm,Jt,Bool.not_eq_true'] at h
  simp only [T.own,h.1,T.imms_own h.2];rfl
theorem T.imms_own:∀ {l:List T},D.imms (T.ers l)=true→T.owns l=[]
 | [],_=>rfl
 | t::r,h=>by
  simp only [T.ers,D.imms,Jt] at h
  simp only [T.owns,T.imm_own h.1,T.imms_own h.2];rfl
end


noncomputable def D.get:List Nat→D→Option D
 | [],d=>some d
 | i::p,.nd _ l=>match l[i]? with | some c=>c.get p | none=>none
 | _::_,.at _=>none
noncomputable def T.get:List Nat→T→Option T
 | [],d=>some d
 | i::p,.nd _ _ l=>match l[i]? with | some c=>c.get p | none=>none
 | _::_,.at _=>none
noncomputable def D.put(s:D):List Nat→D→D
 | [],_=>s
 | i::p,.nd k l=>match l[i]? with | some c=>.nd k (l.set i (D.put s p c)) | none=>.nd k l
 | _::_,.at v=>.at v
noncomputable def T.put(s:T):List Nat→T→T
 | [],_=>s
 | i::p,.nd a k l=>match l[i]? with | some c=>.nd a k (l.set i (T.put s p c)) | none=>.nd a k l
 | _::_,.at v=>.at v
theorem T.get_er:∀ (p:List Nat) (t:T),t.er.get p=(t.get p).map T.er
 | [],t=>rfl
 | i::p,.at v=>rfl
 | i::p,.nd a k l=>by
  simp only [T.er,D.get,T.get,T.ers_eq,Qa]
  cases e:l[i]? with
  | none=>rfl
  | some c=>exact T.get_er p c
theorem T.put_er(s:T):∀ (p:List Nat) (t:T),(T.put s p t).er=D.put s.er p t.er
 | [],t=>rfl
 | i::p,.at v=>rfl
 | i::p,.nd a k l=>by
  simp only [T.er,D.put,T.put,T.ers_eq,Qa]
  cases e:l[i]? with
  | none=>simp only [Option.map_none,T.er,T.ers_eq]
  | some c=>simp only [Option.map_some,T.er,T.ers_eq,Wa,T.put_er s p c]
theorem T.put_val{s s':T}:∀ {p:List Nat} {t:T},t.get p=some s→s'.val=s.val→(T.put s' p t).val=t.val
 | [],t,h,e=>by cases h;exact e
 | i::p,.at v,h,e=>rfl
 | i::p,.nd a k l,h,e=>by
  simp only [T.put]
  cases l[i]? <;> rfl
theorem T.get_ok{H:Hp}{s:T}:∀ {p:List Nat} {t:T},t.get p=some s→t.ok H→s.ok H
 | [],t,h,e=>by cases h;exact e
 | i::p,.at v,h,e=>by cases h
 | i::p,.nd a k l,h,e=>by
  simp only [T.get] at h
  cases q:l[i]? with
  | none=>rw [q] at h;cases h
  | some c=>rw [q] at h;exact T.get_ok h (T.oks_iff.mp e.2 c (Qg q))
theorem T.get_app:∀ (p q:List Nat) (d:T),d.get (p++q)=(d.get p).bind (T.get q)
 | [],q,d=>rfl
 | i::p,q,.at v=>rfl
 | i::p,q,.nd _ k l=>by
  simp only [Jh,T.get]
  cases e:l[i]? with
  | none=>rfl
  | some c=>exact T.get_app p q c
theorem T.owns_get{i:Nat}{c:T}:∀ {l:List T},l[i]?=some c→∃ x y,T.owns l=x++(c.own++y)∧∀ c',T.owns (l.set i c')=x++(c'.own++y):=by
 induction i with
 | zero =>
  intro l h
  match l,h with
  | t::r,h =>
   cases h
   exact ⟨[],T.owns r,rfl,fun c'=>rfl⟩
 | succ i ih =>
  intro l h
  match l,h with
  | t::r,h =>
   obtain ⟨x,y,e,f⟩:=ih (l:=r) (by simpa using h)
   exact ⟨t.own++x,y,by simp only [T.owns,e,Qq],fun c'=>by simp only [List.set_cons_succ,T.owns,f c',Qq]⟩
theorem T.ros_get{i:Nat}{c:T}:∀ {l:List T},l[i]?=some c→∃ x y,T.ros l=x++(c.ro++y)∧∀ c',T.ros (l.set i c')=x++(c'.ro++y):=by
 induction i with
 | zero =>
  intro l h
  match l,h with
  | t::r,h =>
   cases h
   exact ⟨[],T.ros r,rfl,fun c'=>rfl⟩
 | succ i ih =>
  intro l h
  match l,h with
  | t::r,h =>
   obtain ⟨x,y,e,f⟩:=ih (l:=r) (by simpa using h)
   exact ⟨t.ro++x,y,by simp only [T.ros,e,Qq],fun c'=>by simp only [List.set_cons_succ,T.ros,f c',Qq]⟩
structure Ctx(t:T)(p:List Nat)(s:T)(c r:List Addr):Prop where
 own:t.own.Perm (c++s.own)
 ro:t.ro.Perm (r++s.ro)
 own':∀ s',(T.put s' p t).own.Perm (c++s'.own)
 ro':∀ s',(T.put s' p t).ro.Perm (r++s'.ro)
 ok:∀ {H H':Hp} {s':T},t.ok H→(∀ a,a∈c∨a∈r→H' a=H a)→s'.ok H'→s'.val=s.val→(T.put s' p t).ok H'
theorem pm3{α:Type}{x y a c:List α}{k:List α}(h:a.Perm (c++k)):(x++(a++y)).Perm ((x++(c++y))++k):=by
 rw [Qq]
 refine List.Perm.append_left x ?_
 refine (h.append_right y).trans ?_
 rw [Qq,Qq]
 exact List.Perm.append_left c Wh
theorem T.ctx{s:T}:∀ {p:List Nat} {t:T},t.get p=some s→∃ c r,Ctx t p s c r
 | [],t,h=>by
  cases h
  exact ⟨[],[],.refl _,.refl _,fun _=>.refl _,fun _=>.refl _,fun _ _ h _=>h⟩
 | i::p,.at v,h=>by cases h
 | i::p,.nd a k l,h=>by
  simp only [T.get] at h
  cases q:l[i]? with
  | none=>rw [q] at h;cases h
  | some ch =>
   rw [q] at h
   obtain ⟨c,r,C⟩:=T.ctx (p:=p) h
   obtain ⟨x,y,e1,e2⟩:=T.owns_get q
   obtain ⟨x',y',f1,f2⟩:=T.ros_get q
   have put:∀ s',T.put s' (i::p) (.nd a k l)=.nd a k (l.set i (T.put s' p ch)):=fun s'=>by simp only [T.put,q]
   refine ⟨(if k.mut then [a] else [])++(x++(c++y)),(if k.mut || k.out then [] else [a])++(x'++(r++y')),?_,?_,fun s'=>?_,fun s'=>?_,fun {H H' s'} ho he hs hv=>?_⟩
   ·simp only [T.own,e1];rw [Qq];exact List.Perm.append_left _ (pm3 C.own)
   ·simp only [T.ro,f1];rw [Qq];exact List.Perm.append_left _ (pm3 C.ro)
   ·rw [put];simp only [T.own,e2];rw [Qq];exact List.Perm.append_left _ (pm3 (C.own' s'))
   ·rw [put];simp only [T.ro,f2];rw [Qq];exact List.Perm.append_left _ (pm3 (C.ro' s'))
   ·rw [put]
    have hm:=Qg q
    have hch:(T.put s' p ch).ok H':=C.ok (T.oks_iff.mp ho.2 ch hm) (fun b hb=>he b (by
     rcases hb with hb | hb
     ·exact .inl (by simp [hb])
     ·exact .inr (by simp [hb]))) hs hv
    have hvs:(l.set i (T.put s' p ch)).map T.val=l.map T.val:=by
     rw [Wa,T.put_val h hv]
     refine Jz fun j=>?_
     rw [Qm]
     by_cases hj:i=j
     ·subst hj
      rw [if_pos rfl,Qa,q,if_pos (by simpa using (Qc.mp q).1)];rfl
     ·rw [if_neg hj]
    refine ⟨?_,T.oks_iff.mpr fun t ht=>?_⟩
    ·rw [hvs]
     refine ho.1.keep ?_
     cases ko:k.out with
     | true=>exact .inl rfl
     | false =>
      refine .inr (he a ?_)
      rw [ko]
      cases k.mut <;> simp
    ·obtain ⟨j,hj⟩:=Qz.mp ht
     rw [Qm] at hj
     by_cases hij:i=j
     ·rw [if_pos hij] at hj
      split at hj
      ·cases hj;exact hch
      ·cases hj
     ·rw [if_neg hij] at hj
      have tok:=T.oks_iff.mp ho.2 t (Qg hj)
      refine T.keep tok fun b hb=>he b ?_
      rcases hb with hb | hb
      ·left
       have h2:b∈T.owns (l.set i (.at .non)):=T.mem_owns.mpr ⟨t,Qg (by rw [Qm,if_neg hij];exact hj),hb⟩
       rw [e2] at h2
       simp only [T.own,Je,Qe] at h2 ⊢
       rcases h2 with h2 | h2 <;> simp [h2]
      ·right
       have h2:b∈T.ros (l.set i (.at .non)):=T.mem_ros.mpr ⟨t,Qg (by rw [Qm,if_neg hij];exact hj),hb⟩
       rw [f2] at h2
       simp only [T.ro,Je,Qe] at h2 ⊢
       rcases h2 with h2 | h2 <;> simp [h2]
end RM

namespace RM
open PySem PySem.Spec PyProof.Rows L2
inductive DL where
 | non | own (w:Bool) (d:D) | bor (k:Nat) (p:List Nat)
inductive TL where
 | non | own (w:Bool) (t:T) | bor (k:Nat) (p:List Nat) (a:Addr)
inductive DV where
 | val (d:D) | plc (k:Nat) (p:List Nat)
inductive TV where
 | val (t:T) | plc (k:Nat) (p:List Nat) (a:Addr)
noncomputable abbrev Sd:=List DL
noncomputable abbrev Ts:=List TL
noncomputable def TL.er:TL→DL
 | .non=>.non | .own w t=>.own w t.er | .bor k p _=>.bor k p
noncomputable def TV.er:TV→DV
 | .val t=>.val t.er | .plc k p _=>.plc k p
noncomputable def TL.own1:TL→List Addr
 | .own true t=>t.own | _=>[]
noncomputable def TL.ro1:TL→List Addr
 | .own _ t=>t.ro | _=>[]
noncomputable def TL.rd1:TL→List Addr
 | .own false t=>t.own | _=>[]
noncomputable def ownS(ts:Ts):List Addr:=ts.flatMap TL.own1
noncomputable def roS(ts:Ts):List Addr:=ts.flatMap TL.ro1
noncomputable def rdS(ts:Ts):List Addr:=ts.flatMap TL.rd1
noncomputable def TV.tr:TV→List T
 | .val t=>[t] | .plc _ _ _=>[]
noncomputable def PlOk(ts:Ts)(k:Nat)(p:List Nat)(a:Addr):Prop:=∃ w t s,ts[k]?=some (.own w t)∧t.get p=some s∧s.val=.ref a
noncomputable def TL.v:TL→Option V
 | .non=>none | .own _ t=>some t.val | .bor _ _ a=>some (.ref a)
noncomputable def TvOk(ts:Ts)(v:V):TV→Prop
 | .val t=>v=t.val
 | .plc k p a=>v=.ref a∧PlOk ts k p a
structure RC where
 H0:Hp
 G:Addr→Prop
 B:Addr→Prop
 EX:L2.St→XK
 ad:Str→Addr
structure Cf(R:RC)(ix:List Nat)(hd:List (Nat×Addr))(H:Hp)(σ:L2.St)(ts:Ts)(fr:List T):Prop where
 ok:∀ w t,TL.own w t∈ts→t.ok H
 fok:T.oks H fr
 nd:(ownS ts++T.owns fr).Nodup
 sep:∀ a,a∈roS ts∨a∈T.ros fr→a∉ownS ts∧a∉T.owns fr∧¬ R.B a
 rd:∀ a,a∈rdS ts→a∉ownS ts∧a∉T.owns fr
 g:∀ a,R.G a→H a=R.H0 a∧H a≠none∧a∉ownS ts∧a∉T.owns fr
 bg:∀ a,R.B a→R.G a
 bor:∀ (j k:Nat) (p:List Nat) (a:Addr),ts[j]?=some (TL.bor k p a)→PlOk ts k p a
 ixs:∀ j∈ix,j < ts.length
 sl:∀ (i j:Nat) (s:TL) (v:V),ix[i]?=some j→ts[j]?=some s→s.v=some v→σ[i]?=some (some v)
 hdi:∀ (j:Nat) (a:Addr),(j,a)∈hd→j < ts.length
 hdx:∀ (j:Nat) (a:Addr),(j,a)∈hd→j∉ix
 len:ix.length≤σ.length
 hdn:∀ (j:Nat) (a:Addr),(j,a)∈hd→∀ (s:TL) (v:V),ts[j]?=some s→s.v=some v→v=.ref a
theorem TvOk.er_val{ts:Ts}{v:V}{tv:TV}{d:D}(h:TvOk ts v tv)(e:tv.er=.val d):∃ t,tv=.val t∧t.er=d∧v=t.val:=by
 cases tv with
 | val t=>simp only [TV.er,DV.val.injEq] at e;exact ⟨t,rfl,e,h⟩
 | plc k p a=>simp [TV.er] at e
theorem TvOk.er_plc{ts:Ts}{v:V}{tv:TV}{k:Nat}{p:List Nat}(h:TvOk ts v tv)(e:tv.er=.plc k p):∃ a,tv=.plc k p a∧v=.ref a∧PlOk ts k p a:=by
 cases tv with
 | val t=>simp [TV.er] at e
 | plc k' p' a=>simp only [TV.er,DV.plc.injEq] at e;obtain ⟨rfl,rfl⟩:=e;exact ⟨a,rfl,h.1,h.2⟩
theorem Z360{a:Addr}{ts:Ts}:a∈ownS ts↔∃ t,TL.own true t∈ts∧a∈t.own:=by
 unfold ownS
 rw [List.mem_flatMap]
 constructor
 ·rintro ⟨s,hs,h⟩
  cases s with
  | own w t=>cases w with
   | true=>exact ⟨t,hs,h⟩
   | false=>simp [TL.own1] at h
  | _=>simp [TL.own1] at h
 ·rintro ⟨t,ht,h⟩
  exact ⟨_,ht,h⟩
theorem Z364{a:Addr}{ts:Ts}:a∈roS ts↔∃ w t,TL.own w t∈ts∧a∈t.ro:=by
 unfold roS
 rw [List.mem_flatMap]
 constructor
 ·rintro ⟨s,hs,h⟩
  cases s with
  | own w t=>exact ⟨w,t,hs,h⟩
  | _=>simp [TL.ro1] at h
 ·rintro ⟨w,t,ht,h⟩
  exact ⟨_,ht,h⟩
theorem Z362{a:Addr}{ts:Ts}:a∈rdS ts↔∃ t,TL.own false t∈ts∧a∈t.own:=by
 unfold rdS
 rw [List.mem_flatMap]
 constructor
 ·rintro ⟨s,hs,h⟩
  cases s with
  | own w t=>cases w with
   | false=>exact ⟨t,hs,h⟩
   | true=>simp [TL.rd1] at h
  | _=>simp [TL.rd1] at h
 ·rintro ⟨t,ht,h⟩
  exact ⟨_,ht,h⟩
section
variable {R:RC}{ix:List Nat}{hd:List (Nat×Addr)}{H:Hp}{σ:L2.St}{ts:Ts}{fr:List T}
theorem Cf.fresh(C:Cf R ix hd H σ ts fr){a:Addr}(h:H a=none):a∉ownS ts∧a∉roS ts∧a∉rdS ts∧a∉T.owns fr∧a∉T.ros fr∧¬ R.G a:=by
 refine ⟨fun z=>?_,fun z=>?_,fun z=>?_,fun z=>?_,fun z=>?_,fun z=>(C.g a z).2.1 h⟩
 ·obtain ⟨t,ht,z⟩:=Z360.mp z;exact T.there (C.ok _ t ht) (.inl z) h
 ·obtain ⟨w,t,ht,z⟩:=Z364.mp z;exact T.there (C.ok _ t ht) (.inr z) h
 ·obtain ⟨t,ht,z⟩:=Z362.mp z;exact T.there (C.ok _ t ht) (.inl z) h
 ·exact T.theres C.fok (.inl z) h
 ·exact T.theres C.fok (.inr z) h
theorem Cf.at(C:Cf R ix hd H σ ts fr)(v:V):Cf R ix hd H σ ts (.at v::fr) :=
 ⟨C.ok,⟨trivial,C.fok⟩,by simpa [T.owns,T.own] using C.nd,by simpa [T.owns,T.own,T.ros,T.ro] using C.sep,by simpa [T.owns,T.own] using C.rd,by simpa [T.owns,T.own] using C.g,C.bg,C.bor,C.ixs,C.sl,C.hdi,C.hdx,C.len,C.hdn⟩
theorem Cf.less{fr':List T}{x:List Addr}(C:Cf R ix hd H σ ts fr)(ho:T.oks H fr')(h1:(T.owns fr).Perm (T.owns fr'++x))(h2:∀ a,a∈T.ros fr'→a∈T.ros fr∨a∈roS ts∨a∈x):Cf R ix hd H σ ts fr':=by
 have m1:∀ a,a∈T.owns fr'→a∈T.owns fr:=fun a z=>h1.mem_iff.mpr (Qi _ z)
 have nd:=(List.Perm.append_left (ownS ts) h1).nodup_iff.mp C.nd
 rw [← Qq] at nd
 have nd1:=(Qj.mp nd)
 refine ⟨C.ok,ho,nd1.1,fun a z=>?_,fun a z=>⟨(C.rd a z).1,fun q=>(C.rd a z).2 (m1 a q)⟩,fun a z=>⟨(C.g a z).1,(C.g a z).2.1,(C.g a z).2.2.1,fun q=>(C.g a z).2.2.2 (m1 a q)⟩,C.bg,C.bor,C.ixs,C.sl,C.hdi,C.hdx,C.len,C.hdn⟩
 have old:a∈roS ts∨a∈T.ros fr→a∉ownS ts∧a∉T.owns fr'∧¬ R.B a:=fun z=>⟨(C.sep a z).1,fun q=>(C.sep a z).2.1 (m1 a q),(C.sep a z).2.2⟩
 rcases z with z | z
 ·exact old (.inl z)
 ·rcases h2 a z with z | z | z
  ·exact old (.inr z)
  ·exact old (.inl z)
  ·refine ⟨fun q=>nd1.2.2 a (Qi _ q) a z rfl,fun q=>nd1.2.2 a (Qf _ q) a z rfl,fun q=>?_⟩
   exact (C.g a (C.bg a q)).2.2.2 (h1.mem_iff.mpr (Qf _ z))
theorem Cf.drop{t:T}(C:Cf R ix hd H σ ts (t::fr)):Cf R ix hd H σ ts fr :=
 C.less (x:=t.own) C.fok.2 (by rw [T.owns_cons];exact Wh) fun a z=>.inl (by rw [T.ros_cons];exact Qf _ z)
theorem Cf.drops{l:List T}(C:Cf R ix hd H σ ts (l++fr)):Cf R ix hd H σ ts fr:=by
 induction l with
 | nil=>exact C
 | cons t r ih=>exact ih C.drop
end
end RM

namespace RM
open PySem PySem.Spec PyProof.Rows L2
inductive ER(α:Type) where
 | ok (a:α) (s:Sd) | ex (C:Str) (s:Sd) | no
inductive SR where
 | nx (s:Sd) | rt (r:DV) (s:Sd) | bk (s:Sd) | ct (s:Sd) | ex (C:Str) (s:Sd) | no
noncomputable abbrev EF:=Sd→ER DV
noncomputable abbrev AF:=Sd→ER (List DV)
noncomputable abbrev BF:=Sd→ER Bool
noncomputable abbrev SF:=Sd→SR
noncomputable def trs(tvs:List TV):List T:=tvs.flatMap TV.tr
inductive TvsOk(ts:Ts):List V→List TV→Prop where
 | nil:TvsOk ts [] []
 | cons {v:V} {tv:TV} {vs:List V} {tvs:List TV}:TvOk ts v tv→TvsOk ts vs tvs→TvsOk ts (v::vs) (tv::tvs)
section
variable (R:RC)(ix:List Nat)
noncomputable def lE(f:EF):TE:=fun σ H Q=>∃ hd ts fr,Cf R ix hd H σ ts fr∧match f (ts.map TL.er) with
 | .ok r s'=>∀ H' ts' tv v,ts'.map TL.er=s'→tv.er=r→TvOk ts' v tv→Cf R ix hd H' σ ts' (tv.tr++fr)→Q v H'
 | .ex C s'=>∀ H' ts',ts'.map TL.er=s'→Cf R ix hd H' σ ts' fr→R.EX σ (.ref (R.ad C)) none H'
 | .no=>False
noncomputable def lA(f:AF):TA:=fun σ H Q=>∃ hd ts fr,Cf R ix hd H σ ts fr∧match f (ts.map TL.er) with
 | .ok r s'=>∀ H' ts' tvs vs,ts'.map TL.er=s'→tvs.map TV.er=r→TvsOk ts' vs tvs→Cf R ix hd H' σ ts' (trs tvs++fr)→Q vs H'
 | .ex C s'=>∀ H' ts',ts'.map TL.er=s'→Cf R ix hd H' σ ts' fr→R.EX σ (.ref (R.ad C)) none H'
 | .no=>False
noncomputable def lT(f:BF):TT:=fun σ H Q=>∃ hd ts fr,Cf R ix hd H σ ts fr∧match f (ts.map TL.er) with
 | .ok r s'=>∀ H' ts',ts'.map TL.er=s'→Cf R ix hd H' σ ts' fr→Q r H'
 | .ex C s'=>∀ H' ts',ts'.map TL.er=s'→Cf R ix hd H' σ ts' fr→R.EX σ (.ref (R.ad C)) none H'
 | .no=>False
noncomputable def lS(f:SF):L2.TS:=fun D σ H=>∃ hd ts fr,Cf R ix hd H σ ts fr∧match f (ts.map TL.er) with
 | .nx s'=>∀ H' σ' ts',ts'.map TL.er=s'→Cf R ix hd H' σ' ts' fr→D.nx σ' H'
 | .rt r s'=>∀ H' σ' ts' tv v,ts'.map TL.er=s'→tv.er=r→TvOk ts' v tv→Cf R ix hd H' σ' ts' (tv.tr++fr)→D.rt v H'
 | .bk s'=>∀ H' σ' ts',ts'.map TL.er=s'→Cf R ix hd H' σ' ts' fr→D.bk σ' H'
 | .ct s'=>∀ H' σ' ts',ts'.map TL.er=s'→Cf R ix hd H' σ' ts' fr→D.ct σ' H'
 | .ex C s'=>∀ H' σ' ts',ts'.map TL.er=s'→Cf R ix hd H' σ' ts' fr→R.EX σ' (.ref (R.ad C)) none H'
 | .no=>False
end
section
variable {X:Cx}{e:Expr}{es:List Expr}{st:Stmt}{sts:List Stmt}
theorem peM{t t':TE}(h:PE X e t)(m:∀ σ H Q,t' σ H Q→t σ H Q):PE X e t':=fun pins s σ H Q I q=>h pins s σ H Q I (m _ _ _ q)
theorem paM{t t':TA}(h:PA X es t)(m:∀ σ H Q,t' σ H Q→t σ H Q):PA X es t':=fun pos pins s σ H Q I q=>h pos pins s σ H Q I (m _ _ _ q)
theorem ptM{t t':TT}(h:PT X e t)(m:∀ σ H Q,t' σ H Q→t σ H Q):PT X e t':=fun pins s σ H Q I q=>h pins s σ H Q I (m _ _ _ q)
theorem psM{t t':L2.TS}(h:PS X st t)(m:∀ D σ H,t' D σ H→t D σ H):PS X st t':=fun pins s σ H D I q=>h pins s σ H D I (m _ _ _ q)
theorem pssM{t t':L2.TS}(h:PSs X sts t)(m:∀ D σ H,t' D σ H→t D σ H):PSs X sts t':=fun pins s σ H D I q=>h pins s σ H D I (m _ _ _ q)
end

noncomputable def eC(v:V):EF:=fun s=>.ok (.val (.at v)) s
section
variable {R:RC}{ix:List Nat}{hd:List (Nat×Addr)}{X:Cx}{e:Expr}
theorem lE_C{v:V}(hc:cl v=v)(σ:L2.St)(H:Hp)(Q:VK)(h:lE R ix (eC v) σ H Q):tC v σ H Q:=by
 obtain ⟨hd,ts,fr,C,h⟩:=h
 exact h H ts (.val (.at v)) v rfl (by simp only [TV.er,T.er,hc]) rfl (C.at v)
theorem re_C{v:V}(h:PE X e (tC v))(hc:cl v=v:=by rfl):PE X e (lE R ix (eC v)):=peM h (lE_C hc)

noncomputable def dref(s:Sd):DV→Option D
 | .val d=>some d
 | .plc k p=>match s[k]? with | some (.own _ d)=>d.get p | _=>none
theorem Z103{H:Hp}{σ:L2.St}{ts:Ts}{fr:List T}{tv:TV}{v:V}{d:D}(C:Cf R ix hd H σ ts fr)(hv:TvOk ts v tv)(ho:T.oks H tv.tr)(h:dref (ts.map TL.er) tv.er=some d) :
  ∃ t:T,t.er=d∧t.val=v∧t.ok H∧(tv=.val t∨∃ k p a w u,tv=.plc k p a∧ts[k]?=some (TL.own w u)∧u.get p=some t):=by
 cases tv with
 | val t =>
  cases h
  exact ⟨t,rfl,hv.symm,ho.1,.inl rfl⟩
 | plc k p a =>
  obtain ⟨rfl,w,t,s,h1,h2,h3⟩:=hv
  simp only [TV.er,dref,Qa,h1,Option.map_some,TL.er,T.get_er,h2,Option.some.injEq] at h
  exact ⟨s,h,h3,T.get_ok h2 (C.ok w t (Qg h1)),.inr ⟨k,p,a,w,t,rfl,h1,h2⟩⟩

noncomputable def mkV(k:Nat)(p:List Nat)(d:D):DV:=if d.imm then .val d else .plc k p
noncomputable def eVar(j:Nat):EF:=fun s=>match s[j]? with
 | some (.own _ d)=>.ok (mkV j [] d) s
 | some (.bor k p)=>match dref s (.plc k p) with | some d=>.ok (mkV k p d) s | none=>.no
 | _=>.no
theorem Cf.copy{H:Hp}{σ:L2.St}{ts:Ts}{fr:List T}{w:Bool}{t s:T}(C:Cf R ix hd H σ ts fr)(hm:TL.own w t∈ts){p:List Nat}(hp:t.get p=some s)(hi:s.own=[]):Cf R ix hd H σ ts (s::fr):=by
 have ho:s.ok H:=T.get_ok hp (C.ok w t hm)
 obtain ⟨c,r,K⟩:=T.ctx hp
 have hro:∀ a,a∈s.ro→a∈roS ts:=fun a z=>Z364.mpr ⟨w,t,hm,K.ro.mem_iff.mpr (Qf _ z)⟩
 refine ⟨C.ok,⟨ho,C.fok⟩,?_,fun a z=>?_,?_,?_,C.bg,C.bor,C.ixs,C.sl,C.hdi,C.hdx,C.len,C.hdn⟩
 ·rw [T.owns_cons,hi];exact C.nd
 ·rw [T.owns_cons,hi]
  refine C.sep a ?_
  rcases z with z | z
  ·exact .inl z
  ·rw [T.ros_cons] at z
   rcases Qe.mp z with z | z
   ·exact .inl (hro a z)
   ·exact .inr z
 ·rw [T.owns_cons,hi];exact C.rd
 ·rw [T.owns_cons,hi];exact C.g
theorem Z677(t:T)(h:t.er.imm=false):∃ a,t.val=.ref a:=by
 cases t with
 | «at» v=>cases h
 | nd a k l=>exact ⟨a,rfl⟩
theorem mk_ok{H:Hp}{σ:L2.St}{ts:Ts}{fr:List T}{w:Bool}{t s:T}{k:Nat}{p:List Nat}(C:Cf R ix hd H σ ts fr)(h1:ts[k]?=some (TL.own w t))(hp:t.get p=some s) :
  ∃ tv,tv.er=mkV k p s.er∧TvOk ts s.val tv∧Cf R ix hd H σ ts (tv.tr++fr):=by
 unfold mkV
 cases hi:s.er.imm with
 | true=>exact ⟨.val s,rfl,rfl,C.copy (Qg h1) hp (T.imm_own hi)⟩
 | false =>
  obtain ⟨a,ha⟩:=Z677 s hi
  exact ⟨.plc k p a,rfl,⟨ha,w,t,s,h1,hp,ha⟩,C⟩
theorem Z300{i j:Nat}(hix:ix[i]?=some j)(σ:L2.St)(H:Hp)(Q:VK)(h:lE R ix (eVar j) σ H Q):tVar i σ H Q:=by
 obtain ⟨hd,ts,fr,C,h⟩:=h
 unfold eVar at h
 rw [Qa] at h
 cases e:ts[j]? with
 | none=>rw [e] at h;exact h.elim
 | some s =>
  rw [e] at h
  cases s with
  | non=>exact h.elim
  | own w t =>
   obtain ⟨tv,e1,e2,e3⟩:=mk_ok C e (show t.get []=some t from rfl)
   exact ⟨t.val,C.sl i j _ _ hix e rfl,h H ts tv t.val rfl e1 e2 e3⟩
  | bor k p a =>
   obtain ⟨w,t,s,h1,h2,h3⟩:=C.bor j k p a e
   have hd:dref (ts.map TL.er) (.plc k p)=some s.er:=by simp only [dref,Qa,h1,Option.map_some,TL.er,T.get_er,h2]
   simp only [Option.map_some,TL.er,hd] at h
   obtain ⟨tv,e1,e2,e3⟩:=mk_ok C h1 h2
   rw [h3] at e2
   exact ⟨.ref a,C.sl i j _ _ hix e rfl,h H ts tv (.ref a) rfl e1 e2 e3⟩
theorem Z519{i j:Nat}(h:PE X e (tVar i))(hix:ix[i]?=some j):PE X e (lE R ix (eVar j)):=peM h (Z300 hix)
end
end RM

namespace RM
open PySem PySem.Spec PyProof.Rows L2

noncomputable def aNil:AF:=fun s=>.ok [] s
noncomputable def unh(n k:Nat)(p:List Nat)(s:Sd):Option Sd:=match s.getLast? with
 | some (.bor k' p')=>if k'=k∧p'=p∧s.length=n + 1 then some s.dropLast else none
 | _=>none
noncomputable def unx(n:Nat)(s:Sd):Option Sd:=match s.getLast? with
 | some (.own _ _)=>none
 | some _=>if s.length=n + 1 then some s.dropLast else none
 | none=>none
noncomputable def aCons(f:EF)(g:AF):AF:=fun s=>match f s with
 | .ok (.val d) s1=>(match g s1 with | .ok rs s2=>.ok (.val d::rs) s2 | .ex C s2=>.ex C s2 | .no=>.no)
 | .ok (.plc k p) s1=>(match g (s1++[.bor k p]) with
  | .ok rs s2=>(match unh s1.length k p s2 with | some s3=>.ok (.plc k p::rs) s3 | none=>.no)
  | .ex C s2=>(match unx s1.length s2 with | some s3=>.ex C s3 | none=>.no) | .no=>.no)
 | .ex C s1=>.ex C s1
 | .no=>.no
section
variable {R:RC}{ix:List Nat}{hd:List (Nat×Addr)}{X:Cx}{e:Expr}{H:Hp}{σ:L2.St}{ts:Ts}{fr:List T}
theorem Z442(a b:Ts):ownS (a++b)=ownS a++ownS b:=by simp [ownS]
theorem Z528(a b:Ts):roS (a++b)=roS a++roS b:=by simp [roS]
theorem Z505(a b:Ts):rdS (a++b)=rdS a++rdS b:=by simp [rdS]
theorem PlOk.app{a:Ts}{k:Nat}{p:List Nat}{x:Addr}(h:PlOk a k p x)(b:Ts):PlOk (a++b) k p x:=by
 obtain ⟨w,t,s,h1,h2,h3⟩:=h
 exact ⟨w,t,s,by rw [Qo (Qc.mp h1).1];exact h1,h2,h3⟩
theorem Cf.hide{k:Nat}{p:List Nat}{a:Addr}(C:Cf R ix hd H σ ts fr)(h:PlOk ts k p a):Cf R ix (hd++[(ts.length,a)]) H σ (ts++[.bor k p a]) fr:=by
 have e1:ownS (ts++[.bor k p a])=ownS ts:=by rw [Z442];simp [ownS,TL.own1]
 have e2:roS (ts++[.bor k p a])=roS ts:=by rw [Z528];simp [roS,TL.ro1]
 have e3:rdS (ts++[.bor k p a])=rdS ts:=by rw [Z505];simp [rdS,TL.rd1]
 refine ⟨fun w t z=>?_,C.fok,by rw [e1];exact C.nd,by rw [e1,e2];exact C.sep,by rw [e1,e3];exact C.rd,by rw [e1];exact C.g,C.bg,fun j k' p' a' z=>?_,fun j z=>by simpa using Wn (C.ixs j z),fun i j s v z1 z2 z3=>?_,fun j b z=>?_,fun j b z=>?_,C.len,fun j b z s v z2 z3=>?_⟩
 ·rcases Qe.mp z with z | z
  ·exact C.ok w t z
  ·simp at z
 ·by_cases hj:j < ts.length
  ·rw [Qo hj] at z
   exact (C.bor j k' p' a' z).app _
  ·rw [Jd (by omega)] at z
   have:j - ts.length=0:=by
    have:=(Qc.mp z).1
    simp at this;omega
   rw [this] at z
   cases z
   exact h.app _
 ·have:=C.ixs j (Qg z1)
  rw [Qo this] at z2
  exact C.sl i j s v z1 z2 z3
 ·rcases Qe.mp z with z | z
  ·simpa using Wn (C.hdi j b z)
  ·simp only [Qy,Prod.mk.injEq] at z
   simp [z.1]
 ·rcases Qe.mp z with z | z
  ·exact C.hdx j b z
  ·simp only [Qy,Prod.mk.injEq] at z
   rw [z.1]
   exact fun q=>absurd (C.ixs _ q) (Jw _)
 ·rcases Qe.mp z with z | z
  ·by_cases hj:j < ts.length
   ·rw [Qo hj] at z2
    exact C.hdn j b z s v z2 z3
   ·exact absurd (C.hdi j b z) hj
  ·simp only [Qy,Prod.mk.injEq] at z
   obtain ⟨rfl,rfl⟩:=z
   rw [Jd (Qu _),Nat.sub_self] at z2
   cases z2
   cases z3
   rfl
theorem Cf.pop{x:TL}{hm:List (Nat×Addr)}(C:Cf R ix (hd++hm) H σ (ts++[x]) fr)(hx:∀ w t,x≠.own w t)(hi:∀ j∈ix,j < ts.length)(hj:∀ j a,(j,a)∈hd→j < ts.length):Cf R ix hd H σ ts fr∧∀ k p a,x=.bor k p a→PlOk ts k p a:=by
 have e1:ownS (ts++[x])=ownS ts:=by rw [Z442];cases x <;> simp_all [ownS,TL.own1]
 have e2:roS (ts++[x])=roS ts:=by rw [Z528];cases x <;> simp_all [roS,TL.ro1]
 have e3:rdS (ts++[x])=rdS ts:=by rw [Z505];cases x <;> simp_all [rdS,TL.rd1]
 have dn:∀ {k':Nat} {p':List Nat} {a':Addr},PlOk (ts++[x]) k' p' a'→PlOk ts k' p' a':=by
  rintro k' p' a' ⟨w,t,s,h1,h2,h3⟩
  refine ⟨w,t,s,?_,h2,h3⟩
  by_cases hj:k' < ts.length
  ·rwa [Qo hj] at h1
  ·rw [Jd (by omega)] at h1
   have:k' - ts.length=0:=by
    have:=(Qc.mp h1).1
    simp at this;omega
   rw [this] at h1
   exact absurd (Option.some.inj h1) (hx w t)
 refine ⟨⟨fun w t z=>C.ok w t (Qi _ z),C.fok,by rw [← e1];exact C.nd,by rw [← e1,← e2];exact C.sep,by rw [← e1,← e3];exact C.rd,by rw [← e1];exact C.g,C.bg,fun j k' p' a' z=>?_,hi,fun i j s v z1 z2 z3=>?_,hj,fun j b z=>C.hdx j b (Qi _ z),C.len,fun j b z s v z2 z3=>C.hdn j b (Qi _ z) s v (by rw [Qo (Qc.mp z2).1];exact z2) z3⟩,?_⟩
 ·refine dn (C.bor j k' p' a' ?_)
  rw [Qo (Qc.mp z).1];exact z
 ·refine C.sl i j s v z1 ?_ z3
  rw [Qo (Qc.mp z2).1];exact z2
 ·rintro k p a rfl
  refine dn (C.bor ts.length k p a ?_)
  rw [Jd (Qu _),Nat.sub_self];rfl
theorem Z114{s:Sd}{l:DL}(h:ts.map TL.er=s++[l]):∃ ts0 t,ts=ts0++[t]∧ts0.map TL.er=s∧t.er=l:=by
 have hne:ts≠[]:=by rintro rfl;simp at h
 refine ⟨ts.dropLast,ts.getLast hne,(List.dropLast_concat_getLast hne).symm,?_,?_⟩
 ·rw [List.map_dropLast,h];simp
 ·have:=congrArg List.getLast? h
  rw [List.getLast?_map,List.getLast?_eq_some_getLast hne] at this
  simpa using this
theorem Z641{s s':Sd}{n k:Nat}{p:List Nat}(h:unh n k p s=some s'):s=s'++[.bor k p]∧s'.length=n:=by
 unfold unh at h
 split at h
 case h_1 k' p' e =>
  split at h
  case isTrue q =>
   obtain ⟨rfl,rfl,q⟩:=q
   cases h
   obtain ⟨l,rfl⟩:=List.getLast?_eq_some_iff.mp e
   simp at q ⊢
   exact q
  case isFalse=>cases h
 case h_2=>cases h
theorem Z645{n:Nat}{s s':Sd}(h:unx n s=some s'):∃ x,s=s'++[x]∧(∀ w d,x≠.own w d)∧s'.length=n:=by
 unfold unx at h
 split at h
 case h_1=>cases h
 case h_2 x e q =>
  split at h
  case isTrue z =>
   cases h
   obtain ⟨l,rfl⟩:=List.getLast?_eq_some_iff.mp q
   simp at z
   exact ⟨x,by simp,e,by simp [z]⟩
  case isFalse=>cases h
 case h_3=>cases h
theorem Z115{t:TL}(h:∀ w d,t.er≠.own w d):∀ w u,t≠.own w u:=by
 rintro w u rfl
 exact h w u.er rfl
theorem TvOk.pop{x:TL}{v:V}{tv:TV}(h:TvOk (ts++[x]) v tv)(hx:∀ w t,x≠.own w t):TvOk ts v tv:=by
 cases tv with
 | val t=>exact h
 | plc k p a =>
  obtain ⟨rfl,w,t,s,h1,h2,h3⟩:=h
  refine ⟨rfl,w,t,s,?_,h2,h3⟩
  by_cases hj:k < ts.length
  ·rwa [Qo hj] at h1
  ·rw [Jd (by omega)] at h1
   have:k - ts.length=0:=by
    have:=(Qc.mp h1).1
    simp at this;omega
   rw [this] at h1
   exact absurd (Option.some.inj h1) (hx w t)
theorem TvsOk.pop{x:TL}(hx:∀ w t,x≠.own w t):∀ {vs:List V} {tvs:List TV},TvsOk (ts++[x]) vs tvs→TvsOk ts vs tvs
 | _,_,.nil=>.nil
 | _,_,.cons h r=>.cons (h.pop hx) (TvsOk.pop hx r)
theorem Z337{s:Sd}(h:ts.map TL.er=s):ts.length=s.length:=by rw [← h];simp
theorem Z295(σ:L2.St)(H:Hp)(Q:List V→Hp→Prop)(h:lA R ix aNil σ H Q):tNil σ H Q:=by
 obtain ⟨hd,ts,fr,C,h⟩:=h
 exact h H ts [] [] rfl rfl .nil C
theorem Z292{f:EF}{g:AF}(σ:L2.St)(H:Hp)(Q:List V→Hp→Prop)(h:lA R ix (aCons f g) σ H Q):tCons (lE R ix f) (lA R ix g) σ H Q:=by
 obtain ⟨hd,ts,fr,C,h⟩:=h
 refine ⟨hd,ts,fr,C,?_⟩
 unfold aCons at h
 cases ef:f (ts.map TL.er) with
 | no=>rw [ef] at h;exact h
 | ex E s1=>rw [ef] at h;exact h
 | ok r s1 =>
  rw [ef] at h
  intro H1 ts1 tv v e1 e2 hv C1
  cases r with
  | val d =>
   obtain ⟨t,rfl,rfl,rfl⟩:=hv.er_val e2
   refine ⟨hd,ts1,t::fr,C1,?_⟩
   rw [e1]
   dsimp only at h
   cases eg:g s1 with
   | no=>rw [eg] at h;exact h
   | ex E s2=>rw [eg] at h;intro H2 ts2 e3 C2;exact h H2 ts2 e3 C2.drop
   | ok rs s2 =>
    rw [eg] at h
    intro H2 ts2 tvs vs e3 e4 hvs C2
    refine h H2 ts2 (.val t::tvs) (t.val::vs) e3 (by simp [TV.er,e4]) (.cons rfl hvs) ?_
    refine C2.less (x:=[]) ?_ ?_ ?_
    ·exact ⟨(T.oks_app.mp C2.fok).2.1,T.oks_app.mpr ⟨(T.oks_app.mp C2.fok).1,(T.oks_app.mp C2.fok).2.2⟩⟩
    ·show (T.owns (trs tvs++t::fr)).Perm (T.owns (t::(trs tvs++fr))++[])
     rw [Jl,T.owns_app,T.owns_cons,T.owns_cons,T.owns_app]
     rw [← Qq,← Qq]
     exact List.Perm.append_right _ Wh
    ·intro a z
     left
     have z:a∈T.ros (t::(trs tvs++fr)):=z
     rw [T.ros_app,T.ros_cons]
     rw [T.ros_cons,T.ros_app] at z
     simp only [Qe] at z ⊢
     rcases z with z | z | z <;> simp [z]
  | plc k p =>
   obtain ⟨a,rfl,rfl,hp⟩:=hv.er_plc e2
   refine ⟨hd++[(ts1.length,a)],ts1++[.bor k p a],fr,C1.hide hp,?_⟩
   rw [Qv,e1]
   show (match g (s1++[.bor k p]) with | .ok r s'=>_ | .ex C s'=>_ | .no=>_)
   dsimp only at h
   cases eg:g (s1++[.bor k p]) with
   | no=>rw [eg] at h;exact h
   | ex E s2 =>
    rw [eg] at h
    intro H2 ts2 e3 C2
    dsimp only at h
    cases eu:unx s1.length s2 with
    | none=>rw [eu] at h;exact h.elim
    | some s3 =>
     rw [eu] at h
     obtain ⟨x,rfl,hx',hn⟩:=Z645 eu
     obtain ⟨ts3,y,rfl,e4,rfl⟩:=Z114 e3
     have hln:ts3.length=ts1.length:=by rw [Z337 e4,hn,Z337 e1]
     exact h H2 ts3 e4 (C2.pop (Z115 hx') (fun j hj=>by rw [hln];exact C1.ixs j hj) fun j b hj=>by rw [hln];exact C1.hdi j b hj).1
   | ok rs s2 =>
    rw [eg] at h
    intro H2 ts2 tvs vs e3 e4 hvs C2
    dsimp only at h
    cases eu:unh s1.length k p s2 with
    | none=>rw [eu] at h;exact h.elim
    | some s3 =>
     rw [eu] at h
     obtain ⟨rfl,hn⟩:=Z641 eu
     obtain ⟨ts3,y,rfl,e5,e6⟩:=Z114 e3
     obtain ⟨b,rfl⟩:∃ b,y=.bor k p b:=by
      cases y with
      | bor k' p' b=>simp only [TL.er,DL.bor.injEq] at e6;obtain ⟨rfl,rfl⟩:=e6;exact ⟨b,rfl⟩
      | _=>simp [TL.er] at e6
     have hln:ts3.length=ts1.length:=by rw [Z337 e5,hn,Z337 e1]
     obtain rfl:b=a:=by
      have:=C2.hdn ts1.length a (Qf _ (by simp)) (.bor k p b) (.ref b) (by rw [← hln,Jd (Qu _),Nat.sub_self];rfl) rfl
      cases this
      rfl
     obtain ⟨C3,hpl⟩:=C2.pop (by intro w t z;cases z) (fun j hj=>by rw [hln];exact C1.ixs j hj) fun j b hj=>by rw [hln];exact C1.hdi j b hj
     exact h H2 ts3 (.plc k p b::tvs) (.ref b::vs) e5 (by simp [TV.er,e4]) (.cons ⟨rfl,hpl k p b rfl⟩ (hvs.pop (by intro w t z;cases z))) C3
theorem Z503:PA X [] (lA R ix aNil):=paM Z446 Z295
theorem Z502{es:List Expr}{f:EF}{g:AF}(he:PE X e (lE R ix f))(hr:PA X es (lA R ix g))(hs:starEach (e::es) X.env=(false,eval e X.env)::starEach es X.env:=by rfl):PA X (e::es) (lA R ix (aCons f g)) :=
 paM (Z445 he hr hs) Z292
end
end RM

namespace RM
open PySem PySem.Spec PyProof.Rows L2
noncomputable def drefs(s:Sd):List DV→Option (List D)
 | []=>some []
 | r::rs=>match dref s r,drefs s rs with | some d,some ds=>some (d::ds) | _,_=>none
structure NewOk(H H':Hp)(l:List T)(t:T):Prop where
 ok:t.ok H'
 nd:t.own.Nodup
 own:∀ a∈t.own,H a=none
 ro:∀ a∈t.ro,H a=none∨a∈T.ros l
 sep:∀ a∈t.ro,a∉t.own
 keep:∀ a,H a≠none→H' a=H a
noncomputable def gNw(h:List D→Option D):List V→Hp→VK→Prop:=fun vs H Q=>∃ l:List T,T.oks H l∧l.map T.val=vs∧∃ d,h (T.ers l)=some d∧∀ t H',t.er=d→NewOk H H' l t→Q t.val H'
noncomputable def eNw(h:List D→Option D)(f:AF):EF:=fun s=>match f s with
 | .ok rs s1=>(match drefs s1 rs with | some ds=>(match h ds with | some d=>.ok (.val d) s1 | none=>.no) | none=>.no)
 | .ex C s1=>.ex C s1
 | .no=>.no
section
variable {R:RC}{ix:List Nat}{hd:List (Nat×Addr)}{X:Cx}{e:Expr}{H H':Hp}{σ:L2.St}{ts:Ts}{fr:List T}
theorem NewOk.atom{l:List T}(v:V):NewOk H H l (.at v):=⟨trivial,Wo,by simp [T.own],by simp [T.ro],by simp [T.ro],fun _ _=>rfl⟩
theorem Z105(C:Cf R ix hd H σ ts fr):∀ {tvs:List TV} {vs:List V} {ds:List D},TvsOk ts vs tvs→T.oks H (trs tvs)→drefs (ts.map TL.er) (tvs.map TV.er)=some ds →
  ∃ l:List T,T.ers l=ds∧l.map T.val=vs∧T.oks H l∧∀ a∈T.ros l,a∈roS ts∨a∈T.ros (trs tvs)
 | [],_,_,.nil,_,h=>by cases h;exact ⟨[],rfl,rfl,trivial,by simp [T.ros]⟩
 | tv::tvs,_,_,.cons hv hr,ho,h=>by
  simp only [Ql,drefs] at h
  cases e1:dref (ts.map TL.er) tv.er with
  | none=>simp [e1] at h
  | some d =>
   cases e2:drefs (ts.map TL.er) (tvs.map TV.er) with
   | none=>simp [e1,e2] at h
   | some ds =>
    simp only [e1,e2,Option.some.injEq] at h
    subst h
    have ho':T.oks H (tv.tr++trs tvs):=ho
    obtain ⟨t,t1,t2,t3,t4⟩:=Z103 C hv (T.oks_app.mp ho').1 e1
    obtain ⟨l,l1,l2,l3,l4⟩:=Z105 C hr (T.oks_app.mp ho').2 e2
    refine ⟨t::l,by rw [T.ers,t1,l1],by simp [t2,l2],⟨t3,l3⟩,fun a z=>?_⟩
    show a∈roS ts∨a∈T.ros (tv.tr++trs tvs)
    rw [T.ros_app,Qe]
    rw [T.ros_cons] at z
    rcases Qe.mp z with z | z
    ·rcases t4 with rfl | ⟨k,p,b,w,u,rfl,h1,h2⟩
     ·exact .inr (.inl (by simpa [TV.tr,T.ros] using z))
     ·obtain ⟨c,r,K⟩:=T.ctx h2
      exact .inl (Z364.mpr ⟨w,u,Qg h1,K.ro.mem_iff.mpr (Qf _ z)⟩)
    ·rcases l4 a z with z | z
     ·exact .inl z
     ·exact .inr (.inr z)
theorem Cf.new{l m:List T}{t:T}(C:Cf R ix hd H σ ts (m++fr))(N:NewOk H H' l t)(hl:∀ a∈T.ros l,a∈roS ts∨a∈T.ros m):Cf R ix hd H' σ ts (t::fr):=by
 have Cd:=C.drops
 have kp:∀ a,H a≠none→H' a=H a:=N.keep
 have nown:∀ a∈t.own,a∉ownS ts∧a∉roS ts∧a∉rdS ts∧a∉T.owns fr∧a∉T.ros fr∧¬ R.G a:=fun a z=>Cd.fresh (N.own a z)
 refine ⟨fun w u z=>T.keep (C.ok w u z) fun a q=>kp a (T.there (C.ok w u z) q),⟨N.ok,T.keeps Cd.fok fun a q=>kp a (T.theres Cd.fok q)⟩,?_,fun a z=>?_,fun a z=>?_,fun a z=>?_,C.bg,C.bor,C.ixs,C.sl,C.hdi,C.hdx,C.len,C.hdn⟩
 ·rw [T.owns_cons]
  have h1:=Qj.mp Cd.nd
  refine Qj.mpr ⟨h1.1,Qj.mpr ⟨N.nd,h1.2.1,fun a za b zb e=>(nown a za).2.2.2.1 (by rw [e];exact zb)⟩,fun a za b zb e=>?_⟩
  rcases Qe.mp zb with zb | zb
  ·exact (nown b zb).1 (by rw [← e];exact za)
  ·exact h1.2.2 a za b zb e
 ·rw [T.owns_cons,Qe]
  have old:a∈roS ts∨a∈T.ros (m++fr)→a∉ownS ts∧¬ (a∈t.own∨a∈T.owns fr)∧¬ R.B a:=fun z=>by
   obtain ⟨h1,h2,h3⟩:=C.sep a z
   refine ⟨h1,fun q=>?_,h3⟩
   rcases q with q | q
   ·rcases z with z | z
    ·exact (nown a q).2.1 z
    ·have:=T.theres C.fok (.inr z)
     exact this (N.own a q)
   ·exact h2 (by rw [T.owns_app];exact Qf _ q)
  rcases z with z | z
  ·exact old (.inl z)
  ·rw [T.ros_cons] at z
   rcases Qe.mp z with z | z
   ·rcases N.ro a z with z' | z'
    ·obtain ⟨f1,f2,f3,f4,f5,f6⟩:=Cd.fresh z'
     exact ⟨f1,fun q=>q.elim (N.sep a z) f4,fun q=>f6 (C.bg a q)⟩
    ·rcases hl a z' with q | q
     ·exact old (.inl q)
     ·exact old (.inr (by rw [T.ros_app];exact Qi _ q))
   ·exact old (.inr (by rw [T.ros_app];exact Qf _ z))
 ·rw [T.owns_cons,Qe]
  exact ⟨(Cd.rd a z).1,fun q=>q.elim (fun q=>(nown a q).2.2.1 z) (Cd.rd a z).2⟩
 ·rw [T.owns_cons,Qe]
  obtain ⟨g1,g2,g3,g4⟩:=Cd.g a z
  exact ⟨(kp a g2).trans g1,by rw [kp a g2];exact g2,g3,fun q=>q.elim (fun q=>(nown a q).2.2.2.2.2 z) g4⟩
theorem lA_nw{h:List D→Option D}{f:AF}(σ:L2.St)(H:Hp)(Q:VK)(q:lE R ix (eNw h f) σ H Q):lA R ix f σ H fun vs H1=>gNw h vs H1 Q:=by
 obtain ⟨hd,ts,fr,C,q⟩:=q
 refine ⟨hd,ts,fr,C,?_⟩
 unfold eNw at q
 cases ef:f (ts.map TL.er) with
 | no=>rw [ef] at q;exact q
 | ex E s1=>rw [ef] at q;exact q
 | ok rs s1 =>
  rw [ef] at q
  intro H1 ts1 tvs vs e1 e2 hv C1
  subst e1 e2
  dsimp only at q
  cases ed:drefs (ts1.map TL.er) (tvs.map TV.er) with
  | none=>rw [ed] at q;exact q.elim
  | some ds =>
   rw [ed] at q
   dsimp only at q
   cases eh:h ds with
   | none=>rw [eh] at q;exact q.elim
   | some d =>
    rw [eh] at q
    obtain ⟨l,l1,l2,l3,l4⟩:=Z105 C1 hv (T.oks_app.mp C1.fok).1 ed
    exact ⟨l,l3,l2,d,by rw [l1];exact eh,fun t H' e N=>q H' ts1 (.val t) t.val rfl (by rw [← e];rfl) rfl (C1.new N l4)⟩
theorem Z299{f:EF}{Q Q':VK}(m:∀ v H,Q v H→Q' v H)(h:lE R ix f σ H Q):lE R ix f σ H Q':=by
 obtain ⟨hd,ts,fr,C,h⟩:=h
 refine ⟨hd,ts,fr,C,?_⟩
 cases ef:f (ts.map TL.er) with
 | no=>rw [ef] at h;exact h
 | ex E s1=>rw [ef] at h;exact h
 | ok r s1=>rw [ef] at h;intro H1 ts1 tv v a b c d;exact m _ _ (h H1 ts1 tv v a b c d)
theorem lA_1{f:EF}{r:List V→Hp→Prop}(h:lA R ix (aCons f aNil) σ H r):lE R ix f σ H fun x H1=>r [x] H1:=by
 have h1:=Z292 σ H r h
 exact Z299 (fun v H1 q=>Z295 σ H1 (fun vs H2=>r (v::vs) H2) q) h1
theorem lA_2{f g:EF}{r:List V→Hp→Prop}(h:lA R ix (aCons f (aCons g aNil)) σ H r):lE R ix f σ H fun x H1=>lE R ix g σ H1 fun y H2=>r [x,y] H2:=by
 have h1:=Z292 σ H r h
 exact Z299 (fun v H1 q=>lA_1 (r:=fun vs H2=>r (v::vs) H2) q) h1
theorem lA_3{f g k:EF}{r:List V→Hp→Prop}(h:lA R ix (aCons f (aCons g (aCons k aNil))) σ H r):lE R ix f σ H fun x H1=>lE R ix g σ H1 fun y H2=>lE R ix k σ H2 fun z H3=>r [x,y,z] H3:=by
 have h1:=Z292 σ H r h
 exact Z299 (fun v H1 q=>lA_2 (r:=fun vs H2=>r (v::vs) H2) q) h1
noncomputable def oNw(h:List D→Option D):R2:=fun x y H Q=>gNw h [x,y] H Q
theorem re_op{a b:Expr}{pos:Pos}{op:Operator}{h:List D→Option D}{fa fb:EF}(ho:OpR X (binaryOp op) (oNw h))(ha:PE X a (lE R ix fa))(hb:PE X b (lE R ix fb)):PE X (.BinOp a op b pos) (lE R ix (eNw h (aCons fa (aCons fb aNil)))) :=
 peM (pe_op ho ha hb) fun σ H Q q=>lA_2 (lA_nw σ H Q q)
theorem Z507{a b:Expr}{pos:Pos}{op:CmpOp}{h:List D→Option D}{fa fb:EF}(ho:OpR X (compareOp op) (oNw h))(ha:PE X a (lE R ix fa))(hb:PE X b (lE R ix fb))(hm:behindInMarks op b=false):PE X (.Compare a [op] [b] pos) (lE R ix (eNw h (aCons fa (aCons fb aNil)))) :=
 peM (Z455 ho ha hb hm) fun σ H Q q=>lA_2 (lA_nw σ H Q q)
theorem opM{f:Value→Value→Sem Value}{r r':R2}(h:OpR X f r)(m:∀ x y H Q,r' x y H Q→r x y H Q):OpR X f r':=fun pins s σ H x y v u Q I rx ry q=>h pins s σ H x y v u Q I rx ry (m _ _ _ _ q)
theorem callM{f:Value}{r r':List V→Hp→VK→Prop}(h:CallR X f r)(m:∀ vs H Q,r' vs H Q→r vs H Q):CallR X f r':=fun pins s σ H x u Q I rx q=>h pins s σ H x u Q I rx (m _ _ _ q)
end
end RM

namespace RM
open PySem PySem.Spec PyProof.Rows L2
inductive Sel where
 | ch (j:Nat) | ar (m:Nat) | cs (v:V)
noncomputable def pick(rs:List DV)(ds:List D)(s1:Sd):Sel→ER DV
 | .ch j=>match rs,ds with
  | .val _::_,.nd _ l::_=>(match l[j]? with | some c=>.ok (.val c) s1 | none=>.no)
  | .plc k p::_,.nd _ l::_=>(match l[j]? with | some c=>.ok (mkV k (p++[j]) c) s1 | none=>.no)
  | _,_=>.no
 | .ar m=>match rs[m]? with | some r=>.ok r s1 | none=>.no
 | .cs v=>.ok (.val (.at (cl v))) s1
noncomputable def eCh(h:List D→Option Sel)(f:AF):EF:=fun s=>match f s with
 | .ok rs s1=>(match drefs s1 rs with | some ds=>(match h ds with | some c=>pick rs ds s1 c | none=>.no) | none=>.no)
 | .ex C s1=>.ex C s1
 | .no=>.no
noncomputable def selT(l:List T):Sel→Option V
 | .ch j=>match l with | .nd _ _ c::_=>(c[j]?).map T.val | _=>none
 | .ar m=>(l[m]?).map T.val
 | .cs v=>some v
noncomputable def gCh(h:List D→Option Sel):List V→Hp→VK→Prop:=fun vs H Q=>∃ l:List T,T.oks H l∧l.map T.val=vs∧∃ c v,h (T.ers l)=some c∧selT l c=some v∧Q v H
section
variable {R:RC}{ix:List Nat}{hd:List (Nat×Addr)}{X:Cx}{e:Expr}{H H':Hp}{σ:L2.St}{ts:Ts}{fr:List T}
theorem Z632{m:Nat}{tv:TV}:∀ {tvs:List TV},tvs[m]?=some tv→∃ x,(T.owns (trs tvs)).Perm (T.owns tv.tr++x)∧(∀ a∈T.ros tv.tr,a∈T.ros (trs tvs))∧∀ t∈tv.tr,t∈trs tvs:=by
 induction m with
 | zero =>
  intro tvs h
  match tvs,h with
  | y::r,h =>
   cases h
   show ∃ x,(T.owns (tv.tr++trs r)).Perm _∧_
   exact ⟨T.owns (trs r),by rw [T.owns_app],fun a z=>by show a∈T.ros (tv.tr++trs r);rw [T.ros_app];exact Qi _ z,fun t z=>Qi _ z⟩
 | succ m ih =>
  intro tvs h
  match tvs,h with
  | y::r,h =>
   obtain ⟨x,h1,h2,h3⟩:=ih (tvs:=r) (by simpa using h)
   refine ⟨T.owns y.tr++x,?_,fun a z=>?_,fun t z=>Qf _ (h3 t z)⟩
   ·show (T.owns (y.tr++trs r)).Perm _
    rw [T.owns_app]
    refine (List.Perm.append_left _ h1).trans ?_
    rw [← Qq,← Qq]
    exact List.Perm.append_right _ Wh
   ·show a∈T.ros (y.tr++trs r)
    rw [T.ros_app];exact Qf _ (h2 a z)
theorem Cf.one{m:Nat}{tv:TV}{tvs:List TV}(C:Cf R ix hd H σ ts (trs tvs++fr))(h:tvs[m]?=some tv):Cf R ix hd H σ ts (tv.tr++fr):=by
 obtain ⟨x,h1,h2,h3⟩:=Z632 h
 have ok:=T.oks_app.mp C.fok
 refine C.less (x:=x) (T.oks_app.mpr ⟨T.oks_iff.mpr fun t z=>T.oks_iff.mp ok.1 t (h3 t z),ok.2⟩) ?_ fun a z=>?_
 ·rw [T.owns_app,T.owns_app,Qq]
  refine (List.Perm.append_right _ h1).trans ?_
  rw [Qq]
  exact List.Perm.append_left _ Wh
 ·rw [T.ros_app] at z ⊢
  rcases Qe.mp z with z | z
  ·exact .inl (Qi _ (h2 a z))
  ·exact .inl (Qf _ z)
theorem Cf.child{a:Addr}{k:NK}{l:List T}{j:Nat}{c:T}(C:Cf R ix hd H σ ts (.nd a k l::fr))(h:l[j]?=some c):Cf R ix hd H σ ts (c::fr):=by
 obtain ⟨x,y,e1,e2⟩:=T.owns_get h
 obtain ⟨x',y',f1,f2⟩:=T.ros_get h
 refine C.less (x:=(if k.mut then [a] else [])++(x++y)) ⟨T.oks_iff.mp C.fok.1.2 c (Qg h),C.fok.2⟩ ?_ fun b z=>?_
 ·rw [T.owns_cons,T.owns_cons,T.own,e1]
  refine Qw.mpr fun b=>?_
  simp only [Jj];omega
 ·left
  rw [T.ros_cons,T.ro,f1]
  rw [T.ros_cons] at z
  simp only [Qe] at z ⊢
  rcases z with z | z <;> simp [z]
theorem TvsOk.get:∀ {vs:List V} {tvs:List TV} {m:Nat} {tv:TV},TvsOk ts vs tvs→tvs[m]?=some tv→∃ v,vs[m]?=some v∧TvOk ts v tv
 | _,_,0,_,.cons h _,e=>by cases e;exact ⟨_,rfl,h⟩
 | _,_,m + 1,_,.cons _ r,e=>by simpa using TvsOk.get r (by simpa using e)
theorem lA_ch{h:List D→Option Sel}{f:AF}(σ:L2.St)(H:Hp)(Q:VK)(q:lE R ix (eCh h f) σ H Q):lA R ix f σ H fun vs H1=>gCh h vs H1 Q:=by
 obtain ⟨hd,ts,fr,C,q⟩:=q
 refine ⟨hd,ts,fr,C,?_⟩
 unfold eCh at q
 cases ef:f (ts.map TL.er) with
 | no=>rw [ef] at q;exact q
 | ex E s1=>rw [ef] at q;exact q
 | ok rs s1 =>
  rw [ef] at q
  intro H1 ts1 tvs vs e1 e2 hv C1
  subst e1 e2
  dsimp only at q
  cases ed:drefs (ts1.map TL.er) (tvs.map TV.er) with
  | none=>rw [ed] at q;exact q.elim
  | some ds =>
   rw [ed] at q
   dsimp only at q
   cases eh:h ds with
   | none=>rw [eh] at q;exact q.elim
   | some c =>
    rw [eh] at q
    obtain ⟨l,l1,l2,l3,l4⟩:=Z105 C1 hv (T.oks_app.mp C1.fok).1 ed
    dsimp only at q
    cases c with
    | cs v=>exact ⟨l,l3,l2,_,v,by rw [l1];exact eh,rfl,q H1 ts1 (.val (.at v)) v rfl rfl rfl (C1.drops.at v)⟩
    | ar m =>
     simp only [pick,Qa] at q
     cases em:tvs[m]? with
     | none=>rw [em] at q;exact q.elim
     | some tv =>
      rw [em] at q
      obtain ⟨v,v1,v2⟩:=hv.get em
      refine ⟨l,l3,l2,_,v,by rw [l1];exact eh,?_,q H1 ts1 tv v rfl rfl v2 (C1.one em)⟩
      rw [← l2,Qa] at v1
      exact v1
    | ch j =>
     cases hv with
     | nil=>simp only [Wm,pick] at q
     | @cons v tv vs tvs hv hr =>
      simp only [Ql,drefs] at ed
      cases e1:dref (ts1.map TL.er) tv.er with
      | none=>rw [e1] at ed;cases ed
      | some d =>
       cases e2:drefs (ts1.map TL.er) (tvs.map TV.er) with
       | none=>rw [e1,e2] at ed;cases ed
       | some ds' =>
        rw [e1,e2] at ed
        cases ed
        have ho:T.oks H1 (tv.tr++trs tvs):=(T.oks_app.mp C1.fok).1
        obtain ⟨t,t1,t2,t3,t4⟩:=Z103 C1 hv (T.oks_app.mp ho).1 e1
        obtain ⟨l',l1',l2',l3',_⟩:=Z105 C1 hr (T.oks_app.mp ho).2 e2
        have C2:Cf R ix hd H1 σ ts1 (tv.tr++fr):=C1.one (m:=0) (tvs:=tv::tvs) rfl
        cases t with
        | «at» v0 =>
         cases t1
         rcases t4 with rfl | ⟨k,p,a,w,u,rfl,_,_⟩ <;> simp only [Ql,TV.er,T.er,pick] at q
        | nd a k ch =>
         simp only [T.er] at t1
         subst t1
         rcases t4 with rfl | ⟨k',p,a',w,u,rfl,h1,h2⟩
         ·simp only [Ql,TV.er,pick,T.ers_eq,Qa] at q
          cases ec:ch[j]? with
          | none=>rw [ec] at q;exact q.elim
          | some c =>
           rw [ec] at q
           refine ⟨.nd a k ch::l',⟨t3,l3'⟩,by simp [t2,l2'],.ch j,c.val,by rw [T.ers,l1'];exact eh,by simp [selT,ec],?_⟩
           exact q H1 ts1 (.val c) c.val rfl rfl rfl (C2.child ec)
         ·simp only [Ql,TV.er,pick,T.ers_eq,Qa] at q
          cases ec:ch[j]? with
          | none=>rw [ec] at q;exact q.elim
          | some c =>
           rw [ec] at q
           refine ⟨.nd a k ch::l',⟨t3,l3'⟩,by simp [t2,l2'],.ch j,c.val,by rw [T.ers,l1'];exact eh,by simp [selT,ec],?_⟩
           obtain ⟨tv',f1,f2,f3⟩:=mk_ok (p:=p++[j]) C2 h1 (by rw [T.get_app,h2];show T.get [j] (.nd a k ch)=some c;simp only [T.get,ec])
           exact q H1 ts1 tv' c.val rfl f1 f2 f3
end
end RM

namespace RM
open PySem PySem.Spec PyProof.Rows L2
noncomputable def sub:List Nat→List Nat→Option Nat
 | [],i::_=>some i
 | x::p,y::q=>if x=y then sub p q else none
 | _,[]=>none
theorem Z607{i:Nat}:∀ {p q:List Nat},sub p q=some i→∃ r,q=p++i::r
 | [],j::r,h=>by cases h;exact ⟨r,rfl⟩
 | x::p,y::q,h=>by
  unfold sub at h
  split at h
  case isTrue e=>subst e;obtain ⟨r,rfl⟩:=Z607 h;exact ⟨r,rfl⟩
  case isFalse=>cases h
 | x::p,[],h=>by cases h
 | [],[],h=>by cases h
noncomputable def gone(k:Nat)(p:List Nat)(keep:Nat→Bool)(k':Nat)(q:List Nat):Bool:=decide (k'=k) && (match sub p q with | some i=>!keep i | none=>false)
noncomputable def killD(k:Nat)(p:List Nat)(keep:Nat→Bool):DL→DL
 | .bor k' q=>if gone k p keep k' q then .non else .bor k' q
 | s=>s
noncomputable def killT(k:Nat)(p:List Nat)(keep:Nat→Bool):TL→TL
 | .bor k' q a=>if gone k p keep k' q then .non else .bor k' q a
 | s=>s
theorem Z283{k:Nat}{p:List Nat}{keep:Nat→Bool}{k':Nat}{q:List Nat}{a:Addr}:killT k p keep (.bor k' q a)=if gone k p keep k' q then .non else .bor k' q a:=rfl
theorem Z282{k:Nat}{p:List Nat}{keep:Nat→Bool}{k':Nat}{q:List Nat}:killD k p keep (.bor k' q)=if gone k p keep k' q then .non else .bor k' q:=rfl
theorem Z285{k:Nat}{p:List Nat}{keep:Nat→Bool}(s:TL):(killT k p keep s).er=killD k p keep s.er:=by
 cases s with
 | non=>rfl
 | own w t=>rfl
 | bor k' q a =>
  simp only [TL.er]
  rw [Z283,Z282]
  cases gone k p keep k' q <;> rfl
theorem Z284{k:Nat}{p:List Nat}{keep:Nat→Bool}(s:TL):killT k p keep s=s∨(killT k p keep s=.non∧∃ k' q a,s=.bor k' q a):=by
 cases s with
 | non=>exact .inl rfl
 | own w t=>exact .inl rfl
 | bor k' q a =>
  rw [Z283]
  cases gone k p keep k' q
  ·exact .inl rfl
  ·exact .inr ⟨rfl,_,_,_,rfl⟩
theorem Z200{α:Type}{f:TL→List α}{k:Nat}{y:TL}:∀ {ts:Ts},ts[k]?=some y→∃ x z,ts.flatMap f=x++(f y++z)∧∀ y',(ts.set k y').flatMap f=x++(f y'++z):=by
 induction k with
 | zero =>
  intro ts h
  match ts,h with
  | t::r,h=>cases h;exact ⟨[],r.flatMap f,rfl,fun y'=>rfl⟩
 | succ k ih =>
  intro ts h
  match ts,h with
  | t::r,h =>
   obtain ⟨x,z,e1,e2⟩:=ih (ts:=r) (by simpa using h)
   exact ⟨f t++x,z,by simp [e1],fun y'=>by simp [e2 y']⟩
theorem Z286{α:Type}{f:TL→List α}{k:Nat}{p:List Nat}{keep:Nat→Bool}(hb:∀ k q a,f (.bor k q a)=f .non)(ts:Ts):(ts.map (killT k p keep)).flatMap f=ts.flatMap f:=by
 induction ts with
 | nil=>rfl
 | cons t r ih =>
  simp only [Ql,Ju,ih]
  rcases Z284 (k:=k) (p:=p) (keep:=keep) t with e | ⟨e,k',q,a,rfl⟩
  ·rw [e]
  ·rw [e,hb]
theorem Z206{s s':T}:∀ {p q:List Nat} {t u:T},t.get p=some s→s'.val=s.val→sub p q=none→t.get q=some u→∃ u',(T.put s' p t).get q=some u'∧u'.val=u.val
 | [],[],t,u,h1,h2,_,h4=>by cases h1;cases h4;exact ⟨s',rfl,h2⟩
 | [],j::q,t,u,_,_,h3,_=>by cases h3
 | i::p,[],t,u,h1,h2,_,h4=>by cases h4;exact ⟨_,rfl,T.put_val h1 h2⟩
 | i::p,j::q,.at v,u,h1,_,_,_=>by cases h1
 | i::p,j::q,.nd a k l,u,h1,h2,h3,h4=>by
  simp only [T.get] at h1 h4
  cases e:l[i]? with
  | none=>rw [e] at h1;cases h1
  | some c =>
   rw [e] at h1
   simp only [T.put,e,T.get]
   unfold sub at h3
   by_cases hij:i=j
   ·subst hij
    rw [if_pos rfl] at h3
    rw [e] at h4
    rw [Qm,if_pos rfl,if_pos (Qc.mp e).1]
    exact Z206 h1 h2 h3 h4
   ·rw [Qm,if_neg hij]
    exact ⟨u,h4,rfl⟩
theorem Z205{s s':T}:∀ {p r:List Nat} {t:T},t.get p=some s→(T.put s' p t).get (p++r)=s'.get r
 | [],r,t,_=>rfl
 | i::p,r,.at v,h=>by cases h
 | i::p,r,.nd a k l,h=>by
  simp only [T.get] at h
  cases e:l[i]? with
  | none=>rw [e] at h;cases h
  | some c =>
   rw [e] at h
   simp only [T.put,e,Jh,T.get]
   rw [Qm,if_pos rfl,if_pos (Qc.mp e).1]
   exact Z205 h
section
variable {R:RC}{ix:List Nat}{hd:List (Nat×Addr)}{X:Cx}{e:Expr}{H H':Hp}{σ:L2.St}{ts:Ts}{fr:List T}
theorem Cf.write{k:Nat}{t:T}{p:List Nat}{a:Addr}{kd kd':NK}{l l' fr':List T}{x:List Addr}{o:HO}{keep:Nat→Bool}(C:Cf R ix hd H σ ts fr)(hk:ts[k]?=some (.own true t))(hp:t.get p=some (.nd a kd l))(hm:kd.mut=true)(hm':kd'.mut=true)
  (ho:(T.nd a kd' l').ok (upd H a o)) (hf:T.oks (upd H a o) fr') (hown:(T.owns l++T.owns fr).Perm (T.owns l'++T.owns fr'++x))
  (hro:∀ b,b∈T.ros l'∨b∈T.ros fr'→b∈T.ros l∨b∈T.ros fr∨b∈roS ts∨b∈x) (hkeep:∀ (i:Nat) (c:T),keep i=true→l[i]?=some c→l'[i]?=some c) :
  Cf R ix hd (upd H a o) σ ((ts.set k (.own true (T.put (.nd a kd' l') p t))).map (killT k p keep)) fr':=by
 obtain ⟨c,r,K⟩:=T.ctx hp
 obtain ⟨x1,z1,o1,o2⟩:=Z200 (f:=TL.own1) hk
 obtain ⟨x2,z2,r1,r2⟩:=Z200 (f:=TL.ro1) hk
 obtain ⟨x3,z3,d1,d2⟩:=Z200 (f:=TL.rd1) hk
 have own_nd:(T.nd a kd l).own=a::T.owns l:=by simp [T.own,hm]
 have own_nd':(T.nd a kd' l').own=a::T.owns l':=by simp [T.own,hm']
 have ro_nd:(T.nd a kd l).ro=T.ros l:=by simp [T.ro,hm]
 have ro_nd':(T.nd a kd' l').ro=T.ros l':=by simp [T.ro,hm']
 generalize hs':T.nd a kd' l'=s' at *
 have hv:s'.val=(T.nd a kd l).val:=by rw [← hs'];rfl
 generalize ht':T.put s' p t=t'
 have eO:ownS ((ts.set k (.own true t')).map (killT k p keep))=x1++(t'.own++z1):=by
  unfold ownS;rw [Z286 (by intros;rfl),o2];rfl
 have eR:roS ((ts.set k (.own true t')).map (killT k p keep))=x2++(t'.ro++z2):=by
  unfold roS;rw [Z286 (by intros;rfl),r2];rfl
 have eD:rdS ((ts.set k (.own true t')).map (killT k p keep))=rdS ts:=by
  unfold rdS;rw [Z286 (by intros;rfl),d2,d1];rfl
 have fO:ownS ts=x1++(t.own++z1):=o1
 have fR:roS ts=x2++(t.ro++z2):=r1
 have pm:(ownS ts++T.owns fr).Perm ((x1++(t'.own++z1)++T.owns fr')++x):=by
  rw [fO]
  refine Qw.mpr fun b=>?_
  have q1:=(Qw.mp K.own b)
  have q2:=(Qw.mp (K.own' s') b)
  have q3:=(Qw.mp hown b)
  rw [ht'] at q2
  rw [own_nd] at q1
  rw [own_nd'] at q2
  simp only [Jj,List.count_cons] at q1 q2 q3 ⊢
  omega
 have nd2:=pm.nodup_iff.mp C.nd
 have nd3:=Qj.mp nd2
 have sub1:∀ b,b∈x1++(t'.own++z1)∨b∈T.owns fr'→b∈ownS ts∨b∈T.owns fr:=fun b z=>by
  have:b∈ownS ts++T.owns fr:=pm.mem_iff.mpr (Qi _ (by rcases z with z | z;exact Qi _ z;exact Qf _ z))
  exact Qe.mp this
 have subx:∀ b,b∈x→b∈ownS ts∨b∈T.owns fr:=fun b z=>Qe.mp (pm.mem_iff.mpr (Qf _ z))
 have ina:a∈t.own:=K.own.mem_iff.mpr (Qf _ (by rw [own_nd];exact Qs))
 have inS:a∈ownS ts:=by rw [fO];simp [ina]
 have hn1:=(Qj.mp C.nd).1
 rw [fO] at hn1
 have up:∀ b,b≠a→upd H a o b=H b:=fun b hb=>Z646 hb
 have other:∀ (j:Nat) w u,j≠k→ts[j]?=some (TL.own w u)→u.ok (upd H a o):=by
  intro j w u hj hu
  have hm:=Qg hu
  refine T.keep (C.ok w u hm) fun b hb=>up b ?_
  rintro rfl
  rcases hb with hb | hb
  ·cases w with
   | false=>exact (C.rd b (Z362.mpr ⟨u,hm,hb⟩)).1 inS
   | true =>
    have h1:b∈ownS (ts.set k .non):=Z360.mpr ⟨u,Qg (by rw [Qm,if_neg (Ne.symm hj)];exact hu),hb⟩
    unfold ownS at h1
    rw [o2] at h1
    have h2:=Qj.mp hn1
    have h3:=Qj.mp h2.2.1
    simp only [TL.own1,Je,Qe] at h1
    rcases h1 with h1 | h1
    ·exact h2.2.2 b h1 b (Qi _ ina) rfl
    ·exact h3.2.2 b ina b h1 rfl
  ·exact (C.sep b (.inl (Z364.mpr ⟨w,u,hm,hb⟩))).1 inS
 have tok':t'.ok (upd H a o):=by
  rw [← ht']
  refine K.ok (C.ok true t (Qg hk)) (fun b hb=>up b ?_) ho hv
  rintro rfl
  rcases hb with hb | hb
  ·have h2:=(Qj.mp hn1).2.1
   have h3:=(Qj.mp h2).1
   have h4:=K.own.nodup_iff.mp h3
   exact (Qj.mp h4).2.2 b hb b (by rw [own_nd];exact Qs) rfl
  ·exact (C.sep b (.inl (by rw [fR];simp [K.ro.mem_iff.mpr (Qi _ hb)]))).1 inS
 have slot:∀ (j:Nat) (y:TL),((ts.set k (.own true t')).map (killT k p keep))[j]?=some y→(j=k∧y=.own true t')∨(j≠k∧∃ y0,ts[j]?=some y0∧y=killT k p keep y0):=by
  intro j y hy
  rw [Qa,Qm] at hy
  by_cases hj:k=j
  ·subst hj
   rw [if_pos rfl,if_pos (Qc.mp hk).1] at hy
   cases hy
   exact .inl ⟨rfl,rfl⟩
  ·rw [if_neg hj] at hy
   cases ey:ts[j]? with
   | none=>rw [ey] at hy;cases hy
   | some y0=>rw [ey] at hy;cases hy;exact .inr ⟨Ne.symm hj,y0,rfl,rfl⟩
 have tv':t'.val=t.val:=by rw [← ht'];exact T.put_val hp hv
 have slv:∀ (j:Nat) (y:TL) (v:V),((ts.set k (.own true t')).map (killT k p keep))[j]?=some y→y.v=some v→∃ y0,ts[j]?=some y0∧y0.v=some v:=by
  intro j y v hy hv
  rcases slot j y hy with ⟨rfl,rfl⟩ | ⟨hj,y0,h0,rfl⟩
  ·exact ⟨_,hk,by rw [← hv];simp only [TL.v,tv']⟩
  ·refine ⟨y0,h0,?_⟩
   rcases Z284 (k:=k) (p:=p) (keep:=keep) y0 with e | ⟨e,_⟩
   ·rwa [e] at hv
   ·rw [e] at hv;cases hv
 have len:((ts.set k (.own true t')).map (killT k p keep)).length=ts.length:=by simp
 refine ⟨fun w u hu=>?_,hf,by rw [eO];exact nd3.1,fun b z=>?_,fun b z=>?_,fun b z=>?_,C.bg,fun j k' q b hj=>?_,fun j hj=>by rw [len];exact C.ixs j hj,fun i j y v h1 h2 h3=>?_,fun j b hj=>by rw [len];exact C.hdi j b hj,C.hdx,C.len,fun j b hj y v h2 h3=>?_⟩
 ·obtain ⟨j,hj⟩:=Qz.mp hu
  rcases slot j _ hj with ⟨rfl,e⟩ | ⟨hjk,y0,h0,e⟩
  ·cases e;exact tok'
  ·rcases Z284 (k:=k) (p:=p) (keep:=keep) y0 with e' | ⟨e',_⟩
   ·rw [e'] at e;subst e;exact other j w u hjk h0
   ·rw [e'] at e;cases e
 ·have old:b∈roS ts∨b∈T.ros fr→b∉x1++(t'.own++z1)∧b∉T.owns fr'∧¬ R.B b:=fun z=>by
   obtain ⟨h1,h2,h3⟩:=C.sep b z
   exact ⟨fun q=>(sub1 b (.inl q)).elim h1 h2,fun q=>(sub1 b (.inr q)).elim h1 h2,h3⟩
  have new:b∈T.ros l'∨b∈T.ros fr'→b∉x1++(t'.own++z1)∧b∉T.owns fr'∧¬ R.B b:=fun z=>by
   rcases hro b z with q | q | q | q
   ·exact old (.inl (by rw [fR];simp [K.ro.mem_iff.mpr (Qf _ (by rw [ro_nd];exact q))]))
   ·exact old (.inr q)
   ·exact old (.inl q)
   ·refine ⟨fun y=>nd3.2.2 b (Qi _ y) b q rfl,fun y=>nd3.2.2 b (Qf _ y) b q rfl,fun y=>?_⟩
    obtain ⟨_,_,g3,g4⟩:=C.g b (C.bg b y)
    exact (subx b q).elim g3 g4
  rw [eO]
  rw [eR] at z
  rcases z with z | z
  ·simp only [Qe] at z
   rcases z with z | z | z
   ·exact old (.inl (by rw [fR];simp [z]))
   ·have z':=(K.ro' s').mem_iff.mp (by rw [ht'];exact z)
    rcases Qe.mp z' with z' | z'
    ·exact old (.inl (by rw [fR];simp [K.ro.mem_iff.mpr (Qi _ z')]))
    ·rw [ro_nd'] at z';exact new (.inl z')
   ·exact old (.inl (by rw [fR];simp [z]))
  ·exact new (.inr z)
 ·rw [eD] at z
  rw [eO]
  obtain ⟨h1,h2⟩:=C.rd b z
  exact ⟨fun q=>(sub1 b (.inl q)).elim h1 h2,fun q=>(sub1 b (.inr q)).elim h1 h2⟩
 ·rw [eO]
  obtain ⟨g1,g2,g3,g4⟩:=C.g b z
  have hb:b≠a:=by rintro rfl;exact g3 inS
  rw [up b hb]
  exact ⟨g1,g2,fun q=>(sub1 b (.inl q)).elim g3 g4,fun q=>(sub1 b (.inr q)).elim g3 g4⟩
 ·
  rcases slot j _ hj with ⟨rfl,e⟩ | ⟨hjk,y0,h0,e⟩
  ·cases e
  ·rcases Z284 (k:=k) (p:=p) (keep:=keep) y0 with e' | ⟨e',_⟩
   ·rw [e'] at e
    subst e
    obtain ⟨w,u,s,h1,h2,h3⟩:=C.bor j k' q b h0
    by_cases hkk:k'=k
    ·subst hkk
     rw [hk] at h1
     cases h1
     have at':((ts.set k' (.own true t')).map (killT k' p keep))[k']?=some (.own true t'):=by
      rw [Qa,Qm,if_pos rfl,if_pos (Qc.mp hk).1];rfl
     cases hs:sub p q with
     | none =>
      obtain ⟨u',q1,q2⟩:=Z206 (s':=s') hp hv hs h2
      rw [ht'] at q1
      exact ⟨true,t',u',at',q1,q2.trans h3⟩
     | some i =>
      have hki:keep i=true:=by
       rw [Z283] at e'
       cases hg:keep i with
       | true=>rfl
       | false =>
        have:gone k' p keep k' q=true:=by simp [gone,hs,hg]
        rw [this] at e'
        cases e'
      obtain ⟨r',rfl⟩:=Z607 hs
      refine ⟨true,t',s,at',?_,h3⟩
      rw [← ht',Z205 hp,← hs']
      rw [T.get_app,hp] at h2
      have h2':T.get (i::r') (.nd a kd l)=some s:=h2
      simp only [T.get] at h2' ⊢
      cases el:l[i]? with
      | none=>rw [el] at h2';cases h2'
      | some ch=>rw [el] at h2';rw [hkeep i ch hki el];exact h2'
    ·refine ⟨w,u,s,?_,h2,h3⟩
     rw [Qa,Qm,if_neg (Ne.symm hkk),h1];rfl
   ·rw [e'] at e;cases e
 ·obtain ⟨y0,q1,q2⟩:=slv j y v h2 h3
  exact C.sl i j y0 v h1 q1 q2
 ·obtain ⟨y0,q1,q2⟩:=slv j y v h2 h3
  exact C.hdn j b hj y0 v q1 q2
end
end RM

namespace RM
open PySem PySem.Spec PyProof.Rows L2
inductive Mu where
 | add (kd:NK) (m:Nat)
 | set (j m:Nat)
noncomputable def HoOk(o:HO):NK→List V→Prop
 | .lst true,vs=>o=.lst vs
 | .dic true ks,vs=>ks.length=vs.length∧ks.Nodup∧o=.dK (ks.zip vs)
 | .dit true ks,vs=>ks.length=vs.length∧ks.Nodup∧o=.dT (ks.zip vs)
 | .ins true C ns,vs=>ns.length=vs.length∧∃ dx,o=.ins C dx (ns.zip vs)
 | _,_=>False
theorem HoOk.node{o:HO}{kd:NK}{vs:List V}{H:Hp}{a:Addr}(h:HoOk o kd vs):NodeOk (upd H a o) a kd vs∧kd.mut=true:=by
 cases kd with
 | tup=>exact h.elim
 | lst m=>cases m with
  | true=>cases h;exact ⟨Z647,rfl⟩
  | false=>exact h.elim
 | dic m ks=>cases m with
  | true=>obtain ⟨h1,h2,rfl⟩:=h;exact ⟨⟨h1,h2,Z647⟩,rfl⟩
  | false=>exact h.elim
 | dit m ks=>cases m with
  | true=>obtain ⟨h1,h2,rfl⟩:=h;exact ⟨⟨h1,h2,Z647⟩,rfl⟩
  | false=>exact h.elim
 | ins m C ns=>cases m with
  | true=>obtain ⟨h1,dx,rfl⟩:=h;exact ⟨⟨h1,dx,Z647⟩,rfl⟩
  | false=>exact h.elim
 | kst K=>exact h.elim
noncomputable def wr(s:Sd)(k:Nat)(p:List Nat)(n:D)(keep:Nat→Bool):Sd:=match s[k]? with
 | some (.own true d)=>(s.set k (.own true (D.put n p d))).map (killD k p keep)
 | _=>s
noncomputable def eMu(ri:Nat)(h:List D→Option Mu)(f:AF):EF:=fun s=>match f s with
 | .ok rs s1=>(match drefs s1 rs,rs[ri]? with
  | some ds,some (.plc k p)=>(match s1[k]?,ds[ri]?,h ds with
   | some (.own true _),some (.nd kd l),some (.add kd' m)=>if kd.mut then (match rs[m]? with | some (.val x)=>.ok (.val (.at .non)) (wr s1 k p (.nd kd' (l++[x])) fun _=>true) | _=>.no) else .no
   | some (.own true _),some (.nd kd l),some (.set j m)=>if kd.mut∧j < l.length then (match rs[m]? with | some (.val x)=>.ok (.val (.at .non)) (wr s1 k p (.nd kd (l.set j x)) fun i=>i != j) | _=>.no) else .no
   | _,_,_=>.no)
  | _,_=>.no)
 | .ex C s1=>.ex C s1
 | .no=>.no
noncomputable def gMu(ri:Nat)(h:List D→Option Mu):List V→Hp→(Hp→Prop)→Prop:=fun vs H Q=>∃ l:List T,T.oks H l∧l.map T.val=vs∧∃ a kd ch op,l[ri]?=some (.nd a kd ch)∧kd.mut=true∧h (T.ers l)=some op∧match op with
 | .add kd' m=>∃ x,l[m]?=some x∧∀ o,HoOk o kd' (ch.map T.val++[x.val])→Q (upd H a o)
 | .set j m=>∃ x,l[m]?=some x∧j < ch.length∧∀ o,HoOk o kd ((ch.map T.val).set j x.val)→Q (upd H a o)
section
variable {R:RC}{ix:List Nat}{hd:List (Nat×Addr)}{X:Cx}{e:Expr}{H H':Hp}{σ:L2.St}{ts:Ts}{fr:List T}
theorem Z104(C:Cf R ix hd H σ ts fr):∀ {tvs:List TV} {vs:List V} {ds:List D},TvsOk ts vs tvs→T.oks H (trs tvs)→drefs (ts.map TL.er) (tvs.map TV.er)=some ds →
  ∃ l:List T,T.ers l=ds∧l.map T.val=vs∧T.oks H l∧l.length=tvs.length∧∀ (m:Nat) tv t,tvs[m]?=some tv→l[m]?=some t→(tv=.val t∨∃ k p a w u,tv=.plc k p a∧ts[k]?=some (TL.own w u)∧u.get p=some t)
 | [],_,_,.nil,_,h=>by cases h;exact ⟨[],rfl,rfl,trivial,rfl,by simp⟩
 | tv::tvs,_,_,.cons hv hr,ho,h=>by
  simp only [Ql,drefs] at h
  cases e1:dref (ts.map TL.er) tv.er with
  | none=>simp [e1] at h
  | some d =>
   cases e2:drefs (ts.map TL.er) (tvs.map TV.er) with
   | none=>simp [e1,e2] at h
   | some ds =>
    simp only [e1,e2,Option.some.injEq] at h
    subst h
    have ho':T.oks H (tv.tr++trs tvs):=ho
    obtain ⟨t,t1,t2,t3,t4⟩:=Z103 C hv (T.oks_app.mp ho').1 e1
    obtain ⟨l,l1,l2,l3,l4,l5⟩:=Z104 C hr (T.oks_app.mp ho').2 e2
    refine ⟨t::l,by rw [T.ers,t1,l1],by simp [t2,l2],⟨t3,l3⟩,by simp [l4],fun m y z h1 h2=>?_⟩
    cases m with
    | zero=>cases h1;cases h2;exact t4
    | succ m=>exact l5 m y z (by simpa using h1) (by simpa using h2)
theorem wr_er{k:Nat}{p:List Nat}{t s':T}{keep:Nat→Bool}(hk:ts[k]?=some (.own true t)):((ts.set k (.own true (T.put s' p t))).map (killT k p keep)).map TL.er=wr (ts.map TL.er) k p s'.er keep:=by
 unfold wr
 rw [Qa,hk]
 show _=((ts.map TL.er).set k (.own true (D.put s'.er p t.er))).map (killD k p keep)
 rw [← T.put_er,show DL.own true (T.put s' p t).er=(TL.own true (T.put s' p t)).er from rfl,← Wa,Jk,Jk]
 exact Wf fun s _=>Z285 s
set_option maxHeartbeats 2000000 in
theorem lA_mu{ri:Nat}{h:List D→Option Mu}{f:AF}(σ:L2.St)(H:Hp)(Q:VK)(q:lE R ix (eMu ri h f) σ H Q):lA R ix f σ H fun vs H1=>gMu ri h vs H1 (Q .non):=by
 obtain ⟨hd,ts,fr,C,q⟩:=q
 refine ⟨hd,ts,fr,C,?_⟩
 unfold eMu at q
 cases ef:f (ts.map TL.er) with
 | no=>rw [ef] at q;exact q
 | ex E s1=>rw [ef] at q;exact q
 | ok rs s1 =>
  rw [ef] at q
  intro H1 ts1 tvs vs e1 e2 hv C1
  subst e1 e2
  dsimp only at q
  cases ed:drefs (ts1.map TL.er) (tvs.map TV.er) with
  | none=>rw [ed] at q;exact q.elim
  | some ds =>
   rw [ed,Qa] at q
   obtain ⟨l,l1,l2,l3,l4,l5⟩:=Z104 C1 hv (T.oks_app.mp C1.fok).1 ed
   cases er:tvs[ri]? with
   | none=>rw [er] at q;exact q.elim
   | some tr =>
    rw [er] at q
    cases tr with
    | val t=>exact q.elim
    | plc k p a =>
     simp only [Option.map_some,TV.er,Qa] at q
     have hri:ri < l.length:=by rw [l4];exact (Qc.mp er).1
     obtain ⟨tn,hn⟩:∃ tn,l[ri]?=some tn:=⟨l[ri],Qh hri⟩
     have hnd:ds[ri]?=some tn.er:=by rw [← l1,T.ers_eq,Qa,hn];rfl
     rcases l5 ri _ tn er hn with z | ⟨k',p',a',w,u,z,hk,hp⟩
     ·cases z
     ·cases z
      rw [hk,hnd] at q
      simp only [Option.map_some,TL.er] at q
      cases w with
      | false=>exact q.elim
      | true =>
       cases tn with
       | «at» v=>exact q.elim
       | nd a2 kd ch =>
        simp only [T.er] at q
        have hkn:kd.mut=true∧True:=⟨by
         cases hm:kd.mut with
         | true=>rfl
         | false =>
          exfalso
          cases eh:h ds with
          | none=>rw [eh] at q;exact q
          | some op=>cases op with
           | add kd' m=>rw [eh] at q;dsimp only at q;rw [hm] at q;exact q
           | set j m =>
            rw [eh] at q
            dsimp only at q
            rw [hm] at q
            rw [if_neg (by rintro ⟨z,_⟩;cases z)] at q
            exact q,trivial⟩
        refine ⟨l,l3,l2,a2,kd,ch,?_⟩
        have ok:=T.oks_app.mp C1.fok
        have hok:(T.nd a2 kd ch).ok H1:=T.oks_iff.mp l3 _ (Qg hn)
        have ha2:a2∈ownS ts1:=by
         obtain ⟨c,r,K⟩:=T.ctx hp
         exact Z360.mpr ⟨u,Qg hk,K.own.mem_iff.mpr (Qf _ (by simp [T.own,hkn.1]))⟩
        have stay:∀ (o:HO) (y:T),y∈trs tvs++fr→y.ok (upd H1 a2 o):=fun o y hy=>T.keep (T.oks_iff.mp C1.fok y hy) fun b hb=>Z646 (by
         rintro rfl
         rcases hb with hb | hb
         ·have:=(Qj.mp C1.nd).2.2 b ha2 b (T.mem_owns.mpr ⟨y,hy,hb⟩)
          exact this rfl
         ·exact (C1.sep b (.inr (T.mem_ros.mpr ⟨y,hy,hb⟩))).1 ha2)
        have kid:∀ (o:HO) (y:T),y∈ch→y.ok (upd H1 a2 o):=fun o y hy=>T.keep (T.oks_iff.mp hok.2 y hy) fun b hb=>Z646 (by
         rintro rfl
         obtain ⟨c,r,K⟩:=T.ctx hp
         rcases hb with hb | hb
         ·have n1:=(Qj.mp C1.nd).1
          obtain ⟨x1,z1,o1,_⟩:=Z200 (f:=TL.own1) hk
          unfold ownS at n1
          rw [o1] at n1
          have n2:=(Qj.mp ((Qj.mp n1).2.1)).1
          have n3:=(Qj.mp (K.own.nodup_iff.mp n2)).2.1
          simp only [T.own,hkn.1,if_true,Wq,Ji] at n3
          exact n3.1 (T.mem_owns.mpr ⟨y,hy,hb⟩)
         ·refine (C1.sep b (.inl (Z364.mpr ⟨true,u,Qg hk,K.ro.mem_iff.mpr (Qf _ ?_)⟩))).1 ha2
          simp only [T.ro,hkn.1,if_true,Je]
          exact T.mem_ros.mpr ⟨y,hy,hb⟩)
        cases eh:h ds with
        | none=>rw [eh] at q;exact q.elim
        | some op =>
         rw [eh] at q
         have arg:∀ {m:Nat} {x:D} ,(tvs[m]?).map TV.er=some (.val x)→∃ t,tvs[m]?=some (.val t)∧l[m]?=some t∧t.er=x:=by
          intro m x hx
          cases em:tvs[m]? with
          | none=>rw [em] at hx;cases hx
          | some tv =>
           rw [em] at hx
           cases tv with
           | plc _ _ _=>cases hx
           | val t =>
            cases hx
            have hml:m < l.length:=by rw [l4];exact (Qc.mp em).1
            rcases l5 m _ _ em (Qh hml) with z | ⟨_,_,_,_,_,z,_⟩
            ·cases z;exact ⟨l[m],rfl,Qh hml,rfl⟩
            ·cases z
         cases op with
         | add kd' m =>
          simp only [hkn.1,if_true] at q
          cases em:(tvs[m]?).map TV.er with
          | none=>rw [em] at q;exact q.elim
          | some r =>
           rw [em] at q
           cases r with
           | plc _ _=>exact q.elim
           | val x =>
            obtain ⟨t,t1,t2,rfl⟩:=arg em
            refine ⟨.add kd' m,hn,hkn.1,by rw [l1];exact eh,t,t2,fun o ho=>?_⟩
            obtain ⟨n1,n2⟩:=HoOk.node (H:=H1) (a:=a2) ho
            obtain ⟨x,p1,p2,p3⟩:=Z632 t1
            have W:=Cf.write (kd':=kd') (l':=ch++[t]) (fr':=fr) (x:=x) (o:=o) (keep:=fun _=>true) C1 hk hp hkn.1 n2
             ⟨by simpa using n1,T.oks_app.mpr ⟨T.oks_iff.mpr (kid o),stay o t (Qi _ (p3 t (by simp [TV.tr]))),trivial⟩⟩ (T.oks_iff.mpr fun y hy=>stay o y (Qf _ hy))
             (by
              rw [T.owns_app,T.owns_app]
              refine Qw.mpr fun b=>?_
              have:=Qw.mp p1 b
              simp only [TV.tr,T.owns,Jj,List.count_nil] at this ⊢
              omega)
             (fun b hb=>by
              rw [T.ros_app] at hb ⊢
              rcases hb with hb | hb
              ·rcases Qe.mp hb with hb | hb
               ·exact .inl hb
               ·exact .inr (.inl (Qi _ (p2 b (by simpa [TV.tr] using hb))))
              ·exact .inr (.inl (Qf _ hb)))
             (fun i c _ hc=>by rw [Qo (Qc.mp hc).1];exact hc)
            refine q _ _ (.val (.at .non)) .non ?_ rfl rfl (W.at .non)
            rw [wr_er hk]
            simp only [T.er,T.ers_eq,Qv,Ql,Wm]
         | set j m =>
          simp only [hkn.1,true_and] at q
          by_cases hj:j < (T.ers ch).length
          case neg=>rw [if_neg hj] at q;exact q.elim
          rw [if_pos hj] at q
          have hj:j < ch.length:=by simpa [T.ers_eq] using hj
          cases em:(tvs[m]?).map TV.er with
          | none=>rw [em] at q;exact q.elim
          | some r =>
           rw [em] at q
           cases r with
           | plc _ _=>exact q.elim
           | val x =>
            obtain ⟨t,t1,t2,rfl⟩:=arg em
            refine ⟨.set j m,hn,hkn.1,by rw [l1];exact eh,t,t2,hj,fun o ho=>?_⟩
            obtain ⟨n1,n2⟩:=HoOk.node (H:=H1) (a:=a2) ho
            obtain ⟨x,p1,p2,p3⟩:=Z632 t1
            obtain ⟨x0,y0,c1,c2⟩:=T.owns_get (Qh hj)
            have W:=Cf.write (kd':=kd) (l':=ch.set j t) (fr':=fr) (x:=ch[j].own++x) (o:=o) (keep:=fun i=>i != j) C1 hk hp hkn.1 n2
             ⟨by rw [Wa];exact n1,T.oks_iff.mpr fun y hy=>by
              rcases List.mem_or_eq_of_mem_set hy with hy | rfl
              ·exact kid o y hy
              ·exact stay o _ (Qi _ (p3 _ (by simp [TV.tr])))⟩ (T.oks_iff.mpr fun y hy=>stay o y (Qf _ hy))
             (by
              rw [T.owns_app,c1,c2]
              refine Qw.mpr fun b=>?_
              have:=Qw.mp p1 b
              simp only [TV.tr,T.owns,Jj,List.count_nil] at this ⊢
              omega)
             (fun b hb=>by
              rw [T.ros_app]
              rcases hb with hb | hb
              ·obtain ⟨y,hy,hb2⟩:=T.mem_ros.mp hb
               rcases List.mem_or_eq_of_mem_set hy with hy | hy
               ·exact .inl (T.mem_ros.mpr ⟨y,hy,hb2⟩)
               ·rw [hy] at hb2
                exact .inr (.inl (Qi _ (p2 b (by simpa [TV.tr,T.ros] using hb2))))
              ·exact .inr (.inl (Qf _ hb)))
             (fun i c hi hc=>by
              have:j≠i:=by rintro rfl;simp at hi
              rw [Qm,if_neg this];exact hc)
            refine q _ _ (.val (.at .non)) .non ?_ rfl rfl (W.at .non)
            rw [wr_er hk]
            simp only [T.er,T.ers_eq,Wa]
end
end RM

namespace RM
open PySem PySem.Spec PyProof.Rows L2
noncomputable def unrootD(j:Nat):DL→DL
 | .bor k q=>if k=j then .non else .bor k q
 | s=>s
noncomputable def unrootT(j:Nat):TL→TL
 | .bor k q a=>if k=j then .non else .bor k q a
 | s=>s
theorem Z643{j:Nat}(s:TL):(unrootT j s).er=unrootD j s.er:=by
 cases s with
 | bor k q a =>
  show (if k=j then TL.non else _).er=if k=j then DL.non else _
  split <;> rfl
 | _=>rfl
theorem Z642{j:Nat}(s:TL):(unrootT j s=s∧∀ q a,s≠.bor j q a)∨(unrootT j s=.non∧∃ q a,s=.bor j q a):=by
 cases s with
 | bor k q a =>
  by_cases h:k=j
  ·subst h;exact .inr ⟨if_pos rfl,q,a,rfl⟩
  ·exact .inl ⟨if_neg h,fun q' a' z=>h (by cases z;rfl)⟩
 | non=>exact .inl ⟨rfl,fun _ _ z=>by cases z⟩
 | own w t=>exact .inl ⟨rfl,fun _ _ z=>by cases z⟩
theorem Z644{α:Type}{f:TL→List α}{j:Nat}(hb:∀ k q a,f (.bor k q a)=f .non)(ts:Ts):(ts.map (unrootT j)).flatMap f=ts.flatMap f:=by
 induction ts with
 | nil=>rfl
 | cons t r ih =>
  simp only [Ql,Ju,ih]
  rcases Z642 (j:=j) t with ⟨e,_⟩ | ⟨e,q,a,rfl⟩
  ·rw [e]
  ·rw [e,hb]
noncomputable def asgD(j:Nat)(s:Sd):DV→Option Sd
 | .val d=>some ((s.map (unrootD j)).set j (.own true d))
 | .plc k p=>if k=j then (if p=[] then some s else none) else some ((s.map (unrootD j)).set j (.bor k p))
section
variable {R:RC}{ix:List Nat}{hd:List (Nat×Addr)}{X:Cx}{e:Expr}{H H':Hp}{σ:L2.St}{ts:Ts}{fr:List T}
theorem Cf.slot{i j:Nat}{y:TL}{m:List T}{v:V}(C:Cf R ix hd H σ ts (m++fr))(hix:ix[i]?=some j)(hnd:ix.Nodup)(hv:y.v=some v)(hm:(∃ t,y=.own true t∧m=[t])∨(m=[]∧∃ k p a,y=.bor k p a∧k≠j∧PlOk ts k p a)) :
  Cf R ix hd H (σ.set i (some v)) ((ts.map (unrootT j)).set j y) fr:=by
 have hj:j < ts.length:=C.ixs j (Qg hix)
 obtain ⟨y0,hy0⟩:∃ y0,ts[j]?=some y0:=⟨ts[j],Qh hj⟩
 have hy0':(ts.map (unrootT j))[j]?=some (unrootT j y0):=by rw [Qa,hy0];rfl
 obtain ⟨x1,z1,o1,o2⟩:=Z200 (f:=TL.own1) hy0'
 obtain ⟨x2,z2,r1,r2⟩:=Z200 (f:=TL.ro1) hy0'
 obtain ⟨x3,z3,d1,d2⟩:=Z200 (f:=TL.rd1) hy0'
 rw [Z644 (by intros;rfl)] at o1 r1 d1
 have e1:(unrootT j y0).own1=y0.own1∧(unrootT j y0).ro1=y0.ro1∧(unrootT j y0).rd1=y0.rd1:=by
  rcases Z642 (j:=j) y0 with ⟨e,_⟩ | ⟨e,q,a,rfl⟩ <;> rw [e] <;> exact ⟨rfl,rfl,rfl⟩
 rw [e1.1] at o1;rw [e1.2.1] at r1;rw [e1.2.2] at d1
 have fO:ownS ts=x1++(y0.own1++z1):=o1
 have fR:roS ts=x2++(y0.ro1++z2):=r1
 have fD:rdS ts=x3++(y0.rd1++z3):=d1
 have gO:ownS ((ts.map (unrootT j)).set j y)=x1++(y.own1++z1):=o2 y
 have gR:roS ((ts.map (unrootT j)).set j y)=x2++(y.ro1++z2):=r2 y
 have gD:rdS ((ts.map (unrootT j)).set j y)=x3++(y.rd1++z3):=d2 y
 have yo:y.own1=T.owns m:=by
  rcases hm with ⟨t,rfl,rfl⟩ | ⟨rfl,k,p,a,rfl,_⟩
  ·simp [TL.own1,T.owns]
  ·rfl
 have yr:y.ro1=T.ros m:=by
  rcases hm with ⟨t,rfl,rfl⟩ | ⟨rfl,k,p,a,rfl,_⟩
  ·simp [TL.ro1,T.ros]
  ·rfl
 have yd:y.rd1=[]:=by
  rcases hm with ⟨t,rfl,rfl⟩ | ⟨rfl,k,p,a,rfl,_⟩ <;> rfl
 have pm:(ownS ts++T.owns (m++fr)).Perm ((x1++(y.own1++z1)++T.owns fr)++y0.own1):=by
  rw [fO,T.owns_app,yo]
  refine Qw.mpr fun b=>?_
  simp only [Jj];omega
 have nd2:=Qj.mp (pm.nodup_iff.mp C.nd)
 have sub1:∀ b,b∈x1++(y.own1++z1)∨b∈T.owns fr→b∈ownS ts∨b∈T.owns (m++fr):=fun b z=>Qe.mp (pm.mem_iff.mpr (Qi _ (by
  rcases z with z | z
  ·exact Qi _ z
  ·exact Qf _ z)))
 have slot:∀ (j':Nat) (s:TL),((ts.map (unrootT j)).set j y)[j']?=some s→(j'=j∧s=y)∨(j'≠j∧∃ s0,ts[j']?=some s0∧s=unrootT j s0):=by
  intro j' s hs
  rw [Qm] at hs
  by_cases h:j=j'
  ·subst h
   rw [if_pos rfl,if_pos (by simpa using hj)] at hs
   cases hs;exact .inl ⟨rfl,rfl⟩
  ·rw [if_neg h,Qa] at hs
   cases e:ts[j']? with
   | none=>rw [e] at hs;cases hs
   | some s0=>rw [e] at hs;cases hs;exact .inr ⟨Ne.symm h,s0,rfl,rfl⟩
 have plk:∀ {k:Nat} {p:List Nat} {a:Addr},k≠j→PlOk ts k p a→PlOk ((ts.map (unrootT j)).set j y) k p a:=by
  rintro k p a hk ⟨w,u,s,h1,h2,h3⟩
  exact ⟨w,u,s,by rw [Qm,if_neg (Ne.symm hk),Qa,h1];rfl,h2,h3⟩
 have lenS:((ts.map (unrootT j)).set j y).length=ts.length:=by simp
 have hi:i < σ.length:=Jc (Qc.mp hix).1 C.len
 refine ⟨fun w u hu=>?_,(T.oks_app.mp C.fok).2,by rw [gO];exact nd2.1,fun b z=>?_,fun b z=>?_,fun b z=>?_,C.bg,fun j' k q b hj'=>?_,fun j' hj'=>by rw [lenS];exact C.ixs j' hj',fun i' j' s u h1 h2 h3=>?_,fun j' b hb=>by rw [lenS];exact C.hdi j' b hb,C.hdx,by rw [List.length_set];exact C.len,fun j' b hb s u h2 h3=>?_⟩
 ·obtain ⟨j',hj'⟩:=Qz.mp hu
  rcases slot j' _ hj' with ⟨rfl,e⟩ | ⟨_,s0,h0,e⟩
  ·rcases hm with ⟨t,rfl,rfl⟩ | ⟨rfl,k,p,a,rfl,_⟩
   ·cases e;exact (T.oks_app.mp C.fok).1.1
   ·cases e
  ·rcases Z642 (j:=j) s0 with ⟨e',_⟩ | ⟨e',_⟩
   ·rw [e'] at e;subst e;exact C.ok w u (Qg h0)
   ·rw [e'] at e;cases e
 ·have old:b∈roS ts∨b∈T.ros (m++fr)→b∉x1++(y.own1++z1)∧b∉T.owns fr∧¬ R.B b:=fun z=>by
   obtain ⟨h1,h2,h3⟩:=C.sep b z
   exact ⟨fun q=>(sub1 b (.inl q)).elim h1 h2,fun q=>(sub1 b (.inr q)).elim h1 h2,h3⟩
  rw [gO]
  rw [gR] at z
  rcases z with z | z
  ·rw [yr] at z
   simp only [Qe] at z
   rcases z with z | z | z
   ·exact old (.inl (by rw [fR];simp [z]))
   ·exact old (.inr (by rw [T.ros_app];simp [z]))
   ·exact old (.inl (by rw [fR];simp [z]))
  ·exact old (.inr (by rw [T.ros_app];simp [z]))
 ·rw [gO]
  rw [gD,yd] at z
  have z':b∈rdS ts:=by
   rw [fD]
   simp only [Je,Qe] at z ⊢
   rcases z with z | z <;> simp [z]
  obtain ⟨h1,h2⟩:=C.rd b z'
  exact ⟨fun q=>(sub1 b (.inl q)).elim h1 h2,fun q=>(sub1 b (.inr q)).elim h1 h2⟩
 ·rw [gO]
  obtain ⟨g1,g2,g3,g4⟩:=C.g b z
  exact ⟨g1,g2,fun q=>(sub1 b (.inl q)).elim g3 g4,fun q=>(sub1 b (.inr q)).elim g3 g4⟩
 ·rcases slot j' _ hj' with ⟨rfl,e⟩ | ⟨_,s0,h0,e⟩
  ·rcases hm with ⟨t,rfl,rfl⟩ | ⟨rfl,k',p',a',rfl,hk,hp⟩
   ·cases e
   ·cases e;exact plk hk hp
  ·rcases Z642 (j:=j) s0 with ⟨e',hne⟩ | ⟨e',_⟩
   ·rw [e'] at e
    subst e
    exact plk (fun z=>hne q b (by rw [z])) (C.bor j' k q b h0)
   ·rw [e'] at e;cases e
 ·rcases slot j' _ h2 with ⟨rfl,rfl⟩ | ⟨hne,s0,h0,rfl⟩
  ·have:i'=i:=by
    have a1:=(Qc.mp h1)
    have a2:=(Qc.mp hix)
    exact (Wu hnd).mp (a1.2.trans a2.2.symm)
   subst this
   rw [hv] at h3
   cases h3
   rw [Qm,if_pos rfl,if_pos hi]
  ·have hii:i≠i':=by rintro rfl;rw [hix] at h1;cases h1;exact hne rfl
   rw [Qm,if_neg hii]
   refine C.sl i' j' s0 u h1 h0 ?_
   rcases Z642 (j:=j) s0 with ⟨e',_⟩ | ⟨e',_⟩
   ·rwa [e'] at h3
   ·rw [e'] at h3;cases h3
 ·have hne:j'≠j:=by rintro rfl;exact C.hdx j' b hb (Qg hix)
  rcases slot j' _ h2 with ⟨rfl,rfl⟩ | ⟨_,s0,h0,rfl⟩
  ·exact absurd rfl hne
  ·refine C.hdn j' b hb s0 u h0 ?_
   rcases Z642 (j:=j) s0 with ⟨e',_⟩ | ⟨e',_⟩
   ·rwa [e'] at h3
   ·rw [e'] at h3;cases h3
noncomputable def lG(R:RC)(ix:List Nat)(b:Sd→DV→Option Sd):TG:=fun v σ H Q=>∃ hd ts fr tv,Cf R ix hd H σ ts (tv.tr++fr)∧TvOk ts v tv∧∃ s',b (ts.map TL.er) tv.er=some s'∧∀ σ' ts',ts'.map TL.er=s'→Cf R ix hd H σ' ts' fr→Q σ' H
theorem Z301{i j:Nat}(hix:ix[i]?=some j)(hnd:ix.Nodup)(v:V)(σ:L2.St)(H:Hp)(Q:L2.St→Hp→Prop)(h:lG R ix (asgD j) v σ H Q):gName i v σ H Q:=by
 obtain ⟨hd,ts,fr,tv,C,hv,s',hs,q⟩:=h
 have er1:∀ y:TL,((ts.map (unrootT j)).set j y).map TL.er=((ts.map TL.er).map (unrootD j)).set j y.er:=fun y=>by
  rw [Wa,Jk,Jk]
  exact congrArg (fun l=>List.set l j y.er) (Wf fun s _=>Z643 s)
 cases tv with
 | val t =>
  cases hv
  cases hs
  exact q _ _ (er1 (.own true t)) (Cf.slot (y:=.own true t) C hix hnd rfl (.inl ⟨t,rfl,rfl⟩))
 | plc k p a =>
  obtain ⟨rfl,hp⟩:=hv
  simp only [TV.er,asgD] at hs
  by_cases hk:k=j
  ·subst hk
   rw [if_pos rfl] at hs
   by_cases hp0:p=[]
   ·subst hp0
    rw [if_pos rfl] at hs
    cases hs
    have:σ.set i (some (.ref a))=σ:=by
     obtain ⟨w,t,s,h1,h2,h3⟩:=hp
     cases h2
     have h4:=C.sl i k _ _ hix h1 rfl
     rw [h3] at h4
     refine Jz fun n=>?_
     rw [Qm]
     by_cases hn:i=n
     ·subst hn
      rw [if_pos rfl,if_pos (Qc.mp h4).1,h4]
     ·rw [if_neg hn]
    show Q (σ.set i (some (.ref a))) H
    rw [this]
    exact q σ ts rfl C
   ·rw [if_neg hp0] at hs;cases hs
  ·rw [if_neg hk] at hs
   cases hs
   exact q _ _ (er1 (.bor k p a)) (Cf.slot (y:=.bor k p a) (m:=[]) C hix hnd rfl (.inr ⟨rfl,k,p,a,rfl,hk,hp⟩))
end
end RM

namespace RM
open PySem PySem.Spec PyProof.Rows L2
noncomputable def bV(f:EF):BF:=fun s=>match f s with
 | .ok (.val (.at (.bl b))) s1=>.ok b s1
 | .ok _ _=>.no
 | .ex C s1=>.ex C s1
 | .no=>.no
noncomputable def bNot(f:BF):BF:=fun s=>match f s with
 | .ok b s1=>.ok (!b) s1
 | r=>r
noncomputable def bAnd(f g:BF):BF:=fun s=>match f s with
 | .ok true s1=>g s1
 | r=>r
noncomputable def bOr(f g:BF):BF:=fun s=>match f s with
 | .ok false s1=>g s1
 | r=>r
noncomputable def sSeq(f g:SF):SF:=fun s=>match f s with
 | .nx s1=>g s1
 | r=>r
noncomputable def sIf(c:BF)(a b:SF):SF:=fun s=>match c s with
 | .ok true s1=>a s1
 | .ok false s1=>b s1
 | .ex C s1=>.ex C s1
 | .no=>.no
noncomputable def sE(f:EF):SF:=fun s=>match f s with
 | .ok _ s1=>.nx s1
 | .ex C s1=>.ex C s1
 | .no=>.no
noncomputable def sRet(f:EF):SF:=fun s=>match f s with
 | .ok r s1=>.rt r s1
 | .ex C s1=>.ex C s1
 | .no=>.no
noncomputable def sRetN:SF:=fun s=>.rt (.val (.at .non)) s
noncomputable def sPass:SF:=fun s=>.nx s
noncomputable def sBrk:SF:=fun s=>.bk s
noncomputable def sCt:SF:=fun s=>.ct s
noncomputable def sAsg(f:EF)(b:Sd→DV→Option Sd):SF:=fun s=>match f s with
 | .ok r s1=>(match b s1 r with | some s2=>.nx s2 | none=>.no)
 | .ex C s1=>.ex C s1
 | .no=>.no
noncomputable def eIf(c:BF)(a b:EF):EF:=fun s=>match c s with
 | .ok true s1=>a s1
 | .ok false s1=>b s1
 | .ex C s1=>.ex C s1
 | .no=>.no
section
variable {R:RC}{ix:List Nat}{hd:List (Nat×Addr)}{X:Cx}{e:Expr}{H H':Hp}{σ:L2.St}{ts:Ts}{fr:List T}
theorem lT_v{f:EF}(σ:L2.St)(H:Hp)(Q:Bool→Hp→Prop)(h:lT R ix (bV f) σ H Q):lE R ix f σ H fun x H1=>∃ c,x=.bl c∧Q c H1:=by
 obtain ⟨hd,ts,fr,C,h⟩:=h
 refine ⟨hd,ts,fr,C,?_⟩
 unfold bV at h
 cases ef:f (ts.map TL.er) with
 | no=>rw [ef] at h;exact h
 | ex E s1=>rw [ef] at h;exact h
 | ok r s1 =>
  rw [ef] at h
  intro H1 ts1 tv v e1 e2 hv C1
  cases r with
  | plc k p=>exact h.elim
  | val d =>
   obtain ⟨t,rfl,rfl,rfl⟩:=hv.er_val e2
   cases t with
   | nd a k l=>exact h.elim
   | «at» v =>
    cases v with
    | bl b=>exact ⟨b,rfl,h H1 ts1 e1 C1.drop⟩
    | _=>exact h.elim
theorem Z315{f:BF}(σ:L2.St)(H:Hp)(Q:Bool→Hp→Prop)(h:lT R ix (bNot f) σ H Q):tNot (lT R ix f) σ H Q:=by
 obtain ⟨hd,ts,fr,C,h⟩:=h
 refine ⟨hd,ts,fr,C,?_⟩
 unfold bNot at h
 cases ef:f (ts.map TL.er) with
 | no=>rw [ef] at h;exact h
 | ex E s1=>rw [ef] at h;exact h
 | ok r s1=>rw [ef] at h;exact h
theorem Z314{f g:BF}(σ:L2.St)(H:Hp)(Q:Bool→Hp→Prop)(h:lT R ix (bAnd f g) σ H Q):tAnd (lT R ix f) (lT R ix g) σ H Q:=by
 obtain ⟨hd,ts,fr,C,h⟩:=h
 refine ⟨hd,ts,fr,C,?_⟩
 unfold bAnd at h
 cases ef:f (ts.map TL.er) with
 | no=>rw [ef] at h;exact h
 | ex E s1=>rw [ef] at h;exact h
 | ok r s1 =>
  rw [ef] at h
  intro H1 ts1 e1 C1
  cases r with
  | true=>subst e1;rw [if_pos rfl];exact ⟨hd,ts1,fr,C1,h⟩
  | false=>rw [if_neg Qt];exact h H1 ts1 e1 C1
theorem lT_or{f g:BF}(σ:L2.St)(H:Hp)(Q:Bool→Hp→Prop)(h:lT R ix (bOr f g) σ H Q):tOr (lT R ix f) (lT R ix g) σ H Q:=by
 obtain ⟨hd,ts,fr,C,h⟩:=h
 refine ⟨hd,ts,fr,C,?_⟩
 unfold bOr at h
 cases ef:f (ts.map TL.er) with
 | no=>rw [ef] at h;exact h
 | ex E s1=>rw [ef] at h;exact h
 | ok r s1 =>
  rw [ef] at h
  intro H1 ts1 e1 C1
  cases r with
  | true=>rw [if_pos rfl];exact h H1 ts1 e1 C1
  | false=>subst e1;rw [if_neg Qt];exact ⟨hd,ts1,fr,C1,h⟩
theorem Z313{f g:SF}(D:Ends)(σ:L2.St)(H:Hp)(h:lS R ix (sSeq f g) D σ H):tSeq (lS R ix f) (lS R ix g) D σ H:=by
 obtain ⟨hd,ts,fr,C,h⟩:=h
 refine ⟨hd,ts,fr,C,?_⟩
 unfold sSeq at h
 cases ef:f (ts.map TL.er) with
 | nx s1 =>
  rw [ef] at h
  intro H1 σ1 ts1 e1 C1
  subst e1
  exact ⟨hd,ts1,fr,C1,h⟩
 | no=>rw [ef] at h;exact h
 | ex E s1=>rw [ef] at h;exact h
 | rt r s1=>rw [ef] at h;exact h
 | bk s1=>rw [ef] at h;exact h
 | ct s1=>rw [ef] at h;exact h
theorem lS_if{c:BF}{f g:SF}(D:Ends)(σ:L2.St)(H:Hp)(h:lS R ix (sIf c f g) D σ H):tIfS (lT R ix c) (lS R ix f) (lS R ix g) D σ H:=by
 obtain ⟨hd,ts,fr,C,h⟩:=h
 refine ⟨hd,ts,fr,C,?_⟩
 unfold sIf at h
 cases ef:c (ts.map TL.er) with
 | no=>rw [ef] at h;exact h
 | ex E s1=>rw [ef] at h;intro H1 ts1 e1 C1;exact h H1 σ ts1 e1 C1
 | ok r s1 =>
  rw [ef] at h
  intro H1 ts1 e1 C1
  subst e1
  cases r with
  | true=>rw [if_pos rfl];exact ⟨hd,ts1,fr,C1,h⟩
  | false=>rw [if_neg Qt];exact ⟨hd,ts1,fr,C1,h⟩
theorem lS_e{f:EF}(D:Ends)(σ:L2.St)(H:Hp)(h:lS R ix (sE f) D σ H):tDrop (lE R ix f) D σ H:=by
 obtain ⟨hd,ts,fr,C,h⟩:=h
 refine ⟨hd,ts,fr,C,?_⟩
 unfold sE at h
 cases ef:f (ts.map TL.er) with
 | no=>rw [ef] at h;exact h
 | ex E s1=>rw [ef] at h;intro H1 ts1 e1 C1;exact h H1 σ ts1 e1 C1
 | ok r s1=>rw [ef] at h;intro H1 ts1 tv v e1 e2 hv C1;exact h H1 σ ts1 e1 C1.drops
theorem Z312{f:EF}(D:Ends)(σ:L2.St)(H:Hp)(h:lS R ix (sRet f) D σ H):tRet (lE R ix f) D σ H:=by
 obtain ⟨hd,ts,fr,C,h⟩:=h
 refine ⟨hd,ts,fr,C,?_⟩
 unfold sRet at h
 cases ef:f (ts.map TL.er) with
 | no=>rw [ef] at h;exact h
 | ex E s1=>rw [ef] at h;intro H1 ts1 e1 C1;exact h H1 σ ts1 e1 C1
 | ok r s1=>rw [ef] at h;intro H1 ts1 tv v e1 e2 hv C1;exact h H1 σ ts1 tv v e1 e2 hv C1
theorem Z311(D:Ends)(σ:L2.St)(H:Hp)(h:lS R ix sPass D σ H):tNext D σ H:=by
 obtain ⟨hd,ts,fr,C,h⟩:=h
 exact h H σ ts rfl C
theorem Z305{f:EF}{b:Sd→DV→Option Sd}(D:Ends)(σ:L2.St)(H:Hp)(h:lS R ix (sAsg f b) D σ H):tAsg (lE R ix f) (lG R ix b) D σ H:=by
 obtain ⟨hd,ts,fr,C,h⟩:=h
 refine ⟨hd,ts,fr,C,?_⟩
 unfold sAsg at h
 cases ef:f (ts.map TL.er) with
 | no=>rw [ef] at h;exact h
 | ex E s1=>rw [ef] at h;intro H1 ts1 e1 C1;exact h H1 σ ts1 e1 C1
 | ok r s1 =>
  rw [ef] at h
  intro H1 ts1 tv v e1 e2 hv C1
  subst e1 e2
  refine ⟨hd,ts1,fr,tv,C1,hv,?_⟩
  dsimp only at h
  cases eb:b (ts1.map TL.er) tv.er with
  | none=>rw [eb] at h;exact h.elim
  | some s2=>rw [eb] at h;exact ⟨s2,rfl,fun σ' ts' e C'=>h H1 σ' ts' e C'⟩
end
section
variable {R:RC}{ix:List Nat}{X:Cx}{e a b c:Expr}{st:Stmt}{sts as bs:List Stmt}{pos:Pos}{f g:SF}{fe fa fb:EF}{fc fd:BF}
theorem Z545:PSs X [] (lS R ix sPass):=pssM Z489 Z311
theorem Z543(h1:PS X st (lS R ix f))(h2:PSs X sts (lS R ix g)):PSs X (st::sts) (lS R ix (sSeq f g)):=pssM (Z488 h1 h2) Z313
theorem Z547(h1:PS X st (lS R ix f)):PSs X [st] (lS R ix f):=Z490 h1
theorem rs_if(hc:PT X c (lT R ix fc))(ha:PSs X as (lS R ix f))(hb:PSs X bs (lS R ix g)):PS X (.If c as bs pos) (lS R ix (sIf fc f g)):=psM (ps_if hc ha hb) lS_if
theorem rs_e(he:PE X e (lE R ix fe))(hs:swapsWith e none pos.line X.env=pure false:=by rfl):PS X (.Expr e pos) (lS R ix (sE fe)):=psM (Z483 he hs) lS_e
theorem Z540(he:PE X e (lE R ix fe)):PS X (.Return (some e) pos) (lS R ix (sRet fe)):=psM (Z486 he) Z312
theorem Z524{i j:Nat}{x:Str}(hN:X.N.Nodup)(hi:X.N[i]?=some x)(hx:Loc X.env.scope x)(hix:ix[i]?=some j)(hnd:ix.Nodup)(hf:X.fn x=true∨X.env.scope.names.lookup x=some .local:=by first | exact .inl rfl | exact .inr rfl | assumption):PG X (.Name x pos) (lG R ix (asgD j)):=by
 intro pins s σ H v u Q I r h
 exact Z470 hN hi hx hf pins s σ H v u Q I r (Z301 hix hnd v σ H Q h)
theorem Z532{tg:Expr}{bd:Sd→DV→Option Sd}(he:PE X e (lE R ix fe))(hg:PG X tg (lG R ix bd))(hs:swapsWithSole [tg] e pos.line X.env=pure false:=by rfl)(hw:swappedStores [tg] e X.env=pure none:=by rfl)(h1:(assignEach [tg] X.env).map (·.2)=[assign tg X.env]:=by rfl):PS X (.Assign [tg] e pos) (lS R ix (sAsg fe bd)) :=
 psM (Z481 he hg hs hw h1) Z305
theorem rt_v(h:PE X e (lE R ix fe))(he:∀ whole,isTrue e X.env whole=(do let v ← whole;standAt e.pos;holding [v] (truthy v)):=by intro _;rfl):PT X e (lT R ix (bV fe)):=ptM (Z494 h he) lT_v
theorem Z550(h:PT X a (lT R ix fc)):PT X (.UnaryOp .Not a pos) (lT R ix (bNot fc)):=ptM (Z493 h) Z315
theorem Z556(h:PT X a (lT R ix fc)):PW X (.BoolOp .And [a] pos) (lT R ix fc):=Z499 h
theorem Z557(h:PT X a (lT R ix fc)):PW X (.BoolOp .Or [a] pos) (lT R ix fc):=Z500 h
theorem Z555{rest:List Expr}(ha:PT X a (lT R ix fc))(hb:PW X (.BoolOp .And (b::rest) pos) (lT R ix fd)):PW X (.BoolOp .And (a::b::rest) pos) (lT R ix (bAnd fc fd)) :=
 fun whole pins s σ H Q I q=>Z498 ha hb whole pins s σ H Q I (Z314 σ H Q q)
theorem rw_or{rest:List Expr}(ha:PT X a (lT R ix fc))(hb:PW X (.BoolOp .Or (b::rest) pos) (lT R ix fd)):PW X (.BoolOp .Or (a::b::rest) pos) (lT R ix (bOr fc fd)) :=
 fun whole pins s σ H Q I q=>pw_or ha hb whole pins s σ H Q I (lT_or σ H Q q)
end
end RM

namespace RM
open PySem PySem.Spec PyProof.Rows L2
noncomputable def loopG(it:Nat→Sd→Option (Option DV))(b:Sd→DV→Option Sd)(body:SF):Nat→Nat→Sd→SR
 | 0,_,_=>.no
 | m + 1,i,s=>match it i s with
  | none=>.no
  | some none=>.nx s
  | some (some r)=>match b s r with
   | none=>.no
   | some s1=>match body s1 with
    | .nx s2=>loopG it b body m (i + 1) s2
    | .ct s2=>loopG it b body m (i + 1) s2
    | .bk s2=>.nx s2
    | .rt r s2=>.rt r s2
    | .ex C s2=>.ex C s2
    | .no=>.no
noncomputable def popD(n:Nat)(s:Sd):Option Sd:=if s.length=n + 1 then some (s.map (unrootD n)).dropLast else none
noncomputable def fin(n:Nat):SR→SR
 | .nx s=>(match popD n s with | some s'=>.nx s' | none=>.no)
 | .rt (.val d) s=>(match popD n s with | some s'=>.rt (.val d) s' | none=>.no)
 | .rt (.plc k p) s=>if k=n then .no else (match popD n s with | some s'=>.rt (.plc k p) s' | none=>.no)
 | .ex C s=>(match popD n s with | some s'=>.ex C s' | none=>.no)
 | _=>.no
noncomputable def held(n k:Nat)(p:List Nat)(s:Sd):Bool:=match s[n]? with
 | some (.bor k' p')=>decide (k'=k) && decide (p'=p)
 | some (.own _ _)=>decide (k=n) && decide (p=[])
 | _=>false
noncomputable def itP(isT:Bool)(n k:Nat)(p:List Nat)(i:Nat)(s:Sd):Option (Option DV):=if held n k p s then (match dref s (.plc k p),isT with
  | some (.nd (.lst _) l),false=>some ((l[i]?).map (mkV k (p++[i])))
  | some (.nd .tup l),true=>some ((l[i]?).map (mkV k (p++[i])))
  | _,_=>none) else none
noncomputable def seqOf:Option D→Option (Bool×Nat)
 | some (.nd (.lst _) l)=>some (false,l.length)
 | some (.nd .tup l)=>some (true,l.length)
 | _=>none
noncomputable def sForL(f:EF)(b:Sd→DV→Option Sd)(body:SF):SF:=fun s=>match f s with
 | .ok (.plc k p) s1=>(match seqOf (dref s1 (.plc k p)) with
  | some (t,m)=>fin s1.length (loopG (itP t s1.length k p) b body (m + 1) 0 (s1++[.bor k p]))
  | none=>.no)
 | .ok (.val d) s1=>(match seqOf (some d) with
  | some (t,m)=>fin s1.length (loopG (itP t s1.length s1.length []) b body (m + 1) 0 (s1++[.own true d]))
  | none=>.no)
 | .ex C s1=>.ex C s1
 | .no=>.no
noncomputable def itR(lo:Int)(n:Nat)(i:Nat)(_:Sd):Option (Option DV):=some (if i < n then some (.val (.at (.int (lo + i)))) else none)
noncomputable def sForR(f:AF)(b:Sd→DV→Option Sd)(body:SF):SF:=fun s=>match f s with
 | .ok [.val (.at (.int j))] s1=>if -(2 ^ 62)≤j∧j < 2 ^ 62 then loopG (itR 0 j.toNat) b body (j.toNat + 1) 0 s1 else .no
 | .ok [.val (.at (.int i)),.val (.at (.int j))] s1=>if -(2 ^ 62)≤i∧i < 2 ^ 62∧-(2 ^ 62)≤j∧j < 2 ^ 62 then loopG (itR i (j - i).toNat) b body ((j - i).toNat + 1) 0 s1 else .no
 | .ok _ _=>.no
 | .ex C s1=>.ex C s1
 | .no=>.no
theorem map1{α β:Type}{f:α→β}{l:List α}{b:β}(h:l.map f=[b]):∃ a,l=[a]∧f a=b:=by
 cases l with
 | nil=>cases h
 | cons x r=>cases r with
  | nil=>simp at h;exact ⟨x,rfl,h⟩
  | cons y r=>simp at h
theorem map2{α β:Type}{f:α→β}{l:List α}{b c:β}(h:l.map f=[b,c]):∃ x y,l=[x,y]∧f x=b∧f y=c:=by
 cases l with
 | nil=>cases h
 | cons x r =>
  simp only [Ql,Wk.injEq] at h
  obtain ⟨y,rfl,h2⟩:=map1 h.2
  exact ⟨x,y,rfl,h.1,h2⟩
section
variable {R:RC}{ix:List Nat}{hd:List (Nat×Addr)}{X:Cx}{e:Expr}{H H':Hp}{σ:L2.St}{ts:Ts}{fr:List T}{D:Ends}
noncomputable def Post(R:RC)(ix:List Nat)(hd:List (Nat×Addr))(fr:List T)(D:Ends):SR→Prop
 | .nx s'=>∀ H' σ' ts',ts'.map TL.er=s'→Cf R ix hd H' σ' ts' fr→D.nx σ' H'
 | .rt r s'=>∀ H' σ' ts' tv v,ts'.map TL.er=s'→tv.er=r→TvOk ts' v tv→Cf R ix hd H' σ' ts' (tv.tr++fr)→D.rt v H'
 | .ex C s'=>∀ H' σ' ts',ts'.map TL.er=s'→Cf R ix hd H' σ' ts' fr→R.EX σ' (.ref (R.ad C)) none H'
 | _=>False
theorem Z349{J:It}{it:Nat→Sd→Option (Option DV)}{b:Sd→DV→Option Sd}{body:SF}{m:Nat}
  (ok:∀ i H σ ts,Cf R ix hd H σ ts fr→(it i (ts.map TL.er)=some none→J.stop i H)∧∀ r,it i (ts.map TL.er)=some (some r)→J.go i H∧∀ x H',J.yld i H x H'→∃ tv,tv.er=r∧TvOk ts x tv∧Cf R ix hd H' σ ts (tv.tr++fr))
  (C:Cf R ix hd H σ ts fr) (P:Post R ix hd fr D (loopG it b body m 0 (ts.map TL.er))) :
  ∃ W:Nat→Nat→L2.St→Hp→Prop,(∃ m,W 0 m σ H)∧∀ i m σ H,W i m σ H →
   (J.stop i H∧D.nx σ H)∨(J.go i H∧∃ N:L2.St→Hp→Prop,(∀ σ' H',N σ' H'→∃ m',m' < m∧W (i + 1) m' σ' H')∧∀ x H',J.yld i H x H'→lG R ix b x σ H' fun σ2 H2=>lS R ix body { D with nx:=N,ct:=N,bk:=D.nx } σ2 H2):=by
 refine ⟨fun i m σ H=>∃ ts,Cf R ix hd H σ ts fr∧Post R ix hd fr D (loopG it b body m i (ts.map TL.er)),⟨m,ts,C,P⟩,?_⟩
 rintro i m σ H ⟨ts,C,P⟩
 cases m with
 | zero=>exact P.elim
 | succ m =>
  unfold loopG at P
  obtain ⟨o1,o2⟩:=ok i H σ ts C
  cases ei:it i (ts.map TL.er) with
  | none=>rw [ei] at P;exact P.elim
  | some y =>
   rw [ei] at P
   cases y with
   | none=>exact .inl ⟨o1 ei,P H σ ts rfl C⟩
   | some r =>
    obtain ⟨g1,g2⟩:=o2 r ei
    refine .inr ⟨g1,fun σ' H'=>∃ ts',Cf R ix hd H' σ' ts' fr∧Post R ix hd fr D (loopG it b body m (i + 1) (ts'.map TL.er)),fun σ' H' n=>⟨m,Nat.lt_succ_self m,n⟩,fun x H' hy=>?_⟩
    obtain ⟨tv,rfl,hv,C'⟩:=g2 x H' hy
    dsimp only at P
    cases eb:b (ts.map TL.er) tv.er with
    | none=>rw [eb] at P;exact P.elim
    | some s1 =>
     rw [eb] at P
     refine ⟨hd,ts,fr,tv,C',hv,s1,eb,fun σ2 ts2 e2 C2=>⟨hd,ts2,fr,C2,?_⟩⟩
     rw [e2]
     dsimp only at P
     cases ed:body s1 with
     | nx s2=>rw [ed] at P;intro H3 σ3 ts3 e3 C3;subst e3;exact ⟨ts3,C3,P⟩
     | ct s2=>rw [ed] at P;intro H3 σ3 ts3 e3 C3;subst e3;exact ⟨ts3,C3,P⟩
     | bk s2=>rw [ed] at P;exact P
     | rt r s2=>rw [ed] at P;exact P
     | ex E s2=>rw [ed] at P;exact P
     | no=>rw [ed] at P;exact P.elim
theorem Z259{lo:Int}{n:Nat}(i:Nat)(H:Hp)(σ:L2.St)(ts:Ts)(C:Cf R ix hd H σ ts fr):(itR lo n i (ts.map TL.er)=some none→(Itr lo n).stop i H)∧∀ r,itR lo n i (ts.map TL.er)=some (some r)→(Itr lo n).go i H∧∀ x H',(Itr lo n).yld i H x H'→∃ tv,tv.er=r∧TvOk ts x tv∧Cf R ix hd H' σ ts (tv.tr++fr):=by
 unfold itR
 by_cases h:i < n
 ·rw [if_pos h]
  refine ⟨fun z=>by simp at z,fun r hr=>⟨h,?_⟩⟩
  cases hr
  rintro x _ ⟨rfl,rfl⟩
  exact ⟨.val (.at (.int (lo + i))),rfl,rfl,C.at _⟩
 ·rw [if_neg h]
  exact ⟨fun _=>Nat.le_of_not_lt h,fun r hr=>by simp at hr⟩
theorem Post.of{f:SF}(h:match f (ts.map TL.er) with
 | .nx s'=>∀ H' σ' ts',ts'.map TL.er=s'→Cf R ix hd H' σ' ts' fr→D.nx σ' H'
 | .rt r s'=>∀ H' σ' ts' tv v,ts'.map TL.er=s'→tv.er=r→TvOk ts' v tv→Cf R ix hd H' σ' ts' (tv.tr++fr)→D.rt v H'
 | .bk s'=>∀ H' σ' ts',ts'.map TL.er=s'→Cf R ix hd H' σ' ts' fr→D.bk σ' H'
 | .ct s'=>∀ H' σ' ts',ts'.map TL.er=s'→Cf R ix hd H' σ' ts' fr→D.ct σ' H'
 | .ex C s'=>∀ H' σ' ts',ts'.map TL.er=s'→Cf R ix hd H' σ' ts' fr→R.EX σ' (.ref (R.ad C)) none H'
 | .no=>False) (hb:∀ s,f (ts.map TL.er)≠.bk s) (hc:∀ s,f (ts.map TL.er)≠.ct s):Post R ix hd fr D (f (ts.map TL.er)):=by
 cases e:f (ts.map TL.er) with
 | nx s=>rw [e] at h;exact h
 | rt r s=>rw [e] at h;exact h
 | ex E s=>rw [e] at h;exact h
 | no=>rw [e] at h;exact h
 | bk s=>exact absurd e (hb s)
 | ct s=>exact absurd e (hc s)
theorem Z346{it:Nat→Sd→Option (Option DV)}{b:Sd→DV→Option Sd}{body:SF}:∀ (m i:Nat) (s s':Sd),loopG it b body m i s≠.bk s'∧loopG it b body m i s≠.ct s'
 | 0,_,_,_=>⟨(by intro z;cases z),(by intro z;cases z)⟩
 | m + 1,i,s,s'=>by
  unfold loopG
  cases it i s with
  | none=>exact ⟨(by intro z;cases z),(by intro z;cases z)⟩
  | some y=>cases y with
   | none=>exact ⟨(by intro z;cases z),(by intro z;cases z)⟩
   | some r =>
    dsimp only
    cases b s r with
    | none=>exact ⟨(by intro z;cases z),(by intro z;cases z)⟩
    | some s1 =>
     dsimp only
     cases body s1 with
     | nx s2=>exact Z346 m (i + 1) s2 s'
     | ct s2=>exact Z346 m (i + 1) s2 s'
     | _=>exact ⟨(by intro z;cases z),(by intro z;cases z)⟩
theorem Z308{f:AF}{b:Sd→DV→Option Sd}{body:SF}(D:Ends)(σ:L2.St)(H:Hp)(h:lS R ix (sForR f b body) D σ H) :
  lA R ix f σ H fun vs H1=>(∃ j:Int,vs=[.int j]∧(-(2 ^ 62)≤j∧j < 2 ^ 62)∧(∃ W:Nat→Nat→L2.St→Hp→Prop,(∃ m,W 0 m σ H1)∧∀ i m σ H,W i m σ H →
   ((Itr 0 j.toNat).stop i H∧D.nx σ H)∨((Itr 0 j.toNat).go i H∧∃ N:L2.St→Hp→Prop,(∀ σ' H',N σ' H'→∃ m',m' < m∧W (i + 1) m' σ' H')∧∀ x H',(Itr 0 j.toNat).yld i H x H'→lG R ix b x σ H' fun σ2 H2=>lS R ix body { D with nx:=N,ct:=N,bk:=D.nx } σ2 H2))) ∨
   (∃ k j:Int,vs=[.int k,.int j]∧(-(2 ^ 62)≤k∧k < 2 ^ 62∧-(2 ^ 62)≤j∧j < 2 ^ 62)∧(∃ W:Nat→Nat→L2.St→Hp→Prop,(∃ m,W 0 m σ H1)∧∀ i m σ H,W i m σ H →
   ((Itr k (j - k).toNat).stop i H∧D.nx σ H)∨((Itr k (j - k).toNat).go i H∧∃ N:L2.St→Hp→Prop,(∀ σ' H',N σ' H'→∃ m',m' < m∧W (i + 1) m' σ' H')∧∀ x H',(Itr k (j - k).toNat).yld i H x H'→lG R ix b x σ H' fun σ2 H2=>lS R ix body { D with nx:=N,ct:=N,bk:=D.nx } σ2 H2))):=by
 obtain ⟨hd,ts,fr,C,h⟩:=h
 refine ⟨hd,ts,fr,C,?_⟩
 unfold sForR at h
 cases ef:f (ts.map TL.er) with
 | no=>rw [ef] at h;exact h
 | ex E s1=>rw [ef] at h;intro H1 ts1 e1 C1;exact h H1 σ ts1 e1 C1
 | ok rs s1 =>
  rw [ef] at h
  intro H1 ts1 tvs vs e1 e2 hv C1
  subst e1
  have one:∀ {r:DV} {v:V} {tv:TV} {i:Int},tv.er=r→TvOk ts1 v tv→r=.val (.at (.int i))→v=.int i:=by
   rintro r v tv i rfl hv hr
   obtain ⟨t,rfl,te,rfl⟩:=hv.er_val hr
   cases t with
   | nd a k l=>cases te
   | «at» u=>cases u with
    | int j=>cases te;rfl
    | _=>cases te
  match rs,h with
  | [.val (.at (.int j))],h =>
    obtain ⟨tv,rfl,e5⟩:=map1 e2
    cases hv with
    | cons hv hn =>
    cases hn
    cases one e5 hv rfl
    by_cases hj:-(2 ^ 62)≤j∧j < 2 ^ 62
    ·dsimp only at h
     rw [if_pos hj] at h
     refine .inl ⟨j,rfl,hj,Z349 Z259 (C1.drops) (Post.of (f:=fun s=>loopG (itR 0 j.toNat) b body (j.toNat + 1) 0 s) h (fun s=>(Z346 _ _ _ s).1) fun s=>(Z346 _ _ _ s).2)⟩
    ·dsimp only at h;rw [if_neg hj] at h;exact h.elim
  | [.val (.at (.int k)),.val (.at (.int j))],h =>
    obtain ⟨tv,tw,rfl,e5,e3⟩:=map2 e2
    cases hv with
    | cons hv hw =>
    cases hw with
    | cons hw hn =>
    cases hn
    cases one e5 hv rfl
    cases one e3 hw rfl
    by_cases hj:-(2 ^ 62)≤k∧k < 2 ^ 62∧-(2 ^ 62)≤j∧j < 2 ^ 62
    ·dsimp only at h
     rw [if_pos hj] at h
     exact .inr ⟨k,j,rfl,hj,Z349 Z259 (C1.drops) (Post.of (f:=fun s=>loopG (itR k (j - k).toNat) b body ((j - k).toNat + 1) 0 s) h (fun s=>(Z346 _ _ _ s).1) fun s=>(Z346 _ _ _ s).2)⟩
    ·dsimp only at h;rw [if_neg hj] at h;exact h.elim
end
end RM

namespace RM
open PySem PySem.Spec PyProof.Rows L2
section
variable {R:RC}{ix:List Nat}{hd hm:List (Nat×Addr)}{X:Cx}{e:Expr}{H H':Hp}{σ:L2.St}{ts:Ts}{fr:List T}{D:Ends}
theorem Cf.push{t:T}{a:Addr}(C:Cf R ix hd H σ ts (t::fr))(ha:t.val=.ref a):Cf R ix (hd++[(ts.length,a)]) H σ (ts++[.own true t]) fr:=by
 have e1:ownS (ts++[.own true t])=ownS ts++t.own:=by rw [Z442];simp [ownS,TL.own1]
 have e2:roS (ts++[.own true t])=roS ts++t.ro:=by rw [Z528];simp [roS,TL.ro1]
 have e3:rdS (ts++[.own true t])=rdS ts:=by rw [Z505];simp [rdS,TL.rd1]
 refine ⟨fun w u z=>?_,C.fok.2,?_,fun b z=>?_,fun b z=>?_,fun b z=>?_,C.bg,fun j k' p' a' z=>?_,fun j z=>by simpa using Wn (C.ixs j z),fun i j s v z1 z2 z3=>?_,fun j b z=>?_,fun j b z=>?_,C.len,fun j b z s v z2 z3=>?_⟩
 ·rcases Qe.mp z with z | z
  ·exact C.ok w u z
  ·simp only [Qy,TL.own.injEq] at z
   rw [z.2];exact C.fok.1
 ·rw [e1,Qq];exact C.nd
 ·rw [e1]
  have:=C.sep b (by
   rw [e2] at z
   rw [T.ros_cons]
   simp only [Qe] at z ⊢
   rcases z with (z | z) | z <;> simp [z])
  rw [T.owns_cons] at this
  simp only [Qe,not_or] at this ⊢
  exact ⟨⟨this.1,this.2.1.1⟩,this.2.1.2,this.2.2⟩
 ·rw [e3] at z
  rw [e1]
  have:=C.rd b z
  rw [T.owns_cons] at this
  simp only [Qe,not_or] at this ⊢
  exact ⟨⟨this.1,this.2.1⟩,this.2.2⟩
 ·rw [e1]
  have:=C.g b z
  rw [T.owns_cons] at this
  simp only [Qe,not_or] at this ⊢
  exact ⟨this.1,this.2.1,⟨this.2.2.1,this.2.2.2.1⟩,this.2.2.2.2⟩
 ·have hj:j < ts.length:=by
   rcases Nat.lt_or_ge j ts.length with h | h
   ·exact h
   ·rw [Jd h] at z
    have:j - ts.length=0:=by
     have:=(Qc.mp z).1
     simp at this;omega
    rw [this] at z;cases z
  rw [Qo hj] at z
  exact (C.bor j k' p' a' z).app _
 ·have:=C.ixs j (Qg z1)
  rw [Qo this] at z2
  exact C.sl i j s v z1 z2 z3
 ·rcases Qe.mp z with z | z
  ·simpa using Wn (C.hdi j b z)
  ·simp only [Qy,Prod.mk.injEq] at z
   simp [z.1]
 ·rcases Qe.mp z with z | z
  ·exact C.hdx j b z
  ·simp only [Qy,Prod.mk.injEq] at z
   rw [z.1]
   exact fun q=>absurd (C.ixs _ q) (Jw _)
 ·rcases Qe.mp z with z | z
  ·rw [Qo (C.hdi j b z)] at z2
   exact C.hdn j b z s v z2 z3
  ·simp only [Qy,Prod.mk.injEq] at z
   obtain ⟨rfl,rfl⟩:=z
   rw [Jd (Qu _),Nat.sub_self] at z2
   cases z2
   simp only [TL.v,Option.some.injEq] at z3
   rw [← z3,ha]
theorem Cf.popAny{x:TL}(C:Cf R ix (hd++hm) H σ (ts++[x]) fr)(hi:∀ j∈ix,j < ts.length)(hj:∀ j a,(j,a)∈hd→j < ts.length):Cf R ix hd H σ (ts.map (unrootT ts.length)) fr:=by
 have o1:∀ a,a∈ownS (ts.map (unrootT ts.length))→a∈ownS (ts++[x]):=fun a z=>by
  unfold ownS at z;rw [Z644 (by intros;rfl)] at z;rw [Z442];exact Qi _ z
 have r1:∀ a,a∈roS (ts.map (unrootT ts.length))→a∈roS (ts++[x]):=fun a z=>by
  unfold roS at z;rw [Z644 (by intros;rfl)] at z;rw [Z528];exact Qi _ z
 have d1:∀ a,a∈rdS (ts.map (unrootT ts.length))→a∈rdS (ts++[x]):=fun a z=>by
  unfold rdS at z;rw [Z644 (by intros;rfl)] at z;rw [Z505];exact Qi _ z
 have slot:∀ (j:Nat) (s:TL),(ts.map (unrootT ts.length))[j]?=some s→∃ s0,ts[j]?=some s0∧s=unrootT ts.length s0∧(ts++[x])[j]?=some s0:=by
  intro j s hs
  rw [Qa] at hs
  cases e:ts[j]? with
  | none=>rw [e] at hs;cases hs
  | some s0=>rw [e] at hs;cases hs;exact ⟨s0,rfl,rfl,by rw [Qo (Qc.mp e).1];exact e⟩
 have vv:∀ (s0:TL) (v:V),(unrootT ts.length s0).v=some v→s0.v=some v:=by
  intro s0 v h
  rcases Z642 (j:=ts.length) s0 with ⟨e',_⟩ | ⟨e',_⟩
  ·rwa [e'] at h
  ·rw [e'] at h;cases h
 refine ⟨fun w u z=>?_,C.fok,?_,fun b z=>?_,fun b z=>?_,fun b z=>?_,C.bg,fun j k q b z=>?_,fun j z=>by simpa using hi j z,fun i j s v z1 z2 z3=>?_,fun j b z=>by simpa using hj j b z,fun j b z=>C.hdx j b (Qi _ z),C.len,fun j b z s v z2 z3=>?_⟩
 ·obtain ⟨j,hj'⟩:=Qz.mp z
  obtain ⟨s0,h1,h2,h3⟩:=slot j _ hj'
  rcases Z642 (j:=ts.length) s0 with ⟨e',_⟩ | ⟨e',_⟩
  ·rw [e'] at h2;subst h2;exact C.ok w u (Qg h3)
  ·rw [e'] at h2;cases h2
 ·have:=C.nd
  rw [Z442,Qq] at this
  have h1:=Qj.mp this
  have h2:=Qj.mp h1.2.1
  have e:ownS (ts.map (unrootT ts.length))=ownS ts:=by unfold ownS;exact Z644 (by intros;rfl) ts
  rw [e]
  exact Qj.mpr ⟨h1.1,h2.2.1,fun a za b zb=>h1.2.2 a za b (Qf _ zb)⟩
 ·have:=C.sep b (z.imp (r1 b) id)
  exact ⟨fun q=>this.1 (o1 b q),this.2.1,this.2.2⟩
 ·have:=C.rd b (d1 b z)
  exact ⟨fun q=>this.1 (o1 b q),this.2⟩
 ·have:=C.g b z
  exact ⟨this.1,this.2.1,fun q=>this.2.2.1 (o1 b q),this.2.2.2⟩
 ·obtain ⟨s0,h1,h2,h3⟩:=slot j _ z
  rcases Z642 (j:=ts.length) s0 with ⟨e',hne⟩ | ⟨e',_⟩
  ·rw [e'] at h2
   subst h2
   have hk:k≠ts.length:=fun z=>hne q b (by rw [z])
   obtain ⟨w,u,s,q1,q2,q3⟩:=C.bor j k q b h3
   refine ⟨w,u,s,?_,q2,q3⟩
   have hlt:k < ts.length:=by
    have:=(Qc.mp q1).1
    simp at this;omega
   rw [Qo hlt] at q1
   rw [Qa,q1];rfl
  ·rw [e'] at h2;cases h2
 ·obtain ⟨s0,h1,rfl,h3⟩:=slot j _ z2
  exact C.sl i j s0 v z1 h3 (vv s0 v z3)
 ·obtain ⟨s0,h1,rfl,h3⟩:=slot j _ z2
  exact C.hdn j b (Qi _ z) s0 v h3 (vv s0 v z3)
theorem Z477{n:Nat}{s s':Sd}{ts':Ts}(h:popD n s=some s')(e:ts'.map TL.er=s):∃ ts0 x,ts'=ts0++[x]∧ts0.length=n∧(ts0.map (unrootT n)).map TL.er=s':=by
 unfold popD at h
 split at h
 case isFalse=>cases h
 case isTrue hl =>
  cases h
  have hne:ts'≠[]:=by rintro rfl;rw [← e] at hl;simp at hl
  refine ⟨ts'.dropLast,ts'.getLast hne,(List.dropLast_concat_getLast hne).symm,?_,?_⟩
  ·rw [List.length_dropLast,Z337 e,hl];rfl
  ·rw [← e,← List.map_dropLast,Jk,← List.map_dropLast,Jk]
   exact Wf fun s _=>Z643 s
theorem Z193{r:SR}{n:Nat}{hm:List (Nat×Addr)}(hi:∀ j∈ix,j < n)(hj:∀ j a,(j,a)∈hd→j < n)
  (h:match fin n r with
  | .nx s'=>∀ H' σ' ts',ts'.map TL.er=s'→Cf R ix hd H' σ' ts' fr→D.nx σ' H'
  | .rt r s'=>∀ H' σ' ts' tv v,ts'.map TL.er=s'→tv.er=r→TvOk ts' v tv→Cf R ix hd H' σ' ts' (tv.tr++fr)→D.rt v H'
  | .bk s'=>∀ H' σ' ts',ts'.map TL.er=s'→Cf R ix hd H' σ' ts' fr→D.bk σ' H'
  | .ct s'=>∀ H' σ' ts',ts'.map TL.er=s'→Cf R ix hd H' σ' ts' fr→D.ct σ' H'
  | .ex C s'=>∀ H' σ' ts',ts'.map TL.er=s'→Cf R ix hd H' σ' ts' fr→R.EX σ' (.ref (R.ad C)) none H'
  | .no=>False):Post R ix (hd++hm) fr D r:=by
 cases r with
 | nx s =>
  intro H' σ' ts' e C
  simp only [fin] at h
  cases ep:popD n s with
  | none=>rw [ep] at h;exact h.elim
  | some s' =>
   rw [ep] at h
   obtain ⟨ts0,x,rfl,hl,e2⟩:=Z477 ep e
   subst hl
   exact h H' σ' _ e2 (C.popAny hi hj)
 | ex E s =>
  intro H' σ' ts' e C
  simp only [fin] at h
  cases ep:popD n s with
  | none=>rw [ep] at h;exact h.elim
  | some s' =>
   rw [ep] at h
   obtain ⟨ts0,x,rfl,hl,e2⟩:=Z477 ep e
   subst hl
   exact h H' σ' _ e2 (C.popAny hi hj)
 | rt r s =>
  intro H' σ' ts' tv v e e1 hv C
  cases r with
  | val d =>
   obtain ⟨t,rfl,rfl,rfl⟩:=hv.er_val e1
   simp only [fin] at h
   cases ep:popD n s with
   | none=>rw [ep] at h;exact h.elim
   | some s' =>
    rw [ep] at h
    obtain ⟨ts0,x,rfl,hl,e2⟩:=Z477 ep e
    subst hl
    exact h H' σ' _ (.val t) t.val e2 rfl rfl (C.popAny hi hj)
  | plc k p =>
   obtain ⟨a,rfl,rfl,hp⟩:=hv.er_plc e1
   simp only [fin] at h
   by_cases hk:k=n
   ·rw [if_pos hk] at h;exact h.elim
   ·rw [if_neg hk] at h
    cases ep:popD n s with
    | none=>rw [ep] at h;exact h.elim
    | some s' =>
     rw [ep] at h
     obtain ⟨ts0,x,rfl,hl,e2⟩:=Z477 ep e
     subst hl
     refine h H' σ' _ (.plc k p a) (.ref a) e2 rfl ⟨rfl,?_⟩ (C.popAny hi hj)
     obtain ⟨w,u,s,q1,q2,q3⟩:=hp
     refine ⟨w,u,s,?_,q2,q3⟩
     have hlt:k < ts0.length:=by
      have:=(Qc.mp q1).1
      simp at this;omega
     rw [Qo hlt] at q1
     rw [Qa,q1];rfl
 | bk s=>exact h.elim
 | ct s=>exact h.elim
 | no=>exact h.elim
end
end RM

namespace RM
open PySem PySem.Spec PyProof.Rows L2
noncomputable def iSeq(K:Qd)(tl:TE):TI:=fun σ H R=>tl σ H fun x H1=>∃ a,x=.ref a∧(((∃ xs,SqL K H1 a xs)∧R (Itl K a) H1)∨((∃ xs,SqT K H1 a xs)∧R (Itt K a) H1))
section
variable {X:Cx}{tg:Expr}
theorem Z476{l:Expr}{tl:TE}(hl:PE X l tl):PI X tg l (iSeq X.K tl):=by
 intro pins s σ H R I h
 refine thn (hl pins s σ H _ I h) fun v s1 ⟨x,H1,I1,r1,q1⟩=>?_
 obtain ⟨a,e,⟨⟨xs,hq⟩,q⟩ | ⟨⟨xs,hq⟩,q⟩⟩:=q1
 ·subst e
  cases r1
  obtain ⟨its,rv,p,hz⟩:=I1.list hq
  refine wpAny_pyIter_list p.isList ?_
  refine ⟨s1.heap.objs.size,[s1.heap.objs.size],_,_,H1,rfl,I1.kept (t':=s1.toks) fun b o e=>Heap.get?_push_of_some _ e,Z634 a _,⟨_,Heap.get?_push_size _ rfl,rfl,rfl⟩,fun b hb=>?_,q⟩
  have e:b=s1.heap.objs.size:=by simpa using hb
  subst e
  exact I1.fpOk (Qu _) (I1.hok.fresh (Qu _))
 ·subst e
  cases r1
  obtain ⟨its,rv,p,hz⟩:=I1.tuple hq
  refine wpAny_pyIter_tuple (show s1.heap.IsTuple a its.toArray from p) ?_
  refine ⟨s1.heap.objs.size,[s1.heap.objs.size],_,_,H1,rfl,I1.kept (t':=s1.toks) fun b o e=>Heap.get?_push_of_some _ e,Z636 a _,⟨_,Heap.get?_push_size _ rfl,rfl,rfl⟩,fun b hb=>?_,q⟩
  have e:b=s1.heap.objs.size:=by simpa using hb
  subst e
  exact I1.fpOk (Qu _) (I1.hok.fresh (Qu _))
end
section
variable {K:Qd}{R:RC}{ix:List Nat}{hd hm:List (Nat×Addr)}{X:Cx}{e:Expr}{H H':Hp}{σ:L2.St}{ts:Ts}{fr:List T}{D:Ends}
theorem NodeOk.sqL{a:Addr}{m:Bool}{vs:List V}(h:NodeOk H a (.lst m) vs):SqL K H a vs:=by
 cases m with
 | true=>exact .of h
 | false=>exact .inl h
theorem NodeOk.sqT{a:Addr}{vs:List V}(h:NodeOk H a .tup vs):SqT K H a vs:=.of h
theorem Z226{n k:Nat}{p:List Nat}{a:Addr}(C:Cf R ix (hd++[(n,a)]) H σ ts fr)(h:held n k p (ts.map TL.er)=true){d:RM.D}(hd':dref (ts.map TL.er) (.plc k p)=some d)(hn:∃ kd l,d=.nd kd l) :
  ∃ w t kd ch,ts[k]?=some (.own w t)∧t.get p=some (.nd a kd ch)∧d=.nd kd (T.ers ch)∧(T.nd a kd ch).ok H:=by
 have get:∀ w t,ts[k]?=some (TL.own w t)→∃ s,t.get p=some s∧s.er=d∧s.ok H:=by
  intro w t hk
  simp only [dref,Qa,hk,Option.map_some,TL.er,T.get_er] at hd'
  cases es:t.get p with
  | none=>rw [es] at hd';cases hd'
  | some s=>rw [es] at hd';cases hd';exact ⟨s,rfl,rfl,T.get_ok es (C.ok w t (Qg hk))⟩
 have nodeOf:∀ s:T,s.er=d→s.val=.ref a→∃ kd ch,s=.nd a kd ch∧d=.nd kd (T.ers ch):=by
  rintro s rfl hv
  obtain ⟨kd,l,hl⟩:=hn
  cases s with
  | «at» v=>cases hl
  | nd b k ch=>cases hv;exact ⟨k,ch,rfl,rfl⟩
 unfold held at h
 rw [Qa] at h
 cases en:ts[n]? with
 | none=>rw [en] at h;cases h
 | some y =>
  rw [en] at h
  cases y with
  | non=>cases h
  | bor k' p' b =>
   simp only [Option.map_some,TL.er,Jt,decide_eq_true_eq] at h
   obtain ⟨rfl,rfl⟩:=h
   have hb:=C.hdn n a (Qf _ (by simp)) _ _ en rfl
   cases hb
   obtain ⟨w,t,s,h1,h2,h3⟩:=C.bor n k' p' a en
   obtain ⟨s',g1,g2,g3⟩:=get w t h1
   rw [h2] at g1
   cases g1
   obtain ⟨kd,ch,rfl,e2⟩:=nodeOf s g2 h3
   exact ⟨w,t,kd,ch,h1,h2,e2,g3⟩
  | own w t =>
   simp only [Option.map_some,TL.er,Jt,decide_eq_true_eq] at h
   obtain ⟨rfl,rfl⟩:=h
   have hb:=C.hdn k a (Qf _ (by simp)) _ _ en rfl
   obtain ⟨s',g1,g2,g3⟩:=get w t en
   cases g1
   obtain ⟨kd,ch,rfl,e2⟩:=nodeOf t g2 hb
   exact ⟨w,_,kd,ch,en,rfl,e2,g3⟩
theorem Z257{n k:Nat}{p:List Nat}{a:Addr}(i:Nat)(H:Hp)(σ:L2.St)(ts:Ts)(C:Cf R ix (hd++[(n,a)]) H σ ts fr):(itP false n k p i (ts.map TL.er)=some none→(Itl K a).stop i H)∧∀ r,itP false n k p i (ts.map TL.er)=some (some r)→(Itl K a).go i H∧∀ x H',(Itl K a).yld i H x H'→∃ tv,tv.er=r∧TvOk ts x tv∧Cf R ix (hd++[(n,a)]) H' σ ts (tv.tr++fr):=by
 have main:∀ y,itP false n k p i (ts.map TL.er)=some y→∃ w t m ch,ts[k]?=some (TL.own w t)∧t.get p=some (.nd a (.lst m) ch)∧(T.nd a (.lst m) ch).ok H∧y=(ch[i]?).map fun c=>mkV k (p++[i]) c.er:=by
  intro y hy
  unfold itP at hy
  split at hy
  case isFalse=>cases hy
  case isTrue hh =>
   cases ed:dref (ts.map TL.er) (.plc k p) with
   | none=>rw [ed] at hy;cases hy
   | some d =>
    rw [ed] at hy
    cases d with
    | «at» v=>cases hy
    | nd kd l =>
     cases kd with
     | lst m =>
      obtain ⟨w,t,kd,ch,h1,h2,h3,h4⟩:=Z226 C hh ed ⟨_,_,rfl⟩
      cases h3
      simp only [Option.some.injEq] at hy
      exact ⟨w,t,m,ch,h1,h2,h4,by rw [← hy,T.ers_eq,Qa,Option.map_map];rfl⟩
     | _=>cases hy
 refine ⟨fun h=>?_,fun r h=>?_⟩
 ·obtain ⟨w,t,m,ch,h1,h2,h3,h4⟩:=main _ h
  refine ⟨ch.map T.val,h3.1.sqL,?_⟩
  cases e:ch[i]? with
  | some c=>rw [e] at h4;cases h4
  | none=>simpa using e
 ·obtain ⟨w,t,m,ch,h1,h2,h3,h4⟩:=main _ h
  cases e:ch[i]? with
  | none=>rw [e] at h4;cases h4
  | some c =>
   rw [e] at h4
   have hs:SqL K H a (ch.map T.val):=h3.1.sqL
   refine ⟨⟨_,c.val,hs,by rw [Qa,e];rfl⟩,?_⟩
   rintro x _ ⟨rfl,hx⟩
   have:=hx _ hs
   rw [Qa,e] at this
   cases this
   obtain ⟨tv,q1,q2,q3⟩:=mk_ok (p:=p++[i]) C h1 (by rw [T.get_app,h2];show T.get [i] (.nd a (.lst m) ch)=some c;simp only [T.get,e])
   refine ⟨tv,?_,q2,q3⟩
   rw [q1];cases h4;rfl
theorem Z258{n k:Nat}{p:List Nat}{a:Addr}(i:Nat)(H:Hp)(σ:L2.St)(ts:Ts)(C:Cf R ix (hd++[(n,a)]) H σ ts fr):(itP true n k p i (ts.map TL.er)=some none→(Itt K a).stop i H)∧∀ r,itP true n k p i (ts.map TL.er)=some (some r)→(Itt K a).go i H∧∀ x H',(Itt K a).yld i H x H'→∃ tv,tv.er=r∧TvOk ts x tv∧Cf R ix (hd++[(n,a)]) H' σ ts (tv.tr++fr):=by
 have main:∀ y,itP true n k p i (ts.map TL.er)=some y→∃ w t ch,ts[k]?=some (TL.own w t)∧t.get p=some (.nd a .tup ch)∧(T.nd a .tup ch).ok H∧y=(ch[i]?).map fun c=>mkV k (p++[i]) c.er:=by
  intro y hy
  unfold itP at hy
  split at hy
  case isFalse=>cases hy
  case isTrue hh =>
   cases ed:dref (ts.map TL.er) (.plc k p) with
   | none=>rw [ed] at hy;cases hy
   | some d =>
    rw [ed] at hy
    cases d with
    | «at» v=>cases hy
    | nd kd l =>
     cases kd with
     | tup =>
      obtain ⟨w,t,kd,ch,h1,h2,h3,h4⟩:=Z226 C hh ed ⟨_,_,rfl⟩
      cases h3
      simp only [Option.some.injEq] at hy
      exact ⟨w,t,ch,h1,h2,h4,by rw [← hy,T.ers_eq,Qa,Option.map_map];rfl⟩
     | _=>cases hy
 refine ⟨fun h=>?_,fun r h=>?_⟩
 ·obtain ⟨w,t,ch,h1,h2,h3,h4⟩:=main _ h
  refine ⟨ch.map T.val,h3.1.sqT,?_⟩
  cases e:ch[i]? with
  | some c=>rw [e] at h4;cases h4
  | none=>simpa using e
 ·obtain ⟨w,t,ch,h1,h2,h3,h4⟩:=main _ h
  cases e:ch[i]? with
  | none=>rw [e] at h4;cases h4
  | some c =>
   rw [e] at h4
   have hs:SqT K H a (ch.map T.val):=h3.1.sqT
   refine ⟨⟨_,c.val,hs,by rw [Qa,e];rfl⟩,?_⟩
   rintro x _ ⟨rfl,hx⟩
   have:=hx _ hs
   rw [Qa,e] at this
   cases this
   obtain ⟨tv,q1,q2,q3⟩:=mk_ok (p:=p++[i]) C h1 (by rw [T.get_app,h2];show T.get [i] (.nd a .tup ch)=some c;simp only [T.get,e])
   refine ⟨tv,?_,q2,q3⟩
   rw [q1];cases h4;rfl
theorem Z307{f:EF}{b:Sd→DV→Option Sd}{body:SF}(D:Ends)(σ:L2.St)(H:Hp)(h:lS R ix (sForL f b body) D σ H):tFor (iSeq K (lE R ix f)) (lG R ix b) (lS R ix body) D σ H:=by
 obtain ⟨hd,ts,fr,C,h⟩:=h
 refine ⟨hd,ts,fr,C,?_⟩
 unfold sForL at h
 cases ef:f (ts.map TL.er) with
 | no=>rw [ef] at h;exact h
 | ex E s1=>rw [ef] at h;intro H1 ts1 e1 C1;exact h H1 σ ts1 e1 C1
 | ok r s1 =>
  rw [ef] at h
  intro H1 ts1 tv v e1 e2 hv C1
  subst e1
  have hlen:(ts1.map TL.er).length=ts1.length:=by simp
  cases r with
  | plc k p =>
   obtain ⟨a,rfl,rfl,hp⟩:=hv.er_plc e2
   dsimp only at h
   refine ⟨a,rfl,?_⟩
   obtain ⟨w,t,s,h1,h2,h3⟩:=id hp
   have hd1:dref (ts1.map TL.er) (.plc k p)=some s.er:=by simp only [dref,Qa,h1,Option.map_some,TL.er,T.get_er,h2]
   have sok:=T.get_ok h2 (C1.ok w t (Qg h1))
   rw [hd1,hlen] at h
   have C2:Cf R ix (hd++[(ts1.length,a)]) H1 σ (ts1++[.bor k p a]) fr:=Cf.hide C1 hp
   cases s with
   | «at» v=>exact h.elim
   | nd b' kd ch =>
    cases h3
    cases kd with
    | lst m =>
     refine .inl ⟨⟨_,sok.1.sqL⟩,?_⟩
     refine Z349 (it:=itP false ts1.length k p) (m:=ch.length + 1) Z257 C2 ?_
     have:=Z193 (hm:=[(ts1.length,a)]) C1.ixs C1.hdi h
     simpa [TL.er,T.ers_eq] using this
    | tup =>
     refine .inr ⟨⟨_,sok.1.sqT⟩,?_⟩
     refine Z349 (it:=itP true ts1.length k p) (m:=ch.length + 1) Z258 C2 ?_
     have:=Z193 (hm:=[(ts1.length,a)]) C1.ixs C1.hdi h
     simpa [TL.er,T.ers_eq] using this
    | _=>exact h.elim
  | val d =>
   obtain ⟨t,rfl,rfl,rfl⟩:=hv.er_val e2
   dsimp only at h
   cases t with
   | «at» v=>exact h.elim
   | nd a kd ch =>
    refine ⟨a,rfl,?_⟩
    rw [hlen] at h
    have C2:Cf R ix (hd++[(ts1.length,a)]) H1 σ (ts1++[.own true (.nd a kd ch)]) fr:=Cf.push (a:=a) C1 rfl
    have sok:=C1.fok.1
    cases kd with
    | lst m =>
     refine .inl ⟨⟨_,sok.1.sqL⟩,?_⟩
     refine Z349 (it:=itP false ts1.length ts1.length []) (m:=ch.length + 1) Z257 C2 ?_
     have:=Z193 (hm:=[(ts1.length,a)]) C1.ixs C1.hdi h
     simpa [TL.er,T.er,T.ers_eq] using this
    | tup =>
     refine .inr ⟨⟨_,sok.1.sqT⟩,?_⟩
     refine Z349 (it:=itP true ts1.length ts1.length []) (m:=ch.length + 1) Z258 C2 ?_
     have:=Z193 (hm:=[(ts1.length,a)]) C1.ixs C1.hdi h
     simpa [TL.er,T.er,T.ers_eq] using this
    | _=>exact h.elim
theorem Z535{tg iter:Expr}{bs:List Stmt}{f:EF}{b:Sd→DV→Option Sd}{body:SF}{pos:Pos}(hp:PassesOwn (model X.prog X.w) X.A X.env X.xe)(hc:X.calm=true)(hi:PE X iter (lE R ix f))(hg:PG X tg (lG R ix b))(hb:PSs X bs (lS R ix body))
  (hs:∀ x,foldedSetIterable iter X.env x=pure x:=by intro _;rfl):PS X (.For tg iter bs [] pos) (lS R ix (sForL f b body)):=psM (Z484 hp hc (Z476 hi) hg hb hs) Z307
theorem Z536{tg a:Expr}{bs:List Stmt}{f:EF}{b:Sd→DV→Option Sd}{body:SF}{p pos fpos:Pos}(hp:PassesOwn (model X.prog X.w) X.A X.env X.xe)(hc:X.calm=true)(hgl:Gl X "range")(hm:X.mg "range"=none)(ha:PE X a (lE R ix f))(hg:PG X tg (lG R ix b))(hb:PSs X bs (lS R ix body))
  (hst:starEach [a] X.env=[(false,eval a X.env)]:=by rfl) (hs:∀ x,foldedSetIterable (.Call (.Name "range" p) [a] [] pos) X.env x=pure x:=by intro _;rfl):PS X (.For tg (.Call (.Name "range" p) [a] [] pos) bs [] fpos) (lS R ix (sForR (aCons f aNil) b body)):=by
 refine psM (Z484 hp hc (Z475 (ta:=tCons (lE R ix f) tNil) hgl hm (Z445 ha Z446 hst) hst) hg hb hs) fun D σ H h=>?_
 have h1:=lA_1 (Z308 D σ H h)
 refine Z299 (fun v H1 q=>?_) h1
 rcases q with ⟨j,e,hj,q⟩ | ⟨k,j,e,_⟩
 ·cases e;exact ⟨j,rfl,hj.1,hj.2,q⟩
 ·cases e
end
end RM

namespace RM
open PySem PySem.Spec PyProof.Rows L2
noncomputable def hole:D:=.at (.flt 0)
section
variable {R:RC}{ix:List Nat}{hd hm:List (Nat×Addr)}{X:Cx}{e:Expr}{H H':Hp}{σ:L2.St}{ts:Ts}{fr:List T}
theorem Cf.exch{k:Nat}{t s s':T}{p:List Nat}{fr':List T}{x:List Addr}(C:Cf R ix hd H σ ts fr)(hk:ts[k]?=some (.own true t))(hp:t.get p=some s)(hv:s'.val=s.val)
  (ho:s'.ok H) (hf:T.oks H fr') (hown:(s.own++T.owns fr).Perm (s'.own++T.owns fr'++x)) (hro:∀ b,b∈s'.ro∨b∈T.ros fr'→b∈s.ro∨b∈T.ros fr) :
  Cf R ix hd H σ ((ts.set k (.own true (T.put s' p t))).map (killT k p fun _=>false)) fr':=by
 obtain ⟨c,r,K⟩:=T.ctx hp
 obtain ⟨x1,z1,o1,o2⟩:=Z200 (f:=TL.own1) hk
 obtain ⟨x2,z2,r1,r2⟩:=Z200 (f:=TL.ro1) hk
 obtain ⟨x3,z3,d1,d2⟩:=Z200 (f:=TL.rd1) hk
 generalize ht':T.put s' p t=t'
 have eO:ownS ((ts.set k (.own true t')).map (killT k p fun _=>false))=x1++(t'.own++z1):=by
  unfold ownS;rw [Z286 (by intros;rfl),o2];rfl
 have eR:roS ((ts.set k (.own true t')).map (killT k p fun _=>false))=x2++(t'.ro++z2):=by
  unfold roS;rw [Z286 (by intros;rfl),r2];rfl
 have eD:rdS ((ts.set k (.own true t')).map (killT k p fun _=>false))=rdS ts:=by
  unfold rdS;rw [Z286 (by intros;rfl),d2,d1];rfl
 have fO:ownS ts=x1++(t.own++z1):=o1
 have fR:roS ts=x2++(t.ro++z2):=r1
 have pm:(ownS ts++T.owns fr).Perm ((x1++(t'.own++z1)++T.owns fr')++x):=by
  rw [fO]
  refine Qw.mpr fun b=>?_
  have q1:=(Qw.mp K.own b)
  have q2:=(Qw.mp (K.own' s') b)
  have q3:=(Qw.mp hown b)
  rw [ht'] at q2
  simp only [Jj] at q1 q2 q3 ⊢
  omega
 have nd3:=Qj.mp (pm.nodup_iff.mp C.nd)
 have sub1:∀ b,b∈x1++(t'.own++z1)∨b∈T.owns fr'→b∈ownS ts∨b∈T.owns fr:=fun b z=>Qe.mp (pm.mem_iff.mpr (Qi _ (by
  rcases z with z | z
  ·exact Qi _ z
  ·exact Qf _ z)))
 have tok':t'.ok H:=by
  rw [← ht']
  exact K.ok (C.ok true t (Qg hk)) (fun b hb=>rfl) ho hv
 have slot:∀ (j:Nat) (y:TL),((ts.set k (.own true t')).map (killT k p fun _=>false))[j]?=some y→(j=k∧y=.own true t')∨(j≠k∧∃ y0,ts[j]?=some y0∧y=killT k p (fun _=>false) y0):=by
  intro j y hy
  rw [Qa,Qm] at hy
  by_cases hj:k=j
  ·subst hj
   rw [if_pos rfl,if_pos (Qc.mp hk).1] at hy
   cases hy
   exact .inl ⟨rfl,rfl⟩
  ·rw [if_neg hj] at hy
   cases ey:ts[j]? with
   | none=>rw [ey] at hy;cases hy
   | some y0=>rw [ey] at hy;cases hy;exact .inr ⟨Ne.symm hj,y0,rfl,rfl⟩
 have tv':t'.val=t.val:=by rw [← ht'];exact T.put_val hp hv
 have slv:∀ (j:Nat) (y:TL) (v:V),((ts.set k (.own true t')).map (killT k p fun _=>false))[j]?=some y→y.v=some v→∃ y0,ts[j]?=some y0∧y0.v=some v:=by
  intro j y v hy hv
  rcases slot j y hy with ⟨rfl,rfl⟩ | ⟨hj,y0,h0,rfl⟩
  ·exact ⟨_,hk,by rw [← hv];simp only [TL.v,tv']⟩
  ·refine ⟨y0,h0,?_⟩
   rcases Z284 (k:=k) (p:=p) (keep:=fun _=>false) y0 with e | ⟨e,_⟩
   ·rwa [e] at hv
   ·rw [e] at hv;cases hv
 have len:((ts.set k (.own true t')).map (killT k p fun _=>false)).length=ts.length:=by simp
 refine ⟨fun w u hu=>?_,hf,by rw [eO];exact nd3.1,fun b z=>?_,fun b z=>?_,fun b z=>?_,C.bg,fun j k' q b hj=>?_,fun j hj=>by rw [len];exact C.ixs j hj,fun i j y v h1 h2 h3=>?_,fun j b hj=>by rw [len];exact C.hdi j b hj,C.hdx,C.len,fun j b hj y v h2 h3=>?_⟩
 ·obtain ⟨j,hj⟩:=Qz.mp hu
  rcases slot j _ hj with ⟨rfl,e⟩ | ⟨hjk,y0,h0,e⟩
  ·cases e;exact tok'
  ·rcases Z284 (k:=k) (p:=p) (keep:=fun _=>false) y0 with e' | ⟨e',_⟩
   ·rw [e'] at e;subst e;exact C.ok w u (Qg h0)
   ·rw [e'] at e;cases e
 ·have old:b∈roS ts∨b∈T.ros fr→b∉x1++(t'.own++z1)∧b∉T.owns fr'∧¬ R.B b:=fun z=>by
   obtain ⟨h1,h2,h3⟩:=C.sep b z
   exact ⟨fun q=>(sub1 b (.inl q)).elim h1 h2,fun q=>(sub1 b (.inr q)).elim h1 h2,h3⟩
  have new:b∈s'.ro∨b∈T.ros fr'→b∉x1++(t'.own++z1)∧b∉T.owns fr'∧¬ R.B b:=fun z=>by
   rcases hro b z with q | q
   ·exact old (.inl (by rw [fR];simp [K.ro.mem_iff.mpr (Qf _ q)]))
   ·exact old (.inr q)
  rw [eO]
  rw [eR] at z
  rcases z with z | z
  ·simp only [Qe] at z
   rcases z with z | z | z
   ·exact old (.inl (by rw [fR];simp [z]))
   ·have z':=(K.ro' s').mem_iff.mp (by rw [ht'];exact z)
    rcases Qe.mp z' with z' | z'
    ·exact old (.inl (by rw [fR];simp [K.ro.mem_iff.mpr (Qi _ z')]))
    ·exact new (.inl z')
   ·exact old (.inl (by rw [fR];simp [z]))
  ·exact new (.inr z)
 ·rw [eD] at z
  rw [eO]
  obtain ⟨h1,h2⟩:=C.rd b z
  exact ⟨fun q=>(sub1 b (.inl q)).elim h1 h2,fun q=>(sub1 b (.inr q)).elim h1 h2⟩
 ·rw [eO]
  obtain ⟨g1,g2,g3,g4⟩:=C.g b z
  exact ⟨g1,g2,fun q=>(sub1 b (.inl q)).elim g3 g4,fun q=>(sub1 b (.inr q)).elim g3 g4⟩
 ·rcases slot j _ hj with ⟨rfl,e⟩ | ⟨hjk,y0,h0,e⟩
  ·cases e
  ·rcases Z284 (k:=k) (p:=p) (keep:=fun _=>false) y0 with e' | ⟨e',_⟩
   ·rw [e'] at e
    subst e
    obtain ⟨w,u,s1,h1,h2,h3⟩:=C.bor j k' q b h0
    by_cases hkk:k'=k
    ·subst hkk
     rw [hk] at h1
     cases h1
     have at':((ts.set k' (.own true t')).map (killT k' p fun _=>false))[k']?=some (.own true t'):=by
      rw [Qa,Qm,if_pos rfl,if_pos (Qc.mp hk).1];rfl
     cases hs:sub p q with
     | none =>
      obtain ⟨u',q1,q2⟩:=Z206 (s':=s') hp hv hs h2
      rw [ht'] at q1
      exact ⟨true,t',u',at',q1,q2.trans h3⟩
     | some i =>
      exfalso
      rw [Z283] at e'
      have:gone k' p (fun _=>false) k' q=true:=by simp [gone,hs]
      rw [this] at e'
      cases e'
    ·refine ⟨w,u,s1,?_,h2,h3⟩
     rw [Qa,Qm,if_neg (Ne.symm hkk),h1];rfl
   ·rw [e'] at e;cases e
 ·obtain ⟨y0,q1,q2⟩:=slv j y v h2 h3
  exact C.sl i j y0 v h1 q1 q2
 ·obtain ⟨y0,q1,q2⟩:=slv j y v h2 h3
  exact C.hdn j b hj y0 v q1 q2
end
end RM

namespace RM
open PySem PySem.Spec PyProof.Rows L2
inductive RV where
 | val (d:D) | arg (j:Nat) (q:List Nat)
inductive RT where
 | val (t:T) | arg (j:Nat) (q:List Nat) (a:Addr)
noncomputable def RT.er:RT→RV
 | .val t=>.val t.er | .arg j q _=>.arg j q
noncomputable def RT.tr:RT→List T
 | .val t=>[t] | .arg _ _ _=>[]
inductive FR where
 | ok (r:RV) (ds:List D) | ex (C:Str) (ds:List D) | no
noncomputable abbrev Fn:=List D→FR
noncomputable def selM(b:Bool):List Bool→List T→List T
 | m::ms,t::l=>if m=b then t::selM b ms l else selM b ms l
 | _,_=>[]
noncomputable def RtOk(ms:List Bool)(l:List T)(v:V):RT→Prop
 | .val t=>v=t.val
 | .arg j q a=>v=.ref a∧ms[j]?=some true∧∃ t s,l[j]?=some t∧t.get q=some s∧s.val=.ref a
structure Ent(H:Hp)(B:Addr→Prop)(ms:List Bool)(l:List T):Prop where
 len:ms.length=l.length
 ok:T.oks H l
 nd:(T.owns (selM true ms l)).Nodup
 sep:∀ a∈T.ros l,a∉T.owns (selM true ms l)∧¬ B a
 rd:∀ a∈T.owns (selM false ms l),a∉T.owns (selM true ms l)
 b:∀ a,B a→a∉T.owns (selM true ms l)∧H a≠none
structure Exi(H H':Hp)(B:Addr→Prop)(ms:List Bool)(l l' m:List T):Prop where
 len:l'.length=l.length
 val:l'.map T.val=l.map T.val
 ok:T.oks H' (selM true ms l')
 fok:T.oks H' m
 nd:(T.owns (selM true ms l')++T.owns m).Nodup
 own:∀ a,a∈T.owns (selM true ms l')∨a∈T.owns m→a∈T.owns (selM true ms l)∨H a=none
 sep:∀ a,a∈T.ros (selM true ms l')∨a∈T.ros m→a∉T.owns (selM true ms l')∧a∉T.owns m∧¬ B a
 keep:∀ a,H a≠none→a∉T.owns (selM true ms l)→H' a=H a
noncomputable def spR(ad:Str→Addr)(ms:List Bool)(fn:Fn):Sp:=fun vs H Q E=>∃ (l:List T) (B:Addr→Prop),l.map T.val=vs∧Ent H B ms l∧match fn (T.ers l) with
 | .ok rv ds'=>∀ H' l' rt v,T.ers l'=ds'→rt.er=rv→RtOk ms l' v rt→Exi H H' B ms l l' rt.tr→Q v H'
 | .ex C ds'=>∀ H' l',T.ers l'=ds'→Exi H H' B ms l l' []→E (.ref (ad C)) none H'
 | .no=>False

noncomputable def ini(n:Nat)(ms:List Bool)(ds:List D):Sd:=ds.mapIdx (fun k d=>if d.imm then .own true d else .bor (n + k) [])++List.replicate (n - ds.length) .non++List.zipWith (fun m d=>if d.imm then DL.non else .own m d) ms ds
noncomputable def outs(s:Sd):Nat→List Bool→List D→Option (List D)
 | n,m::ms,d::r=>if d.imm then (outs s (n + 1) ms r).map (d::·) else (match s[n]?,outs s (n + 1) ms r with | some (.own w d'),some r'=>if w=m then some (d'::r') else none | _,_=>none)
 | _,_,[]=>some []
 | _,[],_=>none
noncomputable def ends(n:Nat)(ms:List Bool)(ds:List D)(r:DV)(s:Sd):FR:=match outs s n ms ds with
 | none=>.no
 | some ds'=>match r with
  | .val d=>.ok (.val d) ds'
  | .plc j q=>if n≤j then (match ms[j - n]?,ds[j - n]? with | some true,some d=>if d.imm then .no else .ok (.arg (j - n) q) ds' | _,_=>.no)
   else (match dref s (.plc j q),s[j]? with | some d,some (.own true _)=>.ok (.val d) ds' | _,_=>.no)
noncomputable def runDef(n:Nat)(ms:List Bool)(body:SF):Fn:=fun ds=>match body (ini n ms ds) with
 | .nx s=>ends n ms ds (.val (.at .non)) s
 | .rt r s=>ends n ms ds r s
 | .ex C s=>(match outs s n ms ds with | some ds'=>.ex C ds' | none=>.no)
 | _=>.no
noncomputable def T.adr:T→Addr
 | .nd a _ _=>a | .at _=>0
theorem T.adr_val{t:T}(h:t.er.imm=false):t.val=.ref t.adr:=by
 cases t with
 | «at» v=>cases h
 | nd a k l=>rfl
noncomputable def iniT(n:Nat)(ms:List Bool)(l:List T):Ts:=l.mapIdx (fun k t=>if t.er.imm then .own true t else .bor (n + k) [] t.adr)++List.replicate (n - l.length) .non++List.zipWith (fun m t=>if t.er.imm then TL.non else .own m t) ms l
theorem Z244{n:Nat}{ms:List Bool}{l:List T}:(iniT n ms l).map TL.er=ini n ms (T.ers l):=by
 unfold iniT ini
 rw [T.ers_eq,Qv,Qv,Qn]
 have cg:∀ {a b c a' b' c':Sd},a=a'→b=b'→c=c'→a++b++c=a'++b'++c':=by rintro _ _ _ _ _ _ rfl rfl rfl;rfl
 refine cg ?_ ?_ ?_
 ·refine Jz fun i=>?_
  simp only [Qa,List.getElem?_mapIdx,Option.map_map]
  cases l[i]? with
  | none=>rfl
  | some t=>simp only [Option.map_some,Function.comp];cases t.er.imm <;> rfl
 ·simp [TL.er]
 ·refine Jz fun i=>?_
  simp only [Qa,List.getElem?_zipWith,Option.map_map]
  cases ms[i]? with
  | none=>rfl
  | some m=>cases l[i]? with
   | none=>rfl
   | some t=>simp only [Option.map_some,Function.comp];cases t.er.imm <;> rfl
section
variable {n:Nat}{ms:List Bool}{l:List T}{H:Hp}
theorem Z240(hl:ms.length=l.length)(hn:l.length≤n):(iniT n ms l).length=n + l.length:=by
 unfold iniT
 simp only [Qx,List.length_mapIdx,Jr,List.length_zipWith,hl];omega
theorem Z241(hn:l.length≤n){i:Nat}(hi:i < n):(iniT n ms l)[i]?=some (match l[i]? with | some t=>if t.er.imm then .own true t else .bor (n + i) [] t.adr | none=>.non):=by
 unfold iniT
 rw [Qq]
 by_cases h:i < l.length
 ·rw [Qo (by simpa using h),List.getElem?_mapIdx,Qh h];rfl
 ·rw [Jd (by simpa using h),Qo (by simp;omega),Jm (Nat.le_of_not_lt h)]
  simp only [List.length_mapIdx,Wr]
  rw [if_pos (by omega)]
theorem Z239(hl:ms.length=l.length)(hn:l.length≤n){k:Nat}{m:Bool}{t:T}(h1:ms[k]?=some m)(h2:l[k]?=some t):(iniT n ms l)[n + k]?=some (if t.er.imm then .non else .own m t):=by
 unfold iniT
 rw [Jd (by simp only [Qx,List.length_mapIdx,Jr];omega)]
 have:n + k - (l.mapIdx (fun k t=>if t.er.imm then TL.own true t else .bor (n + k) [] t.adr)++List.replicate (n - l.length) TL.non).length=k:=by simp only [Qx,List.length_mapIdx,Jr];omega
 rw [this,List.getElem?_zipWith,h1,h2]
theorem Z246:∀ {ms:List Bool} {l:List T},ownS (List.zipWith (fun m t=>if t.er.imm then TL.non else .own m t) ms l)=T.owns (selM true ms l)∧rdS (List.zipWith (fun m t=>if t.er.imm then TL.non else .own m t) ms l)=T.owns (selM false ms l)
 | [],l=>by cases l <;> exact ⟨rfl,rfl⟩
 | m::ms,[]=>⟨rfl,rfl⟩
 | m::ms,t::l=>by
  obtain ⟨h1,h2⟩:=Z246 (ms:=ms) (l:=l)
  simp only [List.zipWith_cons_cons,selM]
  unfold ownS rdS at *
  rw [Ju,Ju,h1,h2]
  cases hi:t.er.imm with
  | true =>
   have:=T.imm_own hi
   cases m <;> simp [TL.own1,TL.rd1,T.owns,this]
  | false=>cases m <;> simp [TL.own1,TL.rd1,T.owns]
theorem Z245:∀ (l:List T) (f:Nat→T→TL),(∀ k t,f k t=.own true t∧t.er.imm=true∨∃ a b c,f k t=.bor a b c)→ownS (l.mapIdx f)=[]∧rdS (l.mapIdx f)=[]
 | [],f,h=>⟨rfl,rfl⟩
 | t::l,f,h=>by
  obtain ⟨h1,h2⟩:=Z245 l (fun k=>f (k + 1)) fun k t=>h (k + 1) t
  rw [List.mapIdx_cons]
  unfold ownS rdS at *
  rw [Ju,Ju,h1,h2]
  rcases h 0 t with ⟨e,hi⟩ | ⟨a,b,c,e⟩
  ·rw [e];exact ⟨by simp [TL.own1,T.imm_own hi],rfl⟩
  ·rw [e];exact ⟨rfl,rfl⟩
theorem Z243:ownS (iniT n ms l)=T.owns (selM true ms l)∧rdS (iniT n ms l)=T.owns (selM false ms l):=by
 unfold iniT
 have h1:=Z245 l (fun k t=>if t.er.imm then TL.own true t else .bor (n + k) [] t.adr) fun k t=>by
  cases hi:t.er.imm with
  | true=>exact .inl ⟨rfl,rfl⟩
  | false=>exact .inr ⟨_,_,_,rfl⟩
 have h2:=Z246 (ms:=ms) (l:=l)
 rw [Z442,Z442,Z505,Z505,h1.1,h1.2,h2.1,h2.2]
 constructor
 ·simp [ownS,TL.own1]
 ·simp [rdS,TL.rd1]
theorem Z242{w:Bool}{t:T}(h:TL.own w t∈iniT n ms l):t∈l:=by
 unfold iniT at h
 simp only [Qe] at h
 rcases h with (h | h) | h
 ·obtain ⟨i,hi⟩:=Qz.mp h
  rw [List.getElem?_mapIdx] at hi
  cases e:l[i]? with
  | none=>rw [e] at hi;cases hi
  | some u =>
   rw [e] at hi
   simp only [Option.map_some,Option.some.injEq] at hi
   split at hi
   ·cases hi;exact Qg e
   ·cases hi
 ·simp at h
 ·obtain ⟨i,hi⟩:=Qz.mp h
  rw [List.getElem?_zipWith] at hi
  cases e1:ms[i]? with
  | none=>rw [e1] at hi;cases hi
  | some m =>
   cases e:l[i]? with
   | none=>rw [e1,e] at hi;cases hi
   | some u =>
    rw [e1,e] at hi
    simp only [Option.some.injEq] at hi
    split at hi
    ·cases hi
    ·cases hi;exact Qg e
noncomputable def ancs(n:Nat)(l:List T):List (Nat×Addr):=(l.mapIdx fun k t=>(n + k,t)).filterMap fun p=>if p.2.er.imm then none else some (p.1,p.2.adr)
theorem Z354{j:Nat}{a:Addr}:(j,a)∈ancs n l↔∃ k t,l[k]?=some t∧t.er.imm=false∧j=n + k∧a=t.adr:=by
 unfold ancs
 rw [List.mem_filterMap]
 constructor
 ·rintro ⟨⟨x,t⟩,hm,h⟩
  obtain ⟨k,hk⟩:=Qz.mp hm
  rw [List.getElem?_mapIdx] at hk
  cases e:l[k]? with
  | none=>rw [e] at hk;cases hk
  | some u =>
   rw [e] at hk
   cases hk
   dsimp only at h
   cases hi:t.er.imm with
   | true=>rw [hi] at h;cases h
   | false=>rw [hi] at h;cases h;exact ⟨k,t,e,hi,rfl,rfl⟩
 ·rintro ⟨k,t,hk,hi,rfl,rfl⟩
  refine ⟨(n + k,t),Qg (i:=k) (by rw [List.getElem?_mapIdx,hk];rfl),?_⟩
  rw [hi];rfl
theorem Cf.entry{B:Addr→Prop}{EX:L2.St→XK}{ad:Str→Addr}{N:List Str}{vs:List V}(en:Ent H B ms l)(hv:l.map T.val=vs)(hn:l.length≤N.length) :
  Cf ⟨H,fun a=>H a≠none∧a∉T.owns (selM true ms l),B,EX,ad⟩ (List.range N.length) (ancs N.length l) H (L2.start N vs) (iniT N.length ms l) []:=by
 obtain ⟨o1,o2⟩:=Z243 (n:=N.length) (ms:=ms) (l:=l)
 have ln:=Z240 (n:=N.length) en.len hn
 have ros:∀ a,a∈roS (iniT N.length ms l)→a∈T.ros l:=fun a z=>by
  obtain ⟨w,t,h1,h2⟩:=Z364.mp z
  exact T.mem_ros.mpr ⟨t,Z242 h1,h2⟩
 have hms:∀ k t,l[k]?=some t→∃ m,ms[k]?=some m:=fun k t h=>⟨ms[k]'(by rw [en.len];exact (Qc.mp h).1),Qh _⟩
 have hi:∀ k t,l[k]?=some t→t.er.imm=false→∃ m,ms[k]?=some m∧(iniT N.length ms l)[N.length + k]?=some (TL.own m t):=fun k t h e=>by
  obtain ⟨m,hm⟩:=hms k t h
  exact ⟨m,hm,by rw [Z239 en.len hn hm h,e];rfl⟩
 refine ⟨fun w t z=>T.oks_iff.mp en.ok t (Z242 z),trivial,by rw [o1];simpa [T.owns] using en.nd,fun a z=>?_,fun a z=>?_,fun a z=>?_,fun a z=>?_,fun j k p a z=>?_,fun j z=>?_,fun i j s v z1 z2 z3=>?_,fun j a z=>?_,fun j a z=>?_,?_,fun j a z s v z2 z3=>?_⟩
 ·rw [o1]
  rcases z with z | z
  ·have:=en.sep a (ros a z)
   exact ⟨this.1,by simp [T.owns],this.2⟩
  ·simp [T.ros] at z
 ·rw [o2] at z;rw [o1];exact ⟨en.rd a z,by simp [T.owns]⟩
 ·rw [o1];exact ⟨rfl,z.1,z.2,by simp [T.owns]⟩
 ·exact ⟨(en.b a z).2,(en.b a z).1⟩
 ·have hj:j < N.length:=by
   rcases Nat.lt_or_ge j N.length with h | h
   ·exact h
   ·have hlt:=(Qc.mp z).1
    rw [ln] at hlt
    obtain ⟨t,ht⟩:∃ t,l[j - N.length]?=some t:=⟨l[j - N.length]'(by omega),Qh _⟩
    obtain ⟨m,hm⟩:=hms _ _ ht
    have:=Z239 en.len hn hm ht
    rw [show N.length + (j - N.length)=j by omega,z] at this
    split at this <;> cases this
  rw [Z241 hn hj] at z
  cases e:l[j]? with
  | none=>rw [e] at z;cases z
  | some t =>
   rw [e] at z
   dsimp only at z
   cases hi':t.er.imm with
   | true=>rw [hi'] at z;cases z
   | false =>
    rw [hi'] at z
    cases z
    obtain ⟨m,_,q⟩:=hi j t e hi'
    exact ⟨m,t,t,q,rfl,T.adr_val hi'⟩
 ·rw [ln];have:=Wv.mp z;omega
 ·have hir:=(Qc.mp z1)
  have hlt:i < N.length:=by simpa using hir.1
  obtain rfl:i=j:=by
   have:=hir.2
   simpa using this
  rw [Z241 hn hlt] at z2
  cases e:l[i]? with
  | none=>rw [e] at z2;cases z2;cases z3
  | some t =>
   rw [e] at z2
   have hvi:vs[i]?=some t.val:=by rw [← hv,Qa,e];rfl
   have hst:(L2.start N vs)[i]?=some (some t.val):=by
    unfold L2.start
    rw [Qo (by simpa using (Qc.mp hvi).1),Qa,hvi];rfl
   rw [hst]
   dsimp only at z2
   cases hi':t.er.imm with
   | true=>rw [hi'] at z2;cases z2;cases z3;rfl
   | false=>rw [hi'] at z2;cases z2;cases z3;rw [T.adr_val hi']
 ·obtain ⟨k,t,h1,_,rfl,_⟩:=Z354.mp z
  rw [ln];have:=(Qc.mp h1).1;omega
 ·obtain ⟨k,t,h1,_,rfl,_⟩:=Z354.mp z
  simp
 ·unfold L2.start
  have:vs.length=l.length:=by rw [← hv];simp
  simp;omega
 ·obtain ⟨k,t,h1,h2,rfl,rfl⟩:=Z354.mp z
  obtain ⟨m,_,q⟩:=hi k t h1 h2
  rw [q] at z2
  cases z2
  simp only [TL.v,Option.some.injEq] at z3
  rw [← z3,T.adr_val h2]
end
end RM

namespace RM
open PySem PySem.Spec PyProof.Rows L2
section
variable {R:RC}{ix:List Nat}{hd:List (Nat×Addr)}{H H':Hp}{σ:L2.St}{ts:Ts}{fr:List T}{ms:List Bool}
theorem Z441(C:Cf R ix hd H' σ ts fr):∀ {ms:List Bool} {l:List T} {n:Nat} {ds:List D},outs (ts.map TL.er) n ms (T.ers l)=some ds→(∀ k t,l[k]?=some t→t.er.imm=false→(n + k,t.adr)∈hd) →
  ∃ l':List T,T.ers l'=ds∧l'.length=l.length∧l'.map T.val=l.map T.val∧(∀ k t',l'[k]?=some t'→(∃ t,l[k]?=some t∧t.er.imm=true∧t'=t)∨∃ t m,l[k]?=some t∧t.er.imm=false∧ms[k]?=some m∧ts[n + k]?=some (.own m t')) ∧
   List.Sublist (T.owns (selM true ms l')) (ownS (ts.drop n))
 | m::ms,t::l,n,ds,h,ha=>by
  simp only [T.ers,outs] at h
  have rest:∀ ds',outs (ts.map TL.er) (n + 1) ms (T.ers l)=some ds'→∃ l':List T,T.ers l'=ds'∧l'.length=l.length∧l'.map T.val=l.map T.val∧(∀ k t',l'[k]?=some t'→(∃ t,l[k]?=some t∧t.er.imm=true∧t'=t)∨∃ t m,l[k]?=some t∧t.er.imm=false∧ms[k]?=some m∧ts[n + 1 + k]?=some (.own m t')) ∧
    List.Sublist (T.owns (selM true ms l')) (ownS (ts.drop (n + 1))):=fun ds' h'=>Z441 C h' fun k u hk hu=>by
   have:=ha (k + 1) u (by simpa using hk) hu
   rwa [show n + (k + 1)=n + 1 + k by omega] at this
  have dr:List.Sublist (ownS (ts.drop (n + 1))) (ownS (ts.drop n)):=by
   cases e:ts[n]? with
   | none =>
    have:=List.getElem?_eq_none_iff.mp e
    rw [List.drop_eq_nil_of_le (by omega),List.drop_eq_nil_of_le (by omega)];exact .refl _
   | some y =>
    rw [List.drop_eq_getElem_cons (Qc.mp e).1]
    unfold ownS
    rw [Ju]
    exact List.sublist_append_right _ _
  cases hi:t.er.imm with
  | true =>
   rw [hi,if_pos rfl] at h
   cases er:outs (ts.map TL.er) (n + 1) ms (T.ers l) with
   | none=>rw [er] at h;cases h
   | some ds' =>
    rw [er] at h
    cases h
    obtain ⟨l',a1,a2,a3,a4,a5⟩:=rest ds' er
    refine ⟨t::l',by rw [T.ers,a1],by simp [a2],by simp [a3],fun k t' hk=>?_,?_⟩
    ·cases k with
     | zero=>cases hk;exact .inl ⟨t,rfl,hi,rfl⟩
     | succ k =>
      rcases a4 k t' (by simpa using hk) with ⟨u,u1,u2,u3⟩ | ⟨u,m',u1,u2,u3,u4⟩
      ·exact .inl ⟨u,by simpa using u1,u2,u3⟩
      ·exact .inr ⟨u,m',by simpa using u1,u2,by simpa using u3,by rw [show n + (k + 1)=n + 1 + k by omega];exact u4⟩
    ·simp only [selM]
     cases m with
     | true=>rw [if_pos rfl,T.owns_cons,T.imm_own hi];exact a5.trans dr
     | false=>rw [if_neg Qt];exact a5.trans dr
  | false =>
   rw [hi,if_neg Qt,Qa] at h
   cases e:ts[n]? with
   | none=>rw [e] at h;cases h
   | some y =>
    rw [e] at h
    cases er:outs (ts.map TL.er) (n + 1) ms (T.ers l) with
    | none=>rw [er] at h;cases y <;> cases h
    | some ds' =>
     rw [er] at h
     cases y with
     | non=>cases h
     | bor _ _ _=>cases h
     | own w t' =>
      simp only [Option.map_some,TL.er] at h
      by_cases hw:w=m
      ·subst hw
       rw [if_pos rfl] at h
       cases h
       obtain ⟨l',a1,a2,a3,a4,a5⟩:=rest ds' er
       have hv:t'.val=t.val:=by
        rw [T.adr_val hi]
        exact C.hdn n t.adr (ha 0 t rfl hi) _ _ e rfl
       refine ⟨t'::l',by rw [T.ers,a1],by simp [a2],by simp [a3,hv],fun k u hk=>?_,?_⟩
       ·cases k with
        | zero=>cases hk;exact .inr ⟨t,w,rfl,hi,rfl,e⟩
        | succ k =>
         rcases a4 k u (by simpa using hk) with ⟨u',u1,u2,u3⟩ | ⟨u',m',u1,u2,u3,u4⟩
         ·exact .inl ⟨u',by simpa using u1,u2,u3⟩
         ·exact .inr ⟨u',m',by simpa using u1,u2,by simpa using u3,by rw [show n + (k + 1)=n + 1 + k by omega];exact u4⟩
       ·rw [List.drop_eq_getElem_cons (Qc.mp e).1]
        unfold ownS
        rw [Ju,(Qc.mp e).2]
        simp only [selM]
        cases w with
        | true=>rw [if_pos rfl,T.owns_cons];exact List.Sublist.append (.refl _) a5
        | false=>rw [if_neg Qt];exact a5
      ·rw [if_neg hw] at h;cases h
 | ms',[],n,ds,h,ha=>by
  have:ds=[]:=by
   cases ms' <;> (simp only [T.ers,outs] at h;cases h;rfl)
  subst this
  refine ⟨[],rfl,rfl,rfl,fun k t' hk=>by simp at hk,?_⟩
  cases ms' <;> exact List.nil_sublist _
 | [],t::l,n,ds,h,ha=>by simp only [T.ers,outs] at h;cases h
theorem Z365{b:Bool}{t:T}:∀ {ms:List Bool} {l:List T},t∈selM b ms l→∃ k:Nat,l[k]?=some t∧ms[k]?=some b
 | m::ms,u::l,h=>by
  simp only [selM] at h
  by_cases hm:m=b
  ·rw [if_pos hm] at h
   rcases Jb.mp h with h | h
   ·subst h;exact ⟨0,rfl,by rw [hm];rfl⟩
   ·obtain ⟨k,h1,h2⟩:=Z365 h;exact ⟨k + 1,by simpa using h1,by simpa using h2⟩
  ·rw [if_neg hm] at h
   obtain ⟨k,h1,h2⟩:=Z365 h;exact ⟨k + 1,by simpa using h1,by simpa using h2⟩
 | [],_,h=>by simp [selM] at h
 | _::_,[],h=>by simp [selM] at h
theorem Cf.exit{B:Addr→Prop}{EX:L2.St→XK}{ad:Str→Addr}{n:Nat}{l m:List T}{ds:List D}(en:Ent H B ms l)(C:Cf ⟨H,fun a=>H a≠none∧a∉T.owns (selM true ms l),B,EX,ad⟩ (List.range n) (ancs n l) H' σ ts m)
  (ho:outs (ts.map TL.er) n ms (T.ers l)=some ds):∃ l',T.ers l'=ds∧Exi H H' B ms l l' m∧∀ k t',l'[k]?=some t'→(∃ t,l[k]?=some t∧t.er.imm=true∧t'=t)∨∃ t w,l[k]?=some t∧t.er.imm=false∧ms[k]?=some w∧ts[n + k]?=some (.own w t'):=by
 obtain ⟨l',a1,a2,a3,a4,a5⟩:=Z441 C ho fun k t hk hi=>Z354.mpr ⟨k,t,hk,hi,rfl,rfl⟩
 have kp:∀ a,H a≠none→a∉T.owns (selM true ms l)→H' a=H a:=fun a h1 h2=>(C.g a ⟨h1,h2⟩).1
 have imk:∀ (k:Nat) (t:T),l[k]?=some t→t.er.imm=true→t.ok H'∧∀ a∈t.ro,a∉ownS ts∧a∉T.owns m∧¬ B a:=fun k t hk hi=>by
  have tok:=T.oks_iff.mp en.ok t (Qg hk)
  have G:∀ a∈t.ro,H a≠none∧a∉T.owns (selM true ms l)∧¬ B a:=fun a z=>by
   have:=en.sep a (T.mem_ros.mpr ⟨t,Qg hk,z⟩)
   exact ⟨T.there tok (.inr z),this.1,this.2⟩
  refine ⟨T.keep tok fun a z=>?_,fun a z=>?_⟩
  ·rcases z with z | z
   ·rw [T.imm_own hi] at z;cases z
   ·exact kp a (G a z).1 (G a z).2.1
  ·obtain ⟨g1,g2,g3⟩:=G a z
   obtain ⟨_,_,q1,q2⟩:=C.g a ⟨g1,g2⟩
   exact ⟨q1,q2,g3⟩
 have tops:∀ t'∈selM true ms l',(t'.ok H'∧∀ a∈t'.ro,a∉ownS ts∧a∉T.owns m∧¬ B a):=fun t' ht=>by
  obtain ⟨k,h1,h2⟩:=Z365 ht
  rcases a4 k t' h1 with ⟨t,u1,u2,rfl⟩ | ⟨t,w,u1,u2,u3,u4⟩
  ·exact imk k _ u1 u2
  ·refine ⟨C.ok w t' (Qg u4),fun a z=>C.sep a (.inl (Z364.mpr ⟨w,t',Qg u4,z⟩))⟩
 have sb:List.Sublist (T.owns (selM true ms l')) (ownS ts):=by
  refine a5.trans ?_
  have:ownS ts=ownS (ts.take n)++ownS (ts.drop n):=by rw [← Z442,List.take_append_drop]
  rw [this]
  exact List.sublist_append_right _ _
 refine ⟨l',a1,⟨a2,a3,T.oks_iff.mpr fun t' ht=>(tops t' ht).1,C.fok,?_,fun a z=>?_,fun a z=>?_,kp⟩,a4⟩
 ·exact (List.Sublist.append sb (List.Sublist.refl (T.owns m))).nodup C.nd
 ·have hz:a∈ownS ts∨a∈T.owns m:=z.imp (fun q=>sb.subset q) id
  by_cases h1:H a=none
  ·exact .inr h1
  ·left
   by_cases h2:a∈T.owns (selM true ms l)
   ·exact h2
   ·obtain ⟨_,_,q1,q2⟩:=C.g a ⟨h1,h2⟩
    exact (hz.elim q1 q2).elim
 ·have:a∉ownS ts∧a∉T.owns m∧¬ B a:=by
   rcases z with z | z
   ·obtain ⟨t',ht,hz⟩:=T.mem_ros.mp z
    exact (tops t' ht).2 a hz
   ·exact C.sep a (.inr z)
  exact ⟨fun q=>this.1 (sb.subset q),this.2⟩
end
end RM

namespace RM
open PySem PySem.Spec PyProof.Rows L2
theorem Z440{s s':Sd}:∀ {n:Nat} {ms:List Bool} {ds:List D},(∀ i,n≤i→∀ w d,s[i]?=some (.own w d)↔s'[i]?=some (.own w d))→outs s n ms ds=outs s' n ms ds
 | n,m::ms,d::r,h=>by
  simp only [outs]
  rw [Z440 (n:=n + 1) (ms:=ms) (ds:=r) fun i hi=>h i (by omega)]
  cases d.imm with
  | true=>rfl
  | false =>
   simp only [We,if_false]
   have h0:=h n (Qu n)
   cases e:s[n]? with
   | none =>
    cases e':s'[n]? with
    | none=>rfl
    | some y=>cases y with
     | own w d'=>have:=(h0 w d').mpr e';rw [e] at this;cases this
     | _=>cases outs s' (n + 1) ms r <;> rfl
   | some x =>
    cases x with
    | own w d'=>rw [(h0 w d').mp e]
    | non =>
     cases e':s'[n]? with
     | none=>cases outs s' (n + 1) ms r <;> rfl
     | some y=>cases y with
      | own w d'=>have:=(h0 w d').mpr e';rw [e] at this;cases this
      | _=>cases outs s' (n + 1) ms r <;> rfl
    | bor a b =>
     cases e':s'[n]? with
     | none=>cases outs s' (n + 1) ms r <;> rfl
     | some y=>cases y with
      | own w d'=>have:=(h0 w d').mpr e';rw [e] at this;cases this
      | _=>cases outs s' (n + 1) ms r <;> rfl
 | n,[],[],h=>rfl
 | n,_::_,[],h=>rfl
 | n,[],_::_,h=>rfl
theorem Z599{ad:Str→Addr}{ms:List Bool}{fn:Fn}{vs:List V}{H:Hp}{Q:VK}{E:XK}(h:spR ad ms fn vs H Q E):vs.length=ms.length:=by
 obtain ⟨l,B,hv,en,_⟩:=h
 rw [← hv,Qn,en.len]
theorem Z90{ad:Str→Addr}{N:List Str}{ms:List Bool}{body:SF}{vs:List V}{H:Hp}{Q:VK}{E:XK}(hn:ms.length≤N.length)(h:spR ad ms (runDef N.length ms body) vs H Q E) :
  ∃ R:RC,R.EX=(fun _=>E)∧R.ad=ad∧lS R (List.range N.length) body { nx:=fun _ H'=>Q .non H',rt:=Q } (L2.start N vs) H:=by
 obtain ⟨l,B,hv,en,h⟩:=h
 refine ⟨⟨H,fun a=>H a≠none∧a∉T.owns (selM true ms l),B,fun _=>E,ad⟩,rfl,rfl,ancs N.length l,iniT N.length ms l,[],Cf.entry en hv (by rw [← en.len];exact hn),?_⟩
 rw [Z244]
 unfold runDef at h
 generalize ini N.length ms (T.ers l)=s0 at h
 have fin:∀ {H':Hp} {σ':L2.St} {ts':Ts} {t:T} {s':Sd},ts'.map TL.er=s'→Cf ⟨H,fun a=>H a≠none∧a∉T.owns (selM true ms l),B,fun _=>E,ad⟩ (List.range N.length) (ancs N.length l) H' σ' ts' [t] →
   (match ends N.length ms (T.ers l) (.val t.er) s' with | .ok rv ds'=>∀ H' l' rt v,T.ers l'=ds'→rt.er=rv→RtOk ms l' v rt→Exi H H' B ms l l' rt.tr→Q v H' | .ex C ds'=>∀ H' l',T.ers l'=ds'→Exi H H' B ms l l' []→E (.ref (ad C)) none H' | .no=>False)→Q t.val H':=by
  intro H' σ' ts' t s' e C h
  subst e
  unfold ends at h
  cases eo:outs (ts'.map TL.er) N.length ms (T.ers l) with
  | none=>rw [eo] at h;exact h.elim
  | some ds' =>
   rw [eo] at h
   obtain ⟨l',a1,a2,_⟩:=Cf.exit en C eo
   exact h H' l' (.val t) t.val a1 rfl rfl a2
 cases eb:body s0 with
 | nx s=>rw [eb] at h;intro H' σ' ts' e C;exact fin (t:=.at .non) e (C.at .non) h
 | bk s=>rw [eb] at h;exact h.elim
 | ct s=>rw [eb] at h;exact h.elim
 | no=>rw [eb] at h;exact h.elim
 | ex Cx s =>
  rw [eb] at h
  intro H' σ' ts' e C
  subst e
  dsimp only at h
  cases eo:outs (ts'.map TL.er) N.length ms (T.ers l) with
  | none=>rw [eo] at h;exact h.elim
  | some ds' =>
   rw [eo] at h
   obtain ⟨l',a1,a2,_⟩:=Cf.exit en C eo
   exact h H' l' a1 a2
 | rt r s =>
  rw [eb] at h
  intro H' σ' ts' tv v e1 e2 hv' C
  cases r with
  | val d =>
   obtain ⟨t,rfl,rfl,rfl⟩:=hv'.er_val e2
   exact fin e1 C h
  | plc j q =>
   obtain ⟨a,rfl,rfl,hp⟩:=hv'.er_plc e2
   subst e1
   obtain ⟨w,t,s1,h1,h2,h3⟩:=hp
   dsimp only at h
   unfold ends at h
   cases eo:outs (ts'.map TL.er) N.length ms (T.ers l) with
   | none=>rw [eo] at h;exact h.elim
   | some ds' =>
    rw [eo] at h
    dsimp only at h
    by_cases hj:N.length≤j
    ·rw [if_pos hj] at h
     obtain ⟨l',a1,a2,a3⟩:=Cf.exit (m:=[]) en C eo
     cases em:ms[j - N.length]? with
     | none=>rw [em] at h;exact h.elim
     | some m =>
      cases ed:(T.ers l)[j - N.length]? with
      | none=>rw [em,ed] at h;cases m <;> exact h.elim
      | some d =>
       rw [em,ed] at h
       cases m with
       | false=>exact h.elim
       | true =>
        dsimp only at h
        cases hi:d.imm with
        | true=>rw [hi] at h;exact h.elim
        | false =>
         rw [hi] at h
         refine h H' l' (.arg (j - N.length) q a) (.ref a) a1 rfl ⟨rfl,em,?_⟩ a2
         have hlt:j - N.length < l'.length:=by
          rw [a2.len]
          have:=(Qc.mp ed).1
          rwa [T.ers_eq,Qn] at this
         rcases a3 (j - N.length) l'[j - N.length] (Qh hlt) with ⟨u,u1,u2,_⟩ | ⟨u,w',u1,u2,u3,u4⟩
         ·rw [T.ers_eq,Qa,u1] at ed
          cases ed
          rw [u2] at hi;cases hi
         ·rw [show N.length + (j - N.length)=j by omega,h1] at u4
          cases u4
          exact ⟨_,s1,Qh hlt,h2,h3⟩
    ·rw [if_neg hj] at h
     have hd1:dref (ts'.map TL.er) (.plc j q)=some s1.er:=by simp only [dref,Qa,h1,Option.map_some,TL.er,T.get_er,h2]
     rw [hd1,Qa,h1] at h
     cases w with
     | false=>exact h.elim
     | true =>
      obtain ⟨c,r,K⟩:=T.ctx h2
      have C':Cf ⟨H,fun a=>H a≠none∧a∉T.owns (selM true ms l),B,fun _=>E,ad⟩ (List.range N.length) (ancs N.length l) H' σ' ((ts'.set j (.own true (T.put (.at (.ref a)) q t))).map (killT j q fun _=>false)) [s1]:=by
       refine Cf.exch (s':=.at (.ref a)) (x:=[]) (fr':=[s1]) C h1 h2 h3.symm trivial ⟨T.get_ok h2 (C.ok true t (Qg h1)),trivial⟩ ?_ ?_
       ·simp [T.owns,T.own,TV.tr]
       ·intro b hb
        simpa [T.ros,T.ro,TV.tr] using hb
      have eo':outs (((ts'.set j (.own true (T.put (.at (.ref a)) q t))).map (killT j q fun _=>false)).map TL.er) N.length ms (T.ers l)=some ds':=by
       rw [← eo]
       refine (Z440 fun i hi w d=>?_).symm
       rw [Qa,Qa,Qa,Qm,if_neg (by omega)]
       cases e:ts'[i]? with
       | none=>simp
       | some y =>
        rcases Z284 (k:=j) (p:=q) (keep:=fun _=>false) y with e' | ⟨e',k',q',a',rfl⟩
        ·simp only [Option.map_some,e']
        ·simp only [Option.map_some,e',TL.er]
         exact ⟨fun z=>(by cases z),fun z=>(by cases z)⟩
      obtain ⟨l',a1,a2,_⟩:=Cf.exit en C' eo'
      exact h H' l' (.val s1) (.ref a) a1 rfl h3.symm a2
end RM

namespace RM
open PySem PySem.Spec PyProof.Rows L2
noncomputable def disj:List Nat→List Nat→Bool
 | x::p,y::q=>if x=y then disj p q else true
 | _,_=>false
noncomputable def apart(k:Nat)(p:List Nat):List DV→List Bool→Bool
 | .plc k' p'::rs,true::ms=>(decide (k'≠k) || disj p' p) && apart k p rs ms
 | _::rs,_::ms=>apart k p rs ms
 | _,_=>true
noncomputable def takes:List DV→List Bool→Sd→Option (Sd×List (Option D))
 | [],_,s=>some (s,[])
 | .val d::rs,_::ms,s=>(match takes rs ms s with | some (s',l)=>some (s',some d::l) | none=>none)
 | .plc k p::rs,true::ms,s=>(match s[k]?,dref s (.plc k p),apart k p rs ms with
  | some (.own true _),some d,true=>(match takes rs ms (wr s k p hole fun _=>false) with | some (s',l)=>some (s',some d::l) | none=>none)
  | _,_,_=>none)
 | .plc _ _::rs,false::ms,s=>(match takes rs ms s with | some (s',l)=>some (s',none::l) | none=>none)
 | _::_,[],_=>none
noncomputable def fills(s:Sd):List DV→List (Option D)→Option (List D)
 | _::rs,some d::l=>(match fills s rs l with | some r=>some (d::r) | none=>none)
 | r::rs,none::l=>(match dref s r,fills s rs l with | some d,some r=>some (d::r) | _,_=>none)
 | [],[]=>some []
 | _,_=>none
noncomputable def gives:List DV→List Bool→List D→Sd→Sd
 | .plc k p::rs,true::ms,d::ds,s=>wr (gives rs ms ds s) k p d fun _=>false
 | _::rs,_::ms,_::ds,s=>gives rs ms ds s
 | _,_,_,s=>s
noncomputable def retV(rs:List DV)(ms:List Bool)(s:Sd):RV→ER DV
 | .val d=>.ok (.val d) s
 | .arg j q=>match rs[j]?,ms[j]? with
  | some (.plc k p),some true=>(match dref s (.plc k (p++q)) with | some d=>.ok (mkV k (p++q) d) s | none=>.no)
  | _,_=>.no
noncomputable def eCall(ms:List Bool)(fn:Fn)(f:AF):EF:=fun s=>match f s with
 | .ok rs s1=>(match takes rs ms s1 with
  | some (sh,l)=>(match fills sh rs l with
   | some ds=>(match fn ds with
    | .ok rv ds'=>retV rs ms (gives rs ms ds' sh) rv
    | .ex C ds'=>.ex C (gives rs ms ds' sh)
    | .no=>.no)
   | none=>.no)
  | none=>.no)
 | .ex C s1=>.ex C s1
 | .no=>.no
noncomputable def treeAt(ts:Ts)(k:Nat)(p:List Nat):Option (Bool×T):=match ts[k]? with
 | some (.own w t)=>(t.get p).map fun u=>(w,u)
 | _=>none
theorem Z96:∀ {p q:List Nat},disj p q=disj q p
 | [],[]=>rfl
 | [],_::_=>rfl
 | _::_,[]=>rfl
 | x::p,y::q=>by
  unfold disj
  by_cases h:x=y
  ·subst h;rw [if_pos rfl,if_pos rfl,Z96]
  ·rw [if_neg h,if_neg (Ne.symm h)]
theorem Z204{s':T}:∀ {p q:List Nat} {t:T},disj p q=true→(T.put s' p t).get q=t.get q
 | [],q,t,h=>by cases h
 | _::_,[],t,h=>by cases h
 | i::p,j::q,.at v,h=>rfl
 | i::p,j::q,.nd a k l,h=>by
  unfold disj at h
  simp only [T.put,T.get]
  cases e:l[i]? with
  | none=>rfl
  | some c =>
   simp only [T.get]
   rw [Qm]
   by_cases hij:i=j
   ·subst hij
    rw [if_pos rfl] at h
    rw [if_pos rfl,if_pos (Qc.mp e).1,e]
    exact Z204 h
   ·rw [if_neg hij]
noncomputable def TV.vv:TV→V
 | .val t=>t.val | .plc _ _ a=>.ref a
section
variable {R:RC}{ix:List Nat}{hd:List (Nat×Addr)}{X:Cx}{H H':Hp}{σ:L2.St}{ts:Ts}{fr:List T}
theorem Z630{k:Nat}{p:List Nat}{t s':T}{keep:Nat→Bool}(hk:ts[k]?=some (.own true t)){k0:Nat}{p0:List Nat}(h:k0≠k∨disj p p0=true) :
  treeAt ((ts.set k (.own true (T.put s' p t))).map (killT k p keep)) k0 p0=treeAt ts k0 p0:=by
 unfold treeAt
 rw [Qa,Qm]
 by_cases e:k=k0
 ·subst e
  rw [if_pos rfl,if_pos (Qc.mp hk).1,hk]
  have hd:disj p p0=true:=h.resolve_left (fun z=>z rfl)
  show ((T.put s' p t).get p0).map _=(t.get p0).map _
  rw [Z204 hd]
 ·rw [if_neg e]
  cases e1:ts[k0]? with
  | none=>rfl
  | some y =>
   rcases Z284 (k:=k) (p:=p) (keep:=keep) y with e' | ⟨e',k',q,a,rfl⟩
   ·simp only [Option.map_some,e']
   ·simp only [Option.map_some,e']
theorem Z629{k:Nat}{p:List Nat}{t s s':T}{keep:Nat→Bool}(hk:ts[k]?=some (.own true t))(hp:t.get p=some s) :
  treeAt ((ts.set k (.own true (T.put s' p t))).map (killT k p keep)) k p=some (true,s'):=by
 unfold treeAt
 rw [Qa,Qm,if_pos rfl,if_pos (Qc.mp hk).1]
 show ((T.put s' p t).get p).map _=_
 have:=Z205 (s':=s') (r:=[]) hp
 rw [Jl] at this
 rw [this];rfl
theorem Z631{k:Nat}{p:List Nat}{w:Bool}{u:T}(h:treeAt ts k p=some (w,u)):∃ t,ts[k]?=some (.own w t)∧t.get p=some u:=by
 unfold treeAt at h
 cases e:ts[k]? with
 | none=>rw [e] at h;cases h
 | some y =>
  rw [e] at h
  cases y with
  | own w' t =>
   dsimp only at h
   cases e2:t.get p with
   | none=>rw [e2] at h;cases h
   | some v=>rw [e2] at h;cases h;exact ⟨t,rfl,e2⟩
  | _=>cases h
theorem Z14{k:Nat}{p:List Nat}:∀ {tvs:List TV} {ms:List Bool} {i k':Nat} {p':List Nat} {a:Addr},apart k p (tvs.map TV.er) ms=true→tvs[i]?=some (.plc k' p' a)→ms[i]?=some true→k'≠k∨disj p' p=true
 | tv::tvs,m::ms,i,k',p',a,h,h1,h2=>by
  cases i with
  | zero =>
   cases h1;cases h2
   simp only [Ql,TV.er,apart,Jt,Bool.or_eq_true,decide_eq_true_eq] at h
   exact h.1
  | succ i =>
   refine Z14 (tvs:=tvs) (ms:=ms) (i:=i) ?_ (by simpa using h1) (by simpa using h2)
   cases tv with
   | val t=>simpa only [Ql,TV.er,apart] using h
   | plc k2 p2 a2 =>
    cases m with
    | false=>simpa only [Ql,TV.er,apart] using h
    | true=>simp only [Ql,TV.er,apart,Jt] at h;exact h.2
 | [],_,i,_,_,_,_,h1,_=>by simp at h1
 | _::_,[],i,_,_,_,_,_,h2=>by simp at h2
noncomputable def Aparts:List TV→List Bool→Prop
 | .plc k p _::tvs,true::ms=>apart k p (tvs.map TV.er) ms=true∧Aparts tvs ms
 | _::tvs,_::ms=>Aparts tvs ms
 | _,_=>True
theorem Z207:∀ {tvs:List TV} {ms:List Bool} {l' rest:List T} {tsx:Ts},Aparts tvs ms→ms.length=tvs.length→l'.map T.val=tvs.map TV.vv→Cf R ix hd H' σ tsx (selM true ms l'++rest) →
  (∀ (i k:Nat) p a,tvs[i]?=some (.plc k p a)→ms[i]?=some true→treeAt tsx k p=some (true,.at (.ref a))) →
  ∃ ts',ts'.map TL.er=gives (tvs.map TV.er) ms (T.ers l') (tsx.map TL.er)∧Cf R ix hd H' σ ts' rest∧(∀ (i k:Nat) p a t,tvs[i]?=some (.plc k p a)→ms[i]?=some true→l'[i]?=some t→treeAt ts' k p=some (true,t)) ∧
   ∀ k0 p0 u,(∀ (i k:Nat) p a,tvs[i]?=some (.plc k p a)→ms[i]?=some true→k0≠k∨disj p p0=true)→treeAt tsx k0 p0=some u→treeAt ts' k0 p0=some u
 | [],ms,l',rest,tsx,_,hl,hv,C,_=>by
  have:ms=[]:=by simpa using hl
  subst this
  refine ⟨tsx,by simp [gives],by simpa [selM] using C,fun i k p a t h=>by simp at h,fun _ _ _ _ h=>h⟩
 | tv::tvs,[],_,_,_,_,hl,_,_,_=>by simp at hl
 | tv::tvs,m::ms,[],_,_,_,_,hv,_,_=>by simp at hv
 | tv::tvs,m::ms,t::l',rest,tsx,A,hl,hv,C,hh=>by
  simp only [Ql,Wk.injEq] at hv
  have hl':ms.length=tvs.length:=by simpa using hl
  have tail:∀ {rest':List T},Aparts tvs ms→Cf R ix hd H' σ tsx (selM true ms l'++rest')→_:=fun {rest'} A' C'=>Z207 (rest:=rest') A' hl' hv.2 C' fun i k p a h1 h2=>hh (i + 1) k p a (by simpa using h1) (by simpa using h2)
  have plain:Aparts tvs ms→(∀ k p a,tv=.plc k p a→m=true→False)→gives ((tv::tvs).map TV.er) (m::ms) (T.ers (t::l')) (tsx.map TL.er)=gives (tvs.map TV.er) ms (T.ers l') (tsx.map TL.er)→Cf R ix hd H' σ tsx (selM true ms l'++rest)→∃ ts',ts'.map TL.er=gives ((tv::tvs).map TV.er) (m::ms) (T.ers (t::l')) (tsx.map TL.er)∧Cf R ix hd H' σ ts' rest∧(∀ (i k:Nat) p a u,(tv::tvs)[i]?=some (.plc k p a)→(m::ms)[i]?=some true→(t::l')[i]?=some u→treeAt ts' k p=some (true,u)) ∧
   ∀ k0 p0 u,(∀ (i k:Nat) p a,(tv::tvs)[i]?=some (.plc k p a)→(m::ms)[i]?=some true→k0≠k∨disj p p0=true)→treeAt tsx k0 p0=some u→treeAt ts' k0 p0=some u:=by
   intro A' hno hg C'
   obtain ⟨ts',e1,e2,e3,e4⟩:=tail A' C'
   refine ⟨ts',e1.trans hg.symm,e2,fun i k p a u h1 h2 h3=>?_,fun k0 p0 u h1 h2=>e4 k0 p0 u (fun i k p a z1 z2=>h1 (i + 1) k p a (by simpa using z1) (by simpa using z2)) h2⟩
   cases i with
   | zero=>cases h1;cases h2;exact (hno k p a rfl rfl).elim
   | succ i=>exact e3 i k p a u (by simpa using h1) (by simpa using h2) (by simpa using h3)
  cases tv with
  | val t0 =>
   refine plain A (by intro _ _ _ z;cases z) rfl ?_
   simp only [selM] at C
   cases m with
   | true=>rw [if_pos rfl] at C;exact C.drop
   | false=>rwa [if_neg Qt] at C
  | plc k p a =>
   cases m with
   | false =>
    refine plain A (by intro _ _ _ _ z;cases z) rfl ?_
    simp only [selM] at C
    rwa [if_neg Qt] at C
   | true =>
    simp only [selM,if_true] at C
    have C1:Cf R ix hd H' σ tsx (selM true ms l'++(t::rest)):=by
     have ok:=C.fok
     refine C.less (x:=[]) (T.oks_app.mpr ⟨(T.oks_app.mp ok.2).1,ok.1,(T.oks_app.mp ok.2).2⟩) ?_ fun b hb=>?_
     ·refine Qw.mpr fun b=>?_
      simp only [Jh,T.owns_cons,T.owns_app,Jj,Jl];omega
     ·left
      simp only [Jh,T.ros_cons,T.ros_app,Qe] at hb ⊢
      rcases hb with hb | hb | hb <;> simp [hb]
    obtain ⟨ts1,e1,e2,e3,e4⟩:=tail (rest':=t::rest) A.2 C1
    have hole1:treeAt ts1 k p=some (true,.at (.ref a)):=by
     refine e4 k p _ (fun i k' p' a' z1 z2=>?_) (hh 0 k p a rfl rfl)
     exact (Z14 A.1 z1 z2).imp Ne.symm id
    obtain ⟨u,u1,u2⟩:=Z631 hole1
    have C2:=Cf.exch (s':=t) (fr':=rest) (x:=[]) e2 u1 u2 hv.1 e2.fok.1 e2.fok.2 (by simp [T.own,T.owns]) (fun b hb=>.inr (by rw [T.ros_cons];simpa using hb))
    refine ⟨_,?_,C2,fun i k' p' a' t' h1 h2 h3=>?_,fun k0 p0 x h1 h2=>?_⟩
    ·rw [wr_er u1,e1];rfl
    ·cases i with
     | zero=>cases h1;cases h3;exact Z629 u1 u2
     | succ i =>
      rw [Z630 u1 (by
       have:=Z14 A.1 (i:=i) (by simpa using h1) (by simpa using h2)
       rw [Z96];exact this)]
      exact e3 i k' p' a' t' (by simpa using h1) (by simpa using h2) (by simpa using h3)
    ·rw [Z630 u1 (h1 0 k p a rfl rfl)]
     exact e4 k0 p0 x (fun i k p a z1 z2=>h1 (i + 1) k p a (by simpa using z1) (by simpa using z2)) h2
end
end RM

namespace RM
open PySem PySem.Spec PyProof.Rows L2
section
variable {R:RC}{ix:List Nat}{hd:List (Nat×Addr)}{X:Cx}{H H':Hp}{σ:L2.St}{ts:Ts}{fr:List T}
noncomputable def TvW(ts:Ts):TV→Prop
 | .val _=>True
 | .plc k p a=>dref (ts.map TL.er) (.plc k p)≠none→PlOk ts k p a
theorem TvW.take{k:Nat}{p:List Nat}{t s s':T}{tv:TV}{a:Addr}(h:TvW ts tv)(hk:ts[k]?=some (.own true t))(hp:t.get p=some s)(hs:s'=.at (.ref a))(hv:s'.val=s.val):TvW ((ts.set k (.own true (T.put s' p t))).map (killT k p fun _=>false)) tv:=by
 cases tv with
 | val _=>trivial
 | plc k0 p0 a0 =>
  intro hd
  have same:∀ (j:Nat) w u,j≠k→(ts[j]?=some (TL.own w u)↔((ts.set k (.own true (T.put s' p t))).map (killT k p fun _=>false))[j]?=some (TL.own w u)):=by
   intro j w u hj
   rw [Qa,Qm,if_neg (Ne.symm hj)]
   cases e:ts[j]? with
   | none=>simp
   | some y =>
    rcases Z284 (k:=k) (p:=p) (keep:=fun _=>false) y with e' | ⟨e',_,_,_,rfl⟩
    ·simp only [Option.map_some,e']
    ·simp only [Option.map_some,e']
     exact ⟨fun z=>(by cases z),fun z=>(by cases z)⟩
  have atk:((ts.set k (.own true (T.put s' p t))).map (killT k p fun _=>false))[k]?=some (TL.own true (T.put s' p t)):=by
   rw [Qa,Qm,if_pos rfl,if_pos (Qc.mp hk).1];rfl
  by_cases hk0:k0=k
  ·subst hk0
   have g:(T.put s' p t).get p0≠none:=by
    intro z
    apply hd
    simp only [dref,Qa]
    rw [← Qa,← Qa,Qa,atk]
    simp only [Option.map_some,TL.er,T.get_er,z];rfl
   have hsub:sub p p0=none:=by
    cases hs2:sub p p0 with
    | none=>rfl
    | some i =>
     exfalso
     obtain ⟨r,rfl⟩:=Z607 hs2
     rw [Z205 hp,hs] at g
     exact g rfl
   have g0:t.get p0≠none:=by
    intro z
    have:∀ {p q:List Nat} {t:T},t.get q=none→sub p q=none→(T.put s' p t).get q=none:=by
     intro p
     induction p with
     | nil=>intro q t h1 h2;cases q with
      | nil=>cases h1
      | cons=>cases h2
     | cons i p ih =>
      intro q t h1 h2
      cases q with
      | nil=>cases h1
      | cons j q =>
       cases t with
       | «at» v=>rfl
       | nd a k l =>
        simp only [T.put]
        cases e:l[i]? with
        | none=>exact h1
        | some c =>
         simp only [T.get] at h1 ⊢
         rw [Qm]
         unfold sub at h2
         by_cases hij:i=j
         ·subst hij
          rw [if_pos rfl] at h2
          rw [e] at h1
          rw [if_pos rfl,if_pos (Qc.mp e).1]
          exact ih h1 h2
         ·rw [if_neg hij];exact h1
    exact g (this z hsub)
   obtain ⟨w,u,x,h1,h2,h3⟩:=h (by
    simp only [dref,Qa,hk,Option.map_some,TL.er,T.get_er]
    cases e:t.get p0 with
    | none=>exact absurd e g0
    | some y=>simp)
   rw [hk] at h1
   cases h1
   obtain ⟨u',q1,q2⟩:=Z206 (s':=s') hp hv hsub h2
   exact ⟨true,_,u',atk,q1,q2.trans h3⟩
  ·obtain ⟨w,u,x,h1,h2,h3⟩:=h (by
    intro z
    apply hd
    simp only [dref,Qa] at z ⊢
    cases e:ts[k0]? with
    | none =>
     rw [← Qa,← Qa,Qa]
     have:((ts.set k (.own true (T.put s' p t))).map (killT k p fun _=>false))[k0]?=none:=by
      rw [Qa,Qm,if_neg (Ne.symm hk0),e];rfl
     rw [this];rfl
    | some y =>
     rw [e] at z
     cases y with
     | own w u =>
      have:=(same k0 w u hk0).mp e
      rw [← Qa,← Qa,Qa,this]
      exact z
     | non =>
      have:((ts.set k (.own true (T.put s' p t))).map (killT k p fun _=>false))[k0]?=some .non:=by
       rw [Qa,Qm,if_neg (Ne.symm hk0),e];rfl
      rw [← Qa,← Qa,Qa,this];rfl
     | bor k1 p1 a1 =>
      have:∃ z,((ts.set k (.own true (T.put s' p t))).map (killT k p fun _=>false))[k0]?=some z∧∀ w u,z≠.own w u:=by
       rw [Qa,Qm,if_neg (Ne.symm hk0),e]
       refine ⟨_,rfl,fun w u z=>?_⟩
       rcases Z284 (k:=k) (p:=p) (keep:=fun _=>false) (.bor k1 p1 a1) with e' | ⟨e',_⟩ <;> rw [e'] at z <;> cases z
      obtain ⟨z,hz,hn⟩:=this
      rw [← Qa,← Qa,Qa,hz]
      cases z with
      | own w u=>exact absurd rfl (hn w u)
      | _=>rfl)
   exact ⟨w,u,x,(same k0 w u hk0).mp h1,h2,h3⟩
theorem TvOk.w{v:V}{tv:TV}(h:TvOk ts v tv):TvW ts tv∧v=tv.vv:=by
 cases tv with
 | val t=>exact ⟨trivial,h⟩
 | plc k p a=>exact ⟨fun _=>h.2,h.1⟩
theorem Z610:∀ {tvs:List TV} {ms:List Bool} {ts:Ts} {acc:List T} {sh:Sd} {lo:List (Option D)},(∀ tv∈tvs,TvW ts tv)→Cf R ix hd H σ ts (trs tvs++acc)→takes (tvs.map TV.er) ms (ts.map TL.er)=some (sh,lo)→ms.length=tvs.length →
  ∃ (tsh:Ts) (as:List (Option T)),tsh.map TL.er=sh∧as.map (Option.map T.er)=lo∧as.length=tvs.length∧Cf R ix hd H σ tsh (as.filterMap id++acc)∧Aparts tvs ms∧(∀ tv,TvW ts tv→TvW tsh tv) ∧
   (∀ (i:Nat) t tv,as[i]?=some (some t)→tvs[i]?=some tv→t.val=tv.vv)∧(∀ i:Nat,as[i]?=some none→ms[i]?=some false) ∧
   (∀ (i k:Nat) p a,tvs[i]?=some (.plc k p a)→ms[i]?=some true→treeAt tsh k p=some (true,.at (.ref a))) ∧
   ∀ k0 p0 u,(∀ (i k:Nat) p a,tvs[i]?=some (.plc k p a)→ms[i]?=some true→k0≠k∨disj p p0=true)→treeAt ts k0 p0=some u→treeAt tsh k0 p0=some u
 | [],ms,ts,acc,sh,lo,hw,C,h,hl=>by
  cases h
  exact ⟨ts,[],rfl,rfl,rfl,by simpa [trs] using C,by cases ms <;> trivial,fun _ z=>z,by simp,by simp,by simp,fun _ _ _ _ z=>z⟩
 | tv::tvs,[],_,_,_,_,_,_,_,hl=>by simp at hl
 | tv::tvs,m::ms,ts,acc,sh,lo,hw,C,h,hl=>by
  have hl':ms.length=tvs.length:=by simpa using hl
  have hw':∀ tv∈tvs,TvW ts tv:=fun x z=>hw x (Qp _ z)
  have reo:∀ {tsh:Ts} {as:List (Option T)} {t:T},Cf R ix hd H σ tsh (as.filterMap id++(t::acc))→Cf R ix hd H σ tsh ((some t::as).filterMap id++acc):=by
   intro tsh as t C
   have ok:=T.oks_app.mp C.fok
   refine C.less (x:=[]) ?_ ?_ fun b hb=>?_
   ·simp only [Wc,id,Jh]
    exact ⟨ok.2.1,T.oks_app.mpr ⟨ok.1,ok.2.2⟩⟩
   ·refine Qw.mpr fun b=>?_
    simp only [Wc,id,Jh,T.owns_cons,T.owns_app,Jj,Jl];omega
   ·left
    simp only [Wc,id,Jh,T.ros_cons,T.ros_app,Qe] at hb ⊢
    rcases hb with hb | hb | hb <;> simp [hb]
  cases tv with
  | val t =>
   have C1:Cf R ix hd H σ ts (trs tvs++(t::acc)):=by
    have C0:Cf R ix hd H σ ts (t::(trs tvs++acc)):=C
    have ok:=C0.fok
    refine C0.less (x:=[]) (T.oks_app.mpr ⟨(T.oks_app.mp ok.2).1,ok.1,(T.oks_app.mp ok.2).2⟩) ?_ fun b hb=>?_
    ·refine Qw.mpr fun b=>?_
     simp only [T.owns_cons,T.owns_app,Jj,Jl];omega
    ·left
     simp only [T.ros_cons,T.ros_app,Qe] at hb ⊢
     rcases hb with hb | hb | hb <;> simp [hb]
   simp only [Ql,TV.er,takes] at h
   cases et:takes (tvs.map TV.er) ms (ts.map TL.er) with
   | none=>rw [et] at h;cases h
   | some y =>
    obtain ⟨s',l⟩:=y
    rw [et] at h
    cases h
    obtain ⟨tsh,as,a1,a2,a3,a4,a5,a6,a7,a8,a9,a10⟩:=Z610 hw' C1 et hl'
    refine ⟨tsh,some t::as,a1,by simp [a2],by simp [a3],reo a4,a5,a6,fun i u x h1 h2=>?_,fun i h1=>?_,fun i k p a h1 h2=>?_,fun k0 p0 u h1 h2=>?_⟩
    ·cases i with
     | zero=>cases h1;cases h2;rfl
     | succ i=>exact a7 i u x (by simpa using h1) (by simpa using h2)
    ·cases i with
     | zero=>cases h1
     | succ i=>simpa using a8 i (by simpa using h1)
    ·cases i with
     | zero=>cases h1
     | succ i=>exact a9 i k p a (by simpa using h1) (by simpa using h2)
    ·exact a10 k0 p0 u (fun i k p a z1 z2=>h1 (i + 1) k p a (by simpa using z1) (by simpa using z2)) h2
  | plc k p a =>
   have C0:Cf R ix hd H σ ts (trs tvs++acc):=C
   cases m with
   | false =>
    simp only [Ql,TV.er,takes] at h
    cases et:takes (tvs.map TV.er) ms (ts.map TL.er) with
    | none=>rw [et] at h;cases h
    | some y =>
     obtain ⟨s',l⟩:=y
     rw [et] at h
     cases h
     obtain ⟨tsh,as,a1,a2,a3,a4,a5,a6,a7,a8,a9,a10⟩:=Z610 (acc:=acc) hw' C0 et hl'
     refine ⟨tsh,none::as,a1,by simp [a2],by simp [a3],by simpa using a4,a5,a6,fun i u x h1 h2=>?_,fun i h1=>?_,fun i k p a h1 h2=>?_,fun k0 p0 u h1 h2=>?_⟩
     ·cases i with
      | zero=>cases h1
      | succ i=>exact a7 i u x (by simpa using h1) (by simpa using h2)
     ·cases i with
      | zero=>rfl
      | succ i=>simpa using a8 i (by simpa using h1)
     ·cases i with
      | zero=>cases h2
      | succ i=>exact a9 i k p a (by simpa using h1) (by simpa using h2)
     ·exact a10 k0 p0 u (fun i k p a z1 z2=>h1 (i + 1) k p a (by simpa using z1) (by simpa using z2)) h2
   | true =>
    simp only [Ql,TV.er,takes,Qa] at h
    cases ek:ts[k]? with
    | none=>rw [ek] at h;cases h
    | some y =>
     rw [ek] at h
     cases y with
     | non=>cases h
     | bor _ _ _=>cases h
     | own w t =>
      cases w with
      | false=>simp only [Option.map_some,TL.er] at h;cases h
      | true =>
       simp only [Option.map_some,TL.er] at h
       cases ed:dref (ts.map TL.er) (.plc k p) with
       | none=>rw [ed] at h;cases h
       | some d =>
        rw [ed] at h
        cases ea:apart k p (tvs.map TV.er) ms with
        | false=>rw [ea] at h;cases h
        | true =>
         rw [ea] at h
         dsimp only at h
         obtain ⟨w',t',s,h1,h2,h3⟩:=hw _ Qs (show dref (ts.map TL.er) (.plc k p)≠none by rw [ed];simp)
         rw [ek] at h1
         cases h1
         have hds:d=s.er:=by
          simp only [dref,Qa,ek,Option.map_some,TL.er,T.get_er,h2,Option.some.injEq] at ed
          exact ed.symm
         have sok:s.ok H:=T.get_ok h2 (C.ok true t (Qg ek))
         have C1:=Cf.exch (s':=.at (.ref a)) (fr':=trs tvs++(s::acc)) (x:=[]) C0 ek h2 h3.symm trivial (T.oks_app.mpr ⟨(T.oks_app.mp C0.fok).1,sok,(T.oks_app.mp C0.fok).2⟩) (by
          refine Qw.mpr fun b=>?_
          simp only [T.own,T.owns_cons,T.owns_app,Jj,List.count_nil,Jl,Je];omega) (fun b hb=>by
          simp only [T.ro,T.ros_cons,T.ros_app,Qe,List.not_mem_nil,false_or] at hb ⊢
          rcases hb with hb | hb | hb <;> simp [hb])
         have er1:=wr_er (ts:=ts) (s':=.at (.ref a)) (p:=p) (keep:=fun _=>false) ek
         cases et:takes (tvs.map TV.er) ms (wr (ts.map TL.er) k p hole fun _=>false) with
         | none=>rw [et] at h;cases h
         | some y =>
          obtain ⟨s',l⟩:=y
          rw [et] at h
          cases h
          obtain ⟨tsh,as,a1,a2,a3,a4,a5,a6,a7,a8,a9,a10⟩:=Z610 (acc:=s::acc) (fun x z=>TvW.take (hw' x z) ek h2 rfl h3.symm) C1 (by rw [er1];exact et) hl'
          refine ⟨tsh,some s::as,a1,by simp [a2,hds],by simp [a3],reo a4,⟨ea,a5⟩,fun x z=>a6 x (TvW.take z ek h2 rfl h3.symm),fun i u x q1 q2=>?_,fun i q1=>?_,fun i k' p' a' q1 q2=>?_,fun k0 p0 u q1 q2=>?_⟩
          ·cases i with
           | zero=>cases q1;cases q2;exact h3
           | succ i=>exact a7 i u x (by simpa using q1) (by simpa using q2)
          ·cases i with
           | zero=>cases q1
           | succ i=>simpa using a8 i (by simpa using q1)
          ·cases i with
           | zero =>
            cases q1
            exact a10 k p _ (fun i k2 p2 a2 z1 z2=>(Z14 ea z1 z2).imp Ne.symm id) (Z629 ek h2)
           | succ i=>exact a9 i k' p' a' (by simpa using q1) (by simpa using q2)
          ·refine a10 k0 p0 u (fun i k2 p2 a2 z1 z2=>q1 (i + 1) k2 p2 a2 (by simpa using z1) (by simpa using z2)) ?_
           rw [Z630 ek (q1 0 k p a rfl rfl)]
           exact q2
end
end RM

namespace RM
open PySem PySem.Spec PyProof.Rows L2
section
variable {R:RC}{ix:List Nat}{hd:List (Nat×Addr)}{X:Cx}{H H':Hp}{σ:L2.St}{ts:Ts}{fr:List T}
theorem Z189{tsh:Ts}(C:Cf R ix hd H σ tsh fr):∀ {tvs:List TV} {as:List (Option T)} {ds:List D},fills (tsh.map TL.er) (tvs.map TV.er) (as.map (Option.map T.er))=some ds→(∀ tv∈tvs,TvW tsh tv)→(∀ t,some t∈as→t.ok H)→(∀ (i:Nat) t tv,as[i]?=some (some t)→tvs[i]?=some tv→t.val=tv.vv)→(∀ (i:Nat) (t:T),as[i]?=some none→tvs[i]?≠some (.val t)) →
  ∃ l:List T,T.ers l=ds∧l.map T.val=tvs.map TV.vv∧T.oks H l∧l.length=as.length∧∀ (i:Nat) t,l[i]?=some t→as[i]?=some (some t)∨(as[i]?=some none∧∃ (k:Nat) (p:List Nat) (w:Bool) (u:T),tsh[k]?=some (TL.own w u)∧u.get p=some t)
 | [],[],ds,h,_,_,_,_=>by cases h;exact ⟨[],rfl,rfl,trivial,rfl,by simp⟩
 | [],_::_,ds,h,_,_,_,_=>by simp [fills] at h
 | tv::tvs,[],ds,h,_,_,_,_=>by simp [fills] at h
 | tv::tvs,o::as,ds,h,hw,ho,hv,hn=>by
  have rest:∀ ds',fills (tsh.map TL.er) (tvs.map TV.er) (as.map (Option.map T.er))=some ds'→_:=fun ds' h'=>Z189 C h' (fun x z=>hw x (Qp _ z)) (fun t z=>ho t (Qp _ z)) (fun i t x h1 h2=>hv (i + 1) t x (by simpa using h1) (by simpa using h2)) (fun i t h1=>by simpa using hn (i + 1) t (by simpa using h1))
  cases o with
  | some t =>
   simp only [Ql,Option.map_some,fills] at h
   cases ef:fills (tsh.map TL.er) (tvs.map TV.er) (as.map (Option.map T.er)) with
   | none=>rw [ef] at h;cases h
   | some ds' =>
    rw [ef] at h
    cases h
    obtain ⟨l,a1,a2,a3,a4,a5⟩:=rest ds' ef
    refine ⟨t::l,by rw [T.ers,a1],by simp [a2,hv 0 t tv rfl rfl],⟨ho t Qs,a3⟩,by simp [a4],fun i u hi=>?_⟩
    cases i with
    | zero=>cases hi;exact .inl rfl
    | succ i=>simpa using a5 i u (by simpa using hi)
  | none =>
   simp only [Ql,Option.map_none,fills] at h
   cases ed:dref (tsh.map TL.er) tv.er with
   | none=>rw [ed] at h;cases h
   | some d =>
    rw [ed] at h
    cases ef:fills (tsh.map TL.er) (tvs.map TV.er) (as.map (Option.map T.er)) with
    | none=>rw [ef] at h;cases h
    | some ds' =>
     rw [ef] at h
     cases h
     obtain ⟨l,a1,a2,a3,a4,a5⟩:=rest ds' ef
     cases tv with
     | val t=>exact absurd rfl (hn 0 t rfl)
     | plc k p a =>
      obtain ⟨w,u,s,h1,h2,h3⟩:=hw _ Qs (show dref (tsh.map TL.er) (.plc k p)≠none by rw [show dref (tsh.map TL.er) (.plc k p)=some d from ed];simp)
      have hds:s.er=d:=by
       have ed':dref (tsh.map TL.er) (.plc k p)=some d:=ed
       simp only [dref,Qa,h1,Option.map_some,TL.er,T.get_er,h2,Option.some.injEq] at ed'
       exact ed'
      refine ⟨s::l,by rw [T.ers,a1,hds],by simp [a2,h3,TV.vv],⟨T.get_ok h2 (C.ok w u (Qg h1)),a3⟩,by simp [a4],fun i x hi=>?_⟩
      cases i with
      | zero=>cases hi;exact .inr ⟨rfl,k,p,w,u,h1,h2⟩
      | succ i=>simpa using a5 i x (by simpa using hi)
theorem Z595:∀ {ms:List Bool} {l:List T} {as:List (Option T)},ms.length=l.length→l.length=as.length→(∀ (i:Nat) t,l[i]?=some t→as[i]?=some (some t)∨as[i]?=some none)→(∀ i:Nat,as[i]?=some none→ms[i]?=some false) →
  ∃ x,(T.owns (as.filterMap id)).Perm (T.owns (selM true ms l)++x)∧∀ (i:Nat) t,ms[i]?=some false→as[i]?=some (some t)→∀ a∈t.own,a∈x
 | [],[],[],_,_,_,_=>⟨[],by simp [selM,T.owns],by simp⟩
 | m::ms,t::l,o::as,h1,h2,h3,h4=>by
  obtain ⟨x,p1,p2⟩:=Z595 (ms:=ms) (l:=l) (as:=as) (by simpa using h1) (by simpa using h2) (fun i u hi=>by simpa using h3 (i + 1) u (by simpa using hi)) (fun i hi=>by simpa using h4 (i + 1) (by simpa using hi))
  cases o with
  | none =>
   have:m=false:=by have:=h4 0 rfl;simpa using this
   subst this
   refine ⟨x,by simpa [selM] using p1,fun i u z1 z2=>?_⟩
   cases i with
   | zero=>cases z2
   | succ i=>exact p2 i u (by simpa using z1) (by simpa using z2)
  | some t' =>
   have:t'=t:=by
    rcases h3 0 t rfl with z | z
    ·cases z;rfl
    ·cases z
   subst this
   cases m with
   | true =>
    refine ⟨x,?_,fun i u z1 z2=>?_⟩
    ·simp only [Wc,id,selM,if_true,T.owns_cons]
     refine Qw.mpr fun b=>?_
     have:=Qw.mp p1 b
     simp only [Jj] at this ⊢;omega
    ·cases i with
     | zero=>cases z1
     | succ i=>exact p2 i u (by simpa using z1) (by simpa using z2)
   | false =>
    refine ⟨t'.own++x,?_,fun i u z1 z2 a ha=>?_⟩
    ·simp only [Wc,id,selM,T.owns_cons,We,if_false]
     refine Qw.mpr fun b=>?_
     have:=Qw.mp p1 b
     simp only [Jj] at this ⊢;omega
    ·cases i with
     | zero=>cases z2;exact Qi _ ha
     | succ i=>exact Qf _ (p2 i u (by simpa using z1) (by simpa using z2) a ha)
 | [],_::_,_,h1,_,_,_=>by simp at h1
 | _::_,[],_,h1,_,_,_=>by simp at h1
 | _,[],_::_,_,h2,_,_=>by simp at h2
 | _,_::_,[],_,h2,_,_=>by simp at h2
theorem Cf.after{tsh:Ts}{ws l l' m:List T}{ms:List Bool}{x:List Addr}{B:Addr→Prop}(C:Cf R ix hd H σ tsh (ws++fr))(hx:(T.owns ws).Perm (T.owns (selM true ms l)++x))(hB:∀ a,R.B a∨a∈ownS tsh∨a∈T.owns fr→B a)(E:Exi H H' B ms l l' m) :
  Cf R ix hd H' σ tsh (selM true ms l'++(m++fr)):=by
 have inw:∀ a,a∈T.owns (selM true ms l)→a∈T.owns (ws++fr):=fun a z=>by
  rw [T.owns_app];exact Qi _ (hx.mem_iff.mpr (Qi _ z))
 have nd:=Qj.mp C.nd
 have ndw:(T.owns ws++T.owns fr).Nodup:=by have:=nd.2.1;rwa [T.owns_app] at this
 have ndw':=Qj.mp ndw
 have k1:∀ a,a∈ownS tsh→a∉T.owns (selM true ms l):=fun a z q=>nd.2.2 a z a (inw a q) rfl
 have k2:∀ a,a∈T.owns fr→a∉T.owns (selM true ms l):=fun a z q=>ndw'.2.2 a (hx.mem_iff.mpr (Qi _ q)) a z rfl
 have k3:∀ a,a∈roS tsh∨a∈T.ros (ws++fr)→a∉T.owns (selM true ms l):=fun a z q=>(C.sep a z).2.1 (inw a q)
 have k4:∀ a,a∈rdS tsh→a∉T.owns (selM true ms l):=fun a z q=>(C.rd a z).2 (inw a q)
 have tk:∀ w t,TL.own w t∈tsh→∀ a,a∈t.own∨a∈t.ro→H' a=H a:=fun w t ht a z=>by
  refine E.keep a (T.there (C.ok w t ht) z) ?_
  rcases z with z | z
  ·cases w with
   | true=>exact k1 a (Z360.mpr ⟨t,ht,z⟩)
   | false=>exact k4 a (Z362.mpr ⟨t,ht,z⟩)
  ·exact k3 a (.inl (Z364.mpr ⟨w,t,ht,z⟩))
 have ffok:T.oks H fr:=(T.oks_app.mp C.fok).2
 have fk:∀ a,a∈T.owns fr∨a∈T.ros fr→H' a=H a:=fun a z=>by
  refine E.keep a (T.theres ffok z) ?_
  rcases z with z | z
  ·exact k2 a z
  ·exact k3 a (.inr (by rw [T.ros_app];exact Qf _ z))
 have new:∀ a,a∈T.owns (selM true ms l')∨a∈T.owns m→a∉ownS tsh∧a∉T.owns fr∧a∉roS tsh∧a∉T.ros fr∧a∉rdS tsh∧¬ R.G a:=fun a z=>by
  rcases E.own a z with z | z
  ·refine ⟨fun q=>k1 a q z,fun q=>k2 a q z,fun q=>k3 a (.inl q) z,fun q=>k3 a (.inr (by rw [T.ros_app];exact Qf _ q)) z,fun q=>k4 a q z,fun q=>?_⟩
   exact (C.g a q).2.2.2 (inw a z)
  ·obtain ⟨f1,f2,f3,f4,f5,f6⟩:=C.fresh z
   rw [T.owns_app] at f4;rw [T.ros_app] at f5
   exact ⟨f1,fun q=>f4 (Qf _ q),f2,fun q=>f5 (Qf _ q),f3,f6⟩
 have eo:T.owns (selM true ms l'++(m++fr))=T.owns (selM true ms l')++(T.owns m++T.owns fr):=by rw [T.owns_app,T.owns_app]
 have er:T.ros (selM true ms l'++(m++fr))=T.ros (selM true ms l')++(T.ros m++T.ros fr):=by rw [T.ros_app,T.ros_app]
 refine ⟨fun w t ht=>T.keep (C.ok w t ht) (tk w t ht),T.oks_app.mpr ⟨E.ok,T.oks_app.mpr ⟨E.fok,T.keeps ffok fk⟩⟩,?_,fun a z=>?_,fun a z=>?_,fun a z=>?_,C.bg,C.bor,C.ixs,C.sl,C.hdi,C.hdx,C.len,C.hdn⟩
 ·rw [eo]
  refine Qj.mpr ⟨nd.1,?_,fun a za b zb e=>?_⟩
  ·rw [← Qq]
   refine Qj.mpr ⟨E.nd,ndw'.2.1,fun a za b zb e=>?_⟩
   subst e
   exact (new a (Qe.mp za)).2.1 zb
  ·subst e
   rcases Qe.mp zb with zb | zb
   ·exact (new a (.inl zb)).1 za
   ·rcases Qe.mp zb with zb | zb
    ·exact (new a (.inr zb)).1 za
    ·exact nd.2.2 a za a (by rw [T.owns_app];exact Qf _ zb) rfl
 ·rw [eo]
  rw [er] at z
  simp only [Qe] at z ⊢
  have old:a∈roS tsh∨a∈T.ros fr→a∉ownS tsh∧¬ (a∈T.owns (selM true ms l')∨a∈T.owns m∨a∈T.owns fr)∧¬ R.B a:=fun z=>by
   obtain ⟨s1,s2,s3⟩:=C.sep a (z.imp id fun q=>by rw [T.ros_app];exact Qf _ q)
   rw [T.owns_app] at s2
   refine ⟨s1,fun q=>?_,s3⟩
   rcases q with q | q | q
   ·rcases z with z | z
    ·exact (new a (.inl q)).2.2.1 z
    ·exact (new a (.inl q)).2.2.2.1 z
   ·rcases z with z | z
    ·exact (new a (.inr q)).2.2.1 z
    ·exact (new a (.inr q)).2.2.2.1 z
   ·exact s2 (Qf _ q)
  have nw:a∈T.ros (selM true ms l')∨a∈T.ros m→a∉ownS tsh∧¬ (a∈T.owns (selM true ms l')∨a∈T.owns m∨a∈T.owns fr)∧¬ R.B a:=fun z=>by
   obtain ⟨s1,s2,s3⟩:=E.sep a z
   refine ⟨fun q=>s3 (hB a (.inr (.inl q))),fun q=>?_,fun q=>s3 (hB a (.inl q))⟩
   rcases q with q | q | q
   ·exact s1 q
   ·exact s2 q
   ·exact s3 (hB a (.inr (.inr q)))
  rcases z with z | z | z | z
  ·exact old (.inl z)
  ·exact nw (.inl z)
  ·exact nw (.inr z)
  ·exact old (.inr z)
 ·rw [eo]
  simp only [Qe]
  obtain ⟨s1,s2⟩:=C.rd a z
  rw [T.owns_app] at s2
  refine ⟨s1,fun q=>?_⟩
  rcases q with q | q | q
  ·exact (new a (.inl q)).2.2.2.2.1 z
  ·exact (new a (.inr q)).2.2.2.2.1 z
  ·exact s2 (Qf _ q)
 ·rw [eo]
  simp only [Qe]
  obtain ⟨g1,g2,g3,g4⟩:=C.g a z
  have e:H' a=H a:=E.keep a g2 fun q=>g4 (inw a q)
  rw [T.owns_app] at g4
  refine ⟨e.trans g1,by rw [e];exact g2,g3,fun q=>?_⟩
  rcases q with q | q | q
  ·exact (new a (.inl q)).2.2.2.2.2 z
  ·exact (new a (.inr q)).2.2.2.2.2 z
  ·exact g4 (Qf _ q)
theorem TvsOk.all:∀ {vs:List V} {tvs:List TV},TvsOk ts vs tvs→(∀ tv∈tvs,TvW ts tv)∧vs=tvs.map TV.vv
 | _,_,.nil=>⟨by simp,rfl⟩
 | _,_,.cons h r=>by
  obtain ⟨h1,h2⟩:=h.w
  obtain ⟨r1,r2⟩:=TvsOk.all r
  refine ⟨fun x z=>?_,by rw [Ql,h2,r2]⟩
  rcases Jb.mp z with rfl | z
  ·exact h1
  ·exact r1 x z
theorem Z609:∀ {rs:List DV} {ms:List Bool} {s sh:Sd} {lo:List (Option D)},takes rs ms s=some (sh,lo)→rs.length≤ms.length∧∀ (i:Nat) (d:D),lo[i]?=some none→rs[i]?≠some (.val d)
 | [],ms,s,sh,lo,h=>by cases h;simp
 | .val d::rs,[],s,sh,lo,h=>by simp [takes] at h
 | .plc k p::rs,[],s,sh,lo,h=>by simp [takes] at h
 | .val d::rs,m::ms,s,sh,lo,h=>by
  simp only [takes] at h
  cases et:takes rs ms s with
  | none=>rw [et] at h;cases h
  | some y =>
   obtain ⟨s',l⟩:=y
   rw [et] at h
   cases h
   obtain ⟨h1,h2⟩:=Z609 et
   refine ⟨by simpa using h1,fun i d' hi=>?_⟩
   cases i with
   | zero=>cases hi
   | succ i=>simpa using h2 i d' (by simpa using hi)
 | .plc k p::rs,false::ms,s,sh,lo,h=>by
  simp only [takes] at h
  cases et:takes rs ms s with
  | none=>rw [et] at h;cases h
  | some y =>
   obtain ⟨s',l⟩:=y
   rw [et] at h
   cases h
   obtain ⟨h1,h2⟩:=Z609 et
   refine ⟨by simpa using h1,fun i d' hi=>?_⟩
   cases i with
   | zero=>intro z;cases z
   | succ i=>simpa using h2 i d' (by simpa using hi)
 | .plc k p::rs,true::ms,s,sh,lo,h=>by
  simp only [takes] at h
  split at h
  case h_1 =>
   cases et:takes rs ms (wr s k p hole fun _=>false) with
   | none=>rw [et] at h;cases h
   | some y =>
    obtain ⟨s',l⟩:=y
    rw [et] at h
    cases h
    obtain ⟨h1,h2⟩:=Z609 et
    refine ⟨by simpa using h1,fun i d' hi=>?_⟩
    cases i with
    | zero=>intro z;cases z
    | succ i=>simpa using h2 i d' (by simpa using hi)
  case h_2=>cases h
theorem Z291{ms:List Bool}{fn:Fn}{f:AF}(σ:L2.St)(H:Hp)(Q:VK)(hms:∀ s rs s1,f s=.ok rs s1→rs.length=ms.length)(q:lE R ix (eCall ms fn f) σ H Q):lA R ix f σ H fun vs H1=>spR R.ad ms fn vs H1 Q (R.EX σ):=by
 obtain ⟨hd,ts,fr,C,q⟩:=q
 refine ⟨hd,ts,fr,C,?_⟩
 unfold eCall at q
 cases ef:f (ts.map TL.er) with
 | no=>rw [ef] at q;exact q
 | ex E s1=>rw [ef] at q;exact q
 | ok rs s1 =>
  rw [ef] at q
  intro H1 ts1 tvs vs e1 e2 hv C1
  subst e1 e2
  have hlen:ms.length=tvs.length:=by have:=hms _ _ _ ef;simpa using this.symm
  dsimp only at q
  cases et:takes (tvs.map TV.er) ms (ts1.map TL.er) with
  | none=>rw [et] at q;exact q.elim
  | some y =>
   obtain ⟨sh,lo⟩:=y
   rw [et] at q
   obtain ⟨hw,rfl⟩:=hv.all
   obtain ⟨tsh,as,a1,a2,a3,a4,a5,a6,a7,a8,a9,a10⟩:=Z610 hw C1 et hlen
   subst a1 a2
   have tl:=(Z609 et).2
   dsimp only at q
   cases el:fills (tsh.map TL.er) (tvs.map TV.er) (as.map (Option.map T.er)) with
   | none=>rw [el] at q;exact q.elim
   | some ds =>
    rw [el] at q
    have aok:∀ t,some t∈as→t.ok H1:=fun t z=>T.oks_iff.mp (T.oks_app.mp a4.fok).1 t (List.mem_filterMap.mpr ⟨some t,z,rfl⟩)
    obtain ⟨l,l1,l2,l3,l4,l5⟩:=Z189 a4 el (fun x z=>a6 x (hw x z)) aok a7 (fun i t h z=>tl i t.er (by rw [Qa,h];rfl) (by rw [Qa,z];rfl))
    obtain ⟨x,p1,p2⟩:=Z595 (ms:=ms) (l:=l) (as:=as) (by rw [hlen,l4,a3]) l4 (fun i t hi=>(l5 i t hi).imp id fun z=>z.1) a8
    have nd:=Qj.mp a4.nd
    have ndw:(T.owns (as.filterMap id)++T.owns fr).Nodup:=by have:=nd.2.1;rwa [T.owns_app] at this
    have ndw':=Qj.mp ndw
    have ndp:=Qj.mp (p1.nodup_iff.mp ndw'.1)
    have inw:∀ a,a∈T.owns (selM true ms l)→a∈T.owns (as.filterMap id++fr):=fun a z=>by rw [T.owns_app];exact Qi _ (p1.mem_iff.mpr (Qi _ z))
    have rosl:∀ a∈T.ros l,a∈roS tsh∨a∈T.ros (as.filterMap id++fr):=fun a z=>by
     obtain ⟨t,ht,hz⟩:=T.mem_ros.mp z
     obtain ⟨i,hi⟩:=Qz.mp ht
     rcases l5 i t hi with h | ⟨_,k,p,w,u,h1,h2⟩
     ·exact .inr (by rw [T.ros_app];exact Qi _ (T.mem_ros.mpr ⟨t,List.mem_filterMap.mpr ⟨some t,Qg h,rfl⟩,hz⟩))
     ·obtain ⟨c,r,K⟩:=T.ctx h2
      exact .inl (Z364.mpr ⟨w,u,Qg h1,K.ro.mem_iff.mpr (Qf _ hz)⟩)
    have ent:Ent H1 (fun a=>R.B a∨a∈ownS tsh∨a∈T.owns fr) ms l:=by
     refine ⟨by rw [hlen,l4,a3],l3,ndp.1,fun a z=>?_,fun a z=>?_,fun a z=>?_⟩
     ·obtain ⟨s1,s2,s3⟩:=a4.sep a (rosl a z)
      refine ⟨fun q=>s2 (inw a q),fun q=>?_⟩
      rcases q with q | q | q
      ·exact s3 q
      ·exact s1 q
      ·exact s2 (by rw [T.owns_app];exact Qf _ q)
     ·obtain ⟨t,ht,hz⟩:=T.mem_owns.mp z
      obtain ⟨i,hi,hm⟩:=Z365 ht
      rcases l5 i t hi with h | ⟨_,k,p,w,u,h1,h2⟩
      ·intro q
       exact ndp.2.2 a q a (p2 i t hm h a hz) rfl
      ·obtain ⟨c,r,K⟩:=T.ctx h2
       have hu:a∈u.own:=K.own.mem_iff.mpr (Qf _ hz)
       intro q
       cases w with
       | true=>exact nd.2.2 a (Z360.mpr ⟨u,Qg h1,hu⟩) a (inw a q) rfl
       | false=>exact (a4.rd a (Z362.mpr ⟨u,Qg h1,hu⟩)).2 (inw a q)
     ·rcases z with z | z | z
      ·obtain ⟨g1,g2,g3,g4⟩:=a4.g a (a4.bg a z)
       exact ⟨fun q=>g4 (inw a q),g2⟩
      ·obtain ⟨t,ht,hz⟩:=Z360.mp z
       exact ⟨fun q=>nd.2.2 a z a (inw a q) rfl,T.there (a4.ok true t ht) (.inl hz)⟩
      ·exact ⟨fun q=>ndw'.2.2 a (p1.mem_iff.mpr (Qi _ q)) a z rfl,T.theres (T.oks_app.mp a4.fok).2 (.inl z)⟩
    refine ⟨l,_,l2,ent,?_⟩
    rw [l1]
    dsimp only at q
    cases en:fn ds with
    | no=>rw [en] at q;exact q.elim
    | ex E ds' =>
     rw [en] at q
     intro H2 l' e3 X2
     have C2:=a4.after p1 (fun a z=>z) X2
     obtain ⟨ts',g1,g2,g3,g4⟩:=Z207 (rest:=fr) a5 hlen (X2.val.trans l2) C2 a9
     rw [e3] at g1
     exact q H2 ts' g1 g2
    | ok rv ds' =>
     rw [en] at q
     intro H2 l' rt v e3 e4 hr X2
     have C2:=a4.after p1 (fun a z=>z) X2
     obtain ⟨ts',g1,g2,g3,g4⟩:=Z207 (rest:=rt.tr++fr) a5 hlen (X2.val.trans l2) C2 a9
     rw [e3] at g1
     subst e4
     cases rt with
     | val t =>
      cases hr
      exact q H2 ts' (.val t) t.val g1 rfl rfl g2
     | arg j qq a =>
      obtain ⟨rfl,hmj,t,s,hj,hs,hsv⟩:=hr
      simp only [RT.er,retV,Qa,hmj] at q
      cases ej:tvs[j]? with
      | none=>rw [ej] at q;exact q.elim
      | some tv =>
       rw [ej] at q
       cases tv with
       | val t0=>exact q.elim
       | plc k p a0 =>
        simp only [Option.map_some,TV.er] at q
        obtain ⟨u,u1,u2⟩:=Z631 (g3 j k p a0 t ej hmj hj)
        have u3:u.get (p++qq)=some s:=by rw [T.get_app,u2];exact hs
        have hdr:dref (gives (tvs.map TV.er) ms ds' (tsh.map TL.er)) (.plc k (p++qq))=some s.er:=by
         rw [← g1];simp only [dref,Qa,u1,Option.map_some,TL.er,T.get_er,u3]
        rw [hdr] at q
        obtain ⟨tv,f1,f2,f3⟩:=mk_ok (p:=p++qq) g2 u1 u3
        rw [hsv] at f2
        exact q H2 ts' tv (.ref a) g1 f1 f2 f3
end
end RM

namespace RM
open PySem PySem.Spec PyProof.Rows L2
noncomputable def ALen(n:Nat)(f:AF):Prop:=∀ s rs s1,f s=.ok rs s1→rs.length=n
theorem Z2:ALen 0 aNil:=fun s rs s1 h=>by cases h;rfl
theorem Z1{n:Nat}{f:EF}{g:AF}(h:ALen n g):ALen (n + 1) (aCons f g):=by
 intro s rs s1 e
 unfold aCons at e
 cases ef:f s with
 | no=>rw [ef] at e;cases e
 | ex C s'=>rw [ef] at e;cases e
 | ok r s' =>
  rw [ef] at e
  cases r with
  | val d =>
   dsimp only at e
   cases eg:g s' with
   | no=>rw [eg] at e;cases e
   | ex C s2=>rw [eg] at e;cases e
   | ok rs' s2=>rw [eg] at e;cases e;simp [h _ _ _ eg]
  | plc k p =>
   dsimp only at e
   cases eg:g (s'++[.bor k p]) with
   | no=>rw [eg] at e;cases e
   | ex C s2=>rw [eg] at e;dsimp only at e;split at e <;> cases e
   | ok rs' s2 =>
    rw [eg] at e
    dsimp only at e
    split at e
    ·cases e;simp [h _ _ _ eg]
    ·cases e
noncomputable def eGuard(chk:D→Bool)(f:EF):EF:=fun s=>match f s with
 | .ok r s1=>(match dref s1 r with | some d=>if chk d then .ok r s1 else .no | none=>.no)
 | .ex C s1=>.ex C s1
 | .no=>.no
noncomputable def isObjD(C:Addr)(m:Str):D→Bool
 | .nd (.ins _ C' ns) _=>decide (C'=C) && !ns.contains m
 | _=>false
section
variable {R:RC}{ix:List Nat}{hd:List (Nat×Addr)}{X:Cx}{H H':Hp}{σ:L2.St}{ts:Ts}{fr:List T}
theorem Z298{chk:D→Bool}{f:EF}{Q:VK}(h:lE R ix (eGuard chk f) σ H Q):lE R ix f σ H fun v H1=>(∃ t:T,t.val=v∧t.ok H1∧chk t.er=true)∧Q v H1:=by
 obtain ⟨hd,ts,fr,C,h⟩:=h
 refine ⟨hd,ts,fr,C,?_⟩
 unfold eGuard at h
 cases ef:f (ts.map TL.er) with
 | no=>rw [ef] at h;exact h
 | ex E s1=>rw [ef] at h;exact h
 | ok r s1 =>
  rw [ef] at h
  intro H1 ts1 tv v e1 e2 hv C1
  subst e1 e2
  dsimp only at h
  cases ed:dref (ts1.map TL.er) tv.er with
  | none=>rw [ed] at h;exact h.elim
  | some d =>
   rw [ed] at h
   obtain ⟨t,t1,t2,t3,_⟩:=Z103 C1 hv (T.oks_app.mp C1.fok).1 ed
   dsimp only at h
   cases hc:chk d with
   | false=>rw [hc] at h;exact h.elim
   | true=>rw [hc] at h;exact ⟨⟨t,t2,t3,by rw [t1];exact hc⟩,h H1 ts1 tv v rfl rfl hv C1⟩
theorem rc_fn{x:Str}{k:Nat}{ps:List Str}{ms:List Bool}{fn:Fn}{p pos:Pos}{e:Expr}{es:List Expr}{f:AF}(D:DefX X.prog X.w X.K X.mg X.base x k ps (spR R.ad ms fn))(hr:Room k X.A)(hx:PassT X R.EX)(ha:PA X (e::es) (lA R ix f))(hl:ALen ms.length f)
  (hg:Gl X x:=by rfl) (hdb:(x == ("__debug__":Str))=false:=by decide) (he:starEach (e::es) X.env=(false,eval e X.env)::starEach es X.env:=by rfl) (hpl:(backTo pos (starEach es X.env)).any (·.1)=false:=by rfl) :
  PE X (.Call (.Name x p) (e::es) [] pos) (lE R ix (eCall ms fn f)):=peM (Z460 D hr hx ha hg hdb he hpl) fun σ H Q q=>Z291 σ H Q hl q
end

section
variable {P:Program}{w:World}{K:Qd}{mg:Str→Option Value}{base:Heap}
theorem okD{x:Str}{st:Stmt}{ps N:List Str}{k:Nat}{ms:List Bool}{body:SF}{ad:Str→Addr}(F:At K mg x st ps)(S:FnScope N ps (defScope st))(hps:ms.length=ps.length)(hN:ms.length≤N.length)
  (hb:∀ (f:Addr) (cdv:Value) (A:Around) (outer:List Env) (s:Shared) (H:Hp) (E:XK) (R:RC),Room k (A.deeper (envOfC x (defScope st) s.heap.objs.size f cdv))→PassT (cxOf (CX1 P w) P w K mg base N x (defScope st) f cdv A outer s H E) R.EX→(∀ σ,R.EX σ=E)→R.ad=ad →
   PSs (cxOf (CX1 P w) P w K mg base N x (defScope st) f cdv A outer s H E) (defBody st) (lS R (List.range N.length) body)):DefX P w K mg base x (k + 1) ps (spR ad ms (runDef N.length ms body)) :=
 F.okX S (fun vs H Q E h=>by rw [Z599 h,hps]) fun f cdv A outer s H vs Q E hr h=>by
  obtain ⟨R,e,ea,q⟩:=Z90 hN h
  exact ⟨_,hb f cdv A outer s H E R hr (by rw [e];exact passTX) (fun σ=>by rw [e]) ea,q⟩

variable {N:List Str}{qual:Str}{scope:Scope}{f:Addr}{cd:Value}{A:Around}{outer:List Env}{s:Shared}{H:Hp}{E:XK}{R:RC}{ix:List Nat}
noncomputable def sRaise(C:Str)(g:AF):SF:=fun s=>match g s with
 | .ok rs s1=>if rs.length≤1000 then .ex C s1 else .no
 | .ex C' s1=>.ex C' s1
 | .no=>.no
end
end RM

namespace RM
open PySem PySem.Spec PyProof.Rows L2
noncomputable def eMk(C:Addr)(ms:List Bool)(fn:Fn)(f:AF):EF:=fun s=>match f s with
 | .ok rs s1=>(match takes rs ms s1 with
  | some (sh,l)=>(match fills sh rs l with
   | some ds=>(match fn (.nd (.ins true C []) []::ds) with
    | .ok (.val (.at .non)) (d0::ds')=>.ok (.val d0) (gives rs ms ds' sh)
    | _=>.no)
   | none=>.no)
  | none=>.no)
 | .ex C s1=>.ex C s1
 | .no=>.no
section
variable {R:RC}{ix:List Nat}{hd:List (Nat×Addr)}{X:Cx}{H H':Hp}{σ:L2.St}{ts:Ts}{fr:List T}
theorem Cf.swap{t:T}{m fr:List T}(C:Cf R ix hd H σ ts (m++(t::fr))):Cf R ix hd H σ ts (t::(m++fr)):=by
 have ok:=T.oks_app.mp C.fok
 refine C.less (x:=[]) ⟨ok.2.1,T.oks_app.mpr ⟨ok.1,ok.2.2⟩⟩ ?_ fun b hb=>?_
 ·refine Qw.mpr fun b=>?_
  simp only [T.owns_cons,T.owns_app,Jj,Jl];omega
 ·left
  simp only [T.ros_cons,T.ros_app,Qe] at hb ⊢
  rcases hb with hb | hb | hb <;> simp [hb]

noncomputable def tryH(exm:Str→Str→Option Bool):List (Str×SF)→Str→Sd→SR
 | [],_,_=>.no
 | (x,f)::r,C,s=>match exm C x with | some true=>f s | some false=>tryH exm r C s | none=>.no
noncomputable def sTry(exm:Str→Str→Option Bool)(b:SF)(hs:List (Str×SF)):SF:=fun s=>match b s with
 | .ex C s1=>tryH exm hs C s1
 | r=>r

noncomputable def tgN:Sd→List DV→Option Sd
 | s,[]=>some s
 | _,_=>none
noncomputable def tgC(b:Sd→DV→Option Sd)(g:Sd→List DV→Option Sd):Sd→List DV→Option Sd
 | s,r::rs=>(match b s r with | some s1=>g s1 rs | none=>none)
 | _,[]=>none
noncomputable def tgT(g:Sd→List DV→Option Sd):Sd→DV→Option Sd
 | s,.val (.nd .tup l)=>if D.imms l then g s (l.map .val) else none
 | _,_=>none
noncomputable def lGs(R:RC)(ix:List Nat)(g:Sd→List DV→Option Sd):TGs:=fun vs σ H Q=>∃ hd ts fr l,Cf R ix hd H σ ts (l++fr)∧l.map T.val=vs∧∃ s',g (ts.map TL.er) ((T.ers l).map .val)=some s'∧∀ σ' ts',ts'.map TL.er=s'→Cf R ix hd H σ' ts' fr→Q σ' H
theorem Z304(vs:List V)(σ:L2.St)(H:Hp)(Q:L2.St→Hp→Prop)(h:lGs R ix tgN vs σ H Q):gNil vs σ H Q:=by
 obtain ⟨hd,ts,fr,l,C,rfl,s',e,q⟩:=h
 cases l with
 | nil=>cases e;exact ⟨rfl,q σ ts rfl C⟩
 | cons t l=>simp [T.ers,tgN] at e
theorem Z303{b:Sd→DV→Option Sd}{g:Sd→List DV→Option Sd}(vs:List V)(σ:L2.St)(H:Hp)(Q:L2.St→Hp→Prop)(h:lGs R ix (tgC b g) vs σ H Q):gCons (lG R ix b) (lGs R ix g) vs σ H Q:=by
 obtain ⟨hd,ts,fr,l,C,rfl,s',e,q⟩:=h
 cases l with
 | nil=>simp [T.ers,tgC] at e
 | cons t l =>
  simp only [T.ers,Ql,tgC] at e
  cases eb:b (ts.map TL.er) (.val t.er) with
  | none=>rw [eb] at e;cases e
  | some s1 =>
   rw [eb] at e
   refine ⟨t.val,l.map T.val,rfl,hd,ts,l++fr,.val t,C,rfl,s1,eb,fun σ1 ts1 e1 C1=>⟨hd,ts1,fr,l,C1,rfl,s',by rw [e1];exact e,q⟩⟩
theorem Z302{K:Qd}{n:Nat}{g:Sd→List DV→Option Sd}(hn:∀ s l s',g s l=some s'→l.length=n)(v:V)(σ:L2.St)(H:Hp)(Q:L2.St→Hp→Prop)(h:lG R ix (tgT g) v σ H Q):gTup K n (lGs R ix g) v σ H Q:=by
 obtain ⟨hd,ts,fr,tv,C,hv,s',e,q⟩:=h
 cases tv with
 | plc k p a=>simp [TV.er,tgT] at e
 | val t =>
  cases hv
  cases t with
  | «at» v=>simp [TV.er,T.er,tgT] at e
  | nd a kd ch =>
   cases kd with
   | tup =>
    simp only [TV.er,T.er,tgT] at e
    cases hi:D.imms (T.ers ch) with
    | false=>rw [hi] at e;simp at e
    | true =>
     rw [hi,if_pos rfl] at e
     have ok:=C.fok.1
     have ho:=T.imms_own hi
     refine ⟨a,ch.map T.val,rfl,ok.1.sqT,?_,hd,ts,fr,ch,?_,rfl,s',e,q⟩
     ·have:=hn _ _ _ e
      simpa [T.ers_eq] using this
     ·refine C.less (x:=[]) (T.oks_app.mpr ⟨ok.2,C.fok.2⟩) ?_ fun b hb=>?_
      ·show (T.owns (T.nd a .tup ch::fr)).Perm (T.owns (ch++fr)++[])
       rw [T.owns_cons,T.owns_app,T.own,ho];simp [NK.mut]
      ·left
       show b∈T.ros (T.nd a .tup ch::fr)
       rw [T.ros_cons,T.ro]
       rw [T.ros_app] at hb
       simp only [Qe] at hb ⊢
       rcases hb with hb | hb
       ·exact .inl (.inr hb)
       ·exact .inr hb
   | _=>simp [TV.er,T.er,tgT] at e
noncomputable def TgLen(n:Nat)(g:Sd→List DV→Option Sd):Prop:=∀ s l s',g s l=some s'→l.length=n
theorem Z628:TgLen 0 tgN:=fun s l s' h=>by cases l with | nil=>rfl | cons=>simp [tgN] at h
theorem Z627{n:Nat}{b:Sd→DV→Option Sd}{g:Sd→List DV→Option Sd}(h:TgLen n g):TgLen (n + 1) (tgC b g):=fun s l s' e=>by
 cases l with
 | nil=>simp [tgC] at e
 | cons r rs =>
  simp only [tgC] at e
  cases eb:b s r with
  | none=>rw [eb] at e;cases e
  | some s1=>rw [eb] at e;simp [h _ _ _ e]
theorem Z527:PGs X [] (lGs R ix tgN):=fun pins s σ H vs us Q I r h=>Z474 pins s σ H vs us Q I r (Z304 vs σ H Q h)
theorem Z526{e:Expr}{es:List Expr}{b:Sd→DV→Option Sd}{g:Sd→List DV→Option Sd}(h1:PG X e (lG R ix b))(h2:PGs X es (lGs R ix g))(hs:(assignEach (e::es) X.env).map (·.2)=assign e X.env::(assignEach es X.env).map (·.2):=by rfl):PGs X (e::es) (lGs R ix (tgC b g)) :=
 fun pins s σ H vs us Q I r h=>Z473 h1 h2 hs pins s σ H vs us Q I r (Z303 vs σ H Q h)
theorem Z525{es:List Expr}{k n:Nat}{pos:Pos}{g:Sd→List DV→Option Sd}(hc:X.calm=true)(h:PGs X es (lGs R ix g))(hl:TgLen n g)(hn:(assignEach es X.env).length=n:=by rfl)(hst:(assignEach es X.env).findIdx? (·.1)=none:=by rfl):PG X (.Tuple es k pos) (lG R ix (tgT g)) :=
 fun pins s σ H v u Q I r hh=>Z472 hc h hn hst pins s σ H v u Q I r (Z302 hl v σ H Q hh)
end
end RM

namespace RM
open PySem PySem.Spec PyProof.Rows L2
theorem er_at{t:T}{v:V}(h:t.er=.at v)(hv:flatV v=true):t=.at v:=by
 cases t with
 | nd a k l=>cases h
 | «at» u =>
  cases u with
  | ref a=>cases h;cases hv
  | _=>cases h;rfl
theorem Z55{v:V}(h:flatV v=true):cl v=v:=by cases v <;> first | rfl | cases h
section
variable {X:Cx}{R:RC}{ix:List Nat}{H H':Hp}{σ:L2.St}
theorem gNw1{h:List D→Option D}{x:V}{Q:VK}(q:gNw h [x] H Q):∃ t:T,t.ok H∧t.val=x∧∃ d,h [t.er]=some d∧∀ t' H',t'.er=d→NewOk H H' [t] t'→Q t'.val H':=by
 obtain ⟨l,ok,hv,q⟩:=q
 obtain ⟨t,rfl,rfl⟩:=map1 hv
 exact ⟨t,ok.1,rfl,q⟩
theorem gNw2{h:List D→Option D}{x y:V}{Q:VK}(q:gNw h [x,y] H Q):∃ t u:T,t.ok H∧u.ok H∧t.val=x∧u.val=y∧∃ d,h [t.er,u.er]=some d∧∀ t' H',t'.er=d→NewOk H H' [t,u] t'→Q t'.val H':=by
 obtain ⟨l,ok,hv,q⟩:=q
 obtain ⟨t,u,rfl,rfl,rfl⟩:=map2 hv
 exact ⟨t,u,ok.1,ok.2.1,rfl,rfl,q⟩
theorem CallR.or{f:Value}{r r':List V→Hp→VK→Prop}(h:CallR X f r)(h':CallR X f r'):CallR X f fun x H Q=>r x H Q∨r' x H Q:=fun pins s σ H x u Q I rx q=>q.elim (h pins s σ H x u Q I rx) (h' pins s σ H x u Q I rx)

noncomputable def hI(C:Int→Int→Bool)(g:Int→Int→V):List D→Option D
 | [.at (.int i),.at (.int j)]=>if C i j then some (.at (g i j)) else none
 | _=>none
theorem Z215{C:Int→Int→Bool}{g:Int→Int→V}{a b d:D}(h:hI C g [a,b]=some d):∃ i j,a=.at (.int i)∧b=.at (.int j)∧C i j=true∧d=.at (g i j):=by
 unfold hI at h
 split at h
 case h_1 i j e =>
  cases e
  split at h
  ·cases h;exact ⟨i,j,rfl,rfl,by assumption,rfl⟩
  ·cases h
 case h_2=>cases h
theorem on_hI{f:Value→Value→Sem Value}{Cp:Int→Int→Prop}{C:Int→Int→Bool}{g:Int→Int→V}(ho:OpR X f (rI Cp g))(hC:∀ i j,C i j=true→Cp i j)(hg:∀ i j,flatV (g i j)=true):OpR X f (oNw (hI C g)):=opM ho fun x y H Q q=>by
 obtain ⟨t,u,ht,hu,rfl,rfl,d,hh,q⟩:=gNw2 q
 obtain ⟨i,j,e1,e2,c,rfl⟩:=Z215 hh
 cases er_at e1 rfl
 cases er_at e2 rfl
 exact ⟨i,j,rfl,rfl,hC i j c,q (.at (g i j)) H (by rw [T.er,Z55 (hg i j)]) (.atom _)⟩
theorem Z423{f:Value→Value→Sem Value}{g:Int→Int→V}(ho:OpR X f (rI0 g))(hg:∀ i j,flatV (g i j)=true):OpR X f (oNw (hI (fun _ _=>true) g)):=opM ho fun x y H Q q=>by
 obtain ⟨t,u,ht,hu,rfl,rfl,d,hh,q⟩:=gNw2 q
 obtain ⟨i,j,e1,e2,c,rfl⟩:=Z215 hh
 cases er_at e1 rfl
 cases er_at e2 rfl
 exact ⟨i,j,rfl,rfl,q (.at (g i j)) H (by rw [T.er,Z55 (hg i j)]) (.atom _)⟩
noncomputable abbrev hSub:List D→Option D:=hI (fun _ _=>true) fun i j=>.int (i - j)
noncomputable abbrev hMul:List D→Option D:=hI (fun i j=>decide (-(2 ^ 64) < i∧i < 2 ^ 64) || decide (-(2 ^ 64) < j∧j < 2 ^ 64)) fun i j=>.int (i * j)
noncomputable abbrev hDiv:List D→Option D:=hI (fun _ j=>decide (0 < j) && decide (j < 1073741824)) fun i j=>.int (i / j)
noncomputable abbrev hMod:List D→Option D:=hI (fun _ j=>decide (0 < j)) fun i j=>.int (i % j)
noncomputable abbrev hLt:List D→Option D:=hI (fun _ _=>true) fun i j=>.bl (decide (i < j))
noncomputable abbrev hGt:List D→Option D:=hI (fun _ _=>true) fun i j=>.bl (decide (j < i))
theorem Z428:OpR X (binaryOp .Sub) (oNw hSub):=Z423 Z437 fun _ _=>rfl
theorem Z425:OpR X (binaryOp .Mult) (oNw hMul):=on_hI Z434 (fun i j h=>by simpa [CMul] using h) fun _ _=>rfl
theorem Z422:OpR X (binaryOp .FloorDiv) (oNw hDiv):=on_hI Z431 (fun i j h=>by simpa [CDiv] using h) fun _ _=>rfl
theorem Z424:OpR X (binaryOp .Mod) (oNw hMod):=on_hI Z433 (fun i j h=>by simpa using h) fun _ _=>rfl
theorem on_lt:OpR X (compareOp .Lt) (oNw hLt):=Z423 op_lt fun _ _=>rfl
theorem on_gt:OpR X (compareOp .Gt) (oNw hGt):=Z423 op_gt fun _ _=>rfl

noncomputable def hEq(neg:Bool):List D→Option D
 | [.at x,.at y]=>if flatV x && flatV y && scal x y then some (.at (.bl (decide (x=y) != neg))) else none
 | _=>none
theorem Z212{neg:Bool}{a b d:D}(h:hEq neg [a,b]=some d):∃ x y,a=.at x∧b=.at y∧flatV x=true∧flatV y=true∧scal x y=true∧d=.at (.bl (decide (x=y) != neg)):=by
 unfold hEq at h
 split at h
 case h_1 x y e =>
  cases e
  split at h
  case isTrue z =>
   simp only [Jt] at z
   cases h;exact ⟨x,y,rfl,rfl,z.1.1,z.1.2,z.2,rfl⟩
  case isFalse=>cases h
 case h_2=>cases h
theorem on_eq:OpR X (compareOp .Eq) (oNw (hEq false)):=opM op_eq fun x y H Q q=>by
 obtain ⟨t,u,ht,hu,rfl,rfl,d,hh,q⟩:=gNw2 q
 obtain ⟨i,j,e1,e2,f1,f2,c,rfl⟩:=Z212 hh
 cases er_at e1 f1
 cases er_at e2 f2
 exact ⟨c,q (.at (.bl (decide (i=j)))) H (by simp [T.er,cl]) (.atom _)⟩
theorem on_ne:OpR X (compareOp .NotEq) (oNw (hEq true)):=opM op_ne fun x y H Q q=>by
 obtain ⟨t,u,ht,hu,rfl,rfl,d,hh,q⟩:=gNw2 q
 obtain ⟨i,j,e1,e2,f1,f2,c,rfl⟩:=Z212 hh
 cases er_at e1 f1
 cases er_at e2 f2
 exact ⟨c,q (.at (.bl (!decide (i=j)))) H (by simp [T.er,cl]) (.atom _)⟩
noncomputable def hIsN(neg:Bool):List D→Option D
 | [.at x,.at .non]=>some (.at (.bl (decide (x=.non) != neg)))
 | [.nd _ _,.at .non]=>some (.at (.bl neg))
 | _=>none
theorem Z255{t u:T}{d:D}{neg:Bool}(h:hIsN neg [t.er,u.er]=some d):u=.at .non∧d=.at (.bl (decide (t.val=.non) != neg)):=by
 cases u with
 | nd a k l=>cases t <;> simp [hIsN,T.er] at h
 | «at» y =>
  have hy:y=.non:=by
   cases y <;> first | rfl | (cases t <;> simp [hIsN,T.er,cl] at h)
  subst hy
  refine ⟨rfl,?_⟩
  cases t with
  | nd a k l =>
   simp only [T.er,hIsN,cl,Option.some.injEq] at h
   rw [← h];simp [T.val]
  | «at» x =>
   simp only [T.er,hIsN,cl,Option.some.injEq] at h
   rw [← h]
   cases x <;> simp [T.val,cl]
theorem Z427:OpR X (compareOp .IsNot) (oNw (hIsN true)):=opM Z436 fun x y H Q q=>by
 obtain ⟨t,u,ht,hu,rfl,rfl,d,hh,q⟩:=gNw2 q
 obtain ⟨rfl,rfl⟩:=Z255 hh
 exact ⟨rfl,q (.at (.bl (!decide (t.val=.non)))) H (by simp [T.er,cl]) (.atom _)⟩

theorem Z397{l:List T}{k:NK}{ch:List T}{p:Addr}{o:HO}(hp:H p=none)(ho:NodeOk (upd H p o) p k (ch.map T.val))(hk:k.mut=true∨k=.tup)(hc:∀ t∈ch,t.ok H∧t.own=[])(hr:∀ a∈T.ros ch,a∈T.ros l):NewOk H (upd H p o) l (.nd p k ch):=by
 have hown:T.owns ch=[]:=by
  refine List.eq_nil_iff_forall_not_mem.mpr fun a z=>?_
  obtain ⟨t,h1,h2⟩:=T.mem_owns.mp z
  rw [(hc t h1).2] at h2;cases h2
 have there:∀ a∈T.ros ch,a≠p:=fun a z e=>by
  obtain ⟨t,h1,h2⟩:=T.mem_ros.mp z
  exact T.there (hc t h1).1 (.inr h2) (by rw [e];exact hp)
 refine ⟨⟨ho,T.oks_iff.mpr fun t ht=>T.keep (hc t ht).1 fun a z=>?_⟩,?_,fun a z=>?_,fun a z=>?_,fun a z=>?_,fun a z=>Z646 (by rintro rfl;exact z hp)⟩
 ·refine Z646 ?_
  rcases z with z | z
  ·rw [(hc t ht).2] at z;cases z
  ·exact there a (T.mem_ros.mpr ⟨t,ht,z⟩)
 ·rw [T.own,hown];cases k.mut <;> simp
 ·rw [T.own,hown] at z
  have:a=p:=by revert z;cases k.mut <;> simp
  rw [this];exact hp
 ·rw [T.ro] at z
  rcases Qe.mp z with z | z
  ·left
   have:a=p:=by revert z;cases k.mut <;> simp
   rw [this];exact hp
  ·exact .inr (hr a z)
 ·rw [T.ro] at z
  rw [T.own,hown]
  rcases Qe.mp z with z | z
  ·revert z;cases k.mut <;> simp
  ·intro q
   have:a=p:=by revert q;cases k.mut <;> simp
   exact there a z this
theorem Z236{l:List T}(h:D.imms (T.ers l)=true):∀ t∈l,t.own=[]:=fun t ht=>by
 have:=T.imms_own h
 refine List.eq_nil_iff_forall_not_mem.mpr fun a z=>?_
 have:a∈T.owns l:=T.mem_owns.mpr ⟨t,ht,z⟩
 rw [T.imms_own h] at this;cases this
noncomputable def hAdd:List D→Option D
 | [.at (.int i),.at (.int j)]=>some (.at (.int (i + j)))
 | [.at (.str x),.at (.str y)]=>if x.length + y.length≤sizeLine then some (.at (.str (x++y))) else none
 | [.nd (.lst true) l,.nd (.lst true) m]=>if D.imms l && D.imms m && decide (l.length + m.length≤sizeLine) then some (.nd (.lst true) (l++m)) else none
 | [.nd .tup l,.nd .tup m]=>if D.imms l && D.imms m && decide (l≠[]∧m≠[]∧l.length + m.length≤sizeLine) then some (.nd .tup (l++m)) else none
 | _=>none
theorem Z350{t:T}{m:Bool}{l:List D}(h:t.er=.nd (.lst m) l):∃ a ch,t=.nd a (.lst m) ch∧l=T.ers ch:=by
 cases t with
 | «at» v=>cases h
 | nd a k ch=>cases h;exact ⟨a,ch,rfl,rfl⟩
theorem Z633{t:T}{l:List D}(h:t.er=.nd .tup l):∃ a ch,t=.nd a .tup ch∧l=T.ers ch:=by
 cases t with
 | «at» v=>cases h
 | nd a k ch=>cases h;exact ⟨a,ch,rfl,rfl⟩
theorem Z116(l m:List T):T.ers (l++m)=T.ers l++T.ers m:=by rw [T.ers_eq,T.ers_eq,T.ers_eq,Qv]
theorem Z117(l:List T):(T.ers l).length=l.length:=by rw [T.ers_eq,Qn]

open Classical in
noncomputable def hLen(K:Qd):List D→Option D
 | [.at (.str x)]=>if x.length≤sizeLine then some (.at (.int x.length)) else none
 | [.nd (.lst _) l]=>some (.at (.int l.length))
 | [.nd .tup l]=>some (.at (.int l.length))
 | [.nd (.dic _ _) l]=>some (.at (.int l.length))
 | [.nd (.kst K') l]=>if K'=K then some (.at (.int l.length)) else none
 | _=>none
theorem Z59:CallR X (.builtin "len") (gNw (hLen X.K)):=callM (CallR.or call_len Z48) fun vs H Q q=>by
 obtain ⟨l,ok,hv,q⟩:=q
 obtain ⟨d,hh,q⟩:=q
 match l,ok,hv,hh,q with
 | [],_,_,hh,_=>cases hh
 | _::_::_,_,_,hh,_=>simp [T.ers,hLen] at hh
 | [t],ok,hv,hh,q =>
  subst hv
  simp only [T.ers] at hh
  cases t with
  | «at» v =>
   cases v with
   | str x =>
    simp only [T.er,cl,hLen] at hh
    split at hh
    ·cases hh
     exact .inl ⟨.str x,x.length,rfl,⟨by assumption,rfl⟩,q (.at (.int x.length)) H rfl (.atom _)⟩
    ·cases hh
   | _=>simp [T.er,cl,hLen] at hh
  | nd a k ch =>
   cases k with
   | lst m =>
    simp only [T.er,hLen,Option.some.injEq,Z117] at hh
    subst hh
    exact .inl ⟨.ref a,ch.length,rfl,.inl ⟨_,ok.1.1.sqL,by simp⟩,q (.at (.int ch.length)) H rfl (.atom _)⟩
   | tup =>
    simp only [T.er,hLen,Option.some.injEq,Z117] at hh
    subst hh
    exact .inl ⟨.ref a,ch.length,rfl,.inr ⟨_,ok.1.1.sqT,by simp⟩,q (.at (.int ch.length)) H rfl (.atom _)⟩
   | dic m ks =>
    simp only [T.er,hLen,Option.some.injEq,Z117] at hh
    subst hh
    obtain ⟨h1,_,h2⟩:=ok.1.1
    refine .inr ⟨a,ks.zip (ch.map T.val),rfl,h2,?_⟩
    have:(ks.zip (ch.map T.val)).length=ch.length:=by
     simp only [Qn] at h1
     simp [h1]
    rw [this]
    exact q (.at (.int ch.length)) H rfl (.atom _)
   | kst K' =>
    simp only [T.er,hLen,Z117] at hh
    split at hh
    case isTrue e =>
     subst e
     cases hh
     exact .inl ⟨.ref a,ch.length,rfl,.inl ⟨_,.inr ok.1.1,by simp⟩,q (.at (.int ch.length)) H rfl (.atom _)⟩
    case isFalse=>cases hh
   | _=>simp [T.er,hLen] at hh
theorem rc_b{x:Str}{id:String}{h:List D→Option D}{p pos:Pos}{e:Expr}{es:List Expr}{f:AF}(hc:CallR X (.builtin id) (gNw h))(hg:Gl X x)(hm:X.mg x=none)(hv:bootBuiltins x=some (.builtin id))(ha:PA X (e::es) (lA R ix f))(hn:x ≠ "__name__":=by decide)(hdb:(x == ("__debug__":Str))=false:=by decide)
  (he:starEach (e::es) X.env=(false,eval e X.env)::starEach es X.env:=by rfl) (hpl:(backTo pos (starEach es X.env)).any (·.1)=false:=by rfl):PE X (.Call (.Name x p) (e::es) [] pos) (lE R ix (eNw h f)) :=
 peM (Z453 hc hg hm hv ha hn hdb he hpl) fun σ H Q q=>lA_nw σ H Q q
theorem rc_ty{x:Str}{Ty:String}{h:List D→Option D}{p pos:Pos}{e:Expr}{es:List Expr}{f:AF}(hc:CallR X (.type Ty) (gNw h))(hg:Gl X x)(hm:X.mg x=none)(hv:bootBuiltins x=some (.type Ty))(ha:PA X (e::es) (lA R ix f))(hn:x ≠ "__name__":=by decide)(hdb:(x == ("__debug__":Str))=false:=by decide)
  (he:starEach (e::es) X.env=(false,eval e X.env)::starEach es X.env:=by rfl) (hpl:(backTo pos (starEach es X.env)).any (·.1)=false:=by rfl):PE X (.Call (.Name x p) (e::es) [] pos) (lE R ix (eNw h f)) :=
 peM (Z454 hc hg hm hv ha hn hdb he hpl) fun σ H Q q=>lA_nw σ H Q q
noncomputable def hList:List D→Option D
 | [.nd (.lst _) l]=>if D.imms l then some (.nd (.lst true) l) else none
 | [.nd .tup l]=>if D.imms l then some (.nd (.lst true) l) else none
 | _=>none
theorem Z60:CallR X (.type "list") (gNw hList):=callM Z49 fun vs H Q q=>by
 obtain ⟨l,ok,hv,d,hh,q⟩:=q
 match l,ok,hv,hh,q with
 | [],_,_,hh,_=>cases hh
 | _::_::_,_,_,hh,_=>simp [T.ers,hList] at hh
 | [t],ok,hv,hh,q =>
  subst hv
  simp only [T.ers] at hh
  cases t with
  | «at» v=>simp [T.er,hList] at hh
  | nd a k ch =>
   have main:(SqL X.K H a (ch.map T.val)∨SqT X.K H a (ch.map T.val))→D.imms (T.ers ch)=true→d=.nd (.lst true) (T.ers ch)→(∀ b∈T.ros ch,b∈T.ros [T.nd a k ch])→∃ p ys,[(T.nd a k ch).val]=[V.ref p]∧(SqL X.K H p ys∨SqT X.K H p ys)∧∀ l,H l=none→Q (.ref l) (upd H l (.lst ys)):=by
    rintro hs hi rfl hr
    exact ⟨a,ch.map T.val,rfl,hs,fun p hp=>q (.nd p (.lst true) ch) _ rfl (Z397 hp Z647 (.inl rfl) (fun t ht=>⟨T.oks_iff.mp ok.1.2 t ht,Z236 hi t ht⟩) hr)⟩
   cases k with
   | lst m =>
    simp only [T.er,hList] at hh
    split at hh
    ·cases hh
     exact main (.inl ok.1.1.sqL) (by assumption) rfl fun b hb=>by simp [T.ros,T.ro,hb]
    ·cases hh
   | tup =>
    simp only [T.er,hList] at hh
    split at hh
    ·cases hh
     exact main (.inr ok.1.1.sqT) (by assumption) rfl fun b hb=>by simp [T.ros,T.ro,hb]
    ·cases hh
   | _=>simp [T.er,hList] at hh
end
end RM

namespace RM
open PySem PySem.Spec PyProof.Rows L2
section
variable {X:Cx}{R:RC}{ix:List Nat}{H H':Hp}{σ:L2.St}{K:Qd}
theorem gCh2{h:List D→Option Sel}{x y:V}{Q:VK}(q:gCh h [x,y] H Q):∃ t u:T,t.ok H∧u.ok H∧t.val=x∧u.val=y∧∃ c v,h [t.er,u.er]=some c∧selT [t,u] c=some v∧Q v H:=by
 obtain ⟨l,ok,hv,q⟩:=q
 obtain ⟨t,u,rfl,rfl,rfl⟩:=map2 hv
 exact ⟨t,u,ok.1,ok.2.1,rfl,rfl,q⟩
open Classical in
noncomputable def hIx(K:Qd):List D→Option Sel
 | [.nd (.lst _) l,.at (.int i)]=>(ixN l.length i).map .ch
 | [.nd .tup l,.at (.int i)]=>(ixN l.length i).map .ch
 | [.nd (.kst K') l,.at (.int i)]=>if K'=K then (ixN l.length i).map .ch else none
 | [.at (.str z),.at (.int i)]=>if z.length≤sizeLine then (atI z.cps.toList i).map fun c=>.cs (.str ⟨#[c]⟩) else none
 | _=>none
theorem ixM{r r':R2}(h:IxR X r)(m:∀ x y H Q,r' x y H Q→r x y H Q):IxR X r':=fun v sl pins s σ H x y ov u Q I rx ry q hs=>h v sl pins s σ H x y ov u Q I rx ry (m _ _ _ _ q) hs
theorem ix_h:IxR X fun x y H Q=>gCh (hIx X.K) [x,y] H Q:=ixM ix_seq fun x y H Q q=>by
 obtain ⟨t,u,ht,hu,rfl,rfl,c,v,hh,hs,qq⟩:=gCh2 q
 have hi:∃ i,u=.at (.int i):=by
  cases u with
  | nd a k l=>cases t with
   | nd b k' l'=>cases k' <;> simp [T.er,hIx] at hh
   | «at» w=>cases w <;> simp [T.er,hIx,cl] at hh
  | «at» w=>cases w with
   | int i=>exact ⟨i,rfl⟩
   | _=>cases t with
    | nd b k' l'=>cases k' <;> simp [T.er,hIx,cl] at hh
    | «at» w=>cases w <;> simp [T.er,hIx,cl] at hh
 obtain ⟨i,rfl⟩:=hi
 have seq:∀ {a:Addr} {k:NK} {ch:List T},T.nd a k ch=t→(ixN (T.ers ch).length i).map Sel.ch=some c→atI (ch.map T.val) i=some v:=by
  rintro a k ch rfl h
  rw [Z117] at h
  cases e:ixN ch.length i with
  | none=>rw [e] at h;cases h
  | some j =>
   rw [e] at h
   cases h
   unfold atI
   rw [Qn,e]
   simpa [selT] using hs
 cases t with
 | nd a k ch =>
  cases k with
  | lst m=>exact .inl ⟨a,ch.map T.val,i,v,rfl,rfl,ht.1.sqL,seq rfl (by simpa [T.er,hIx,cl] using hh),qq⟩
  | tup=>exact .inr (.inl ⟨a,ch.map T.val,i,v,rfl,rfl,ht.1.sqT,seq rfl (by simpa [T.er,hIx,cl] using hh),qq⟩)
  | kst K' =>
   have e:K'=X.K:=by
    by_cases e:K'=X.K
    ·exact e
    ·simp [T.er,hIx,cl,e] at hh
   subst e
   exact .inl ⟨a,ch.map T.val,i,v,rfl,rfl,.inr ht.1,seq rfl (by simpa [T.er,hIx,cl] using hh),qq⟩
  | _=>simp [T.er,hIx] at hh
 | «at» w =>
  cases w with
  | str z =>
   simp only [T.er,cl,hIx] at hh
   split at hh
   ·cases e:atI z.cps.toList i with
    | none=>rw [e] at hh;cases hh
    | some ch =>
     rw [e] at hh
     cases hh
     cases hs
     exact .inr (.inr ⟨z,i,ch,rfl,rfl,by assumption,e,qq⟩)
   ·cases hh
  | _=>simp [T.er,hIx,cl] at hh
theorem re_ix{a b:Expr}{pos:Pos}{fa fb:EF}(ha:PE X a (lE R ix fa))(hb:PE X b (lE R ix fb))(hs:PlainIx b):PE X (.Subscript a b pos) (lE R ix (eCh (hIx X.K) (aCons fa (aCons fb aNil)))) :=
 peM (pe_ix ix_h ha hb hs) fun σ H Q q=>lA_2 (lA_ch σ H Q q)

noncomputable def idx(f:Str)(ns:List Str):Option Nat:=ns.findIdx? (· == f)
noncomputable def hFld(C:Addr)(f:Str):List D→Option Sel
 | [.nd (.ins _ C' ns) _]=>if C'=C then (idx f ns).map .ch else none
 | _=>none

noncomputable def keyD:D→Option Key
 | .at (.int i)=>some (.inl i)
 | .at (.str x)=>some (.inr x)
 | _=>none
theorem Z271{t:T}{k:Key}(h:keyD t.er=some k):t=.at (kV k):=by
 cases t with
 | nd a q l=>simp [T.er,keyD] at h
 | «at» v=>cases v <;> simp [T.er,cl,keyD] at h <;> (subst h;rfl)
noncomputable def keysD:List D→Option (List Key)
 | []=>some []
 | d::r=>match keyD d,keysD r with | some k,some ks=>some (k::ks) | _,_=>none
theorem Z281:∀ {l:List T} {ks:List Key},keysD (T.ers l)=some ks→l.map T.val=ks.map kV
 | [],ks,h=>by cases h;rfl
 | t::l,ks,h=>by
  simp only [T.ers,keysD] at h
  cases e1:keyD t.er with
  | none=>simp [e1] at h
  | some k=>cases e2:keysD (T.ers l) with
   | none=>simp [e1,e2] at h
   | some r =>
    simp only [e1,e2,Option.some.injEq] at h
    subst h
    rw [Z271 e1,Ql,Ql,Z281 e2];rfl
noncomputable def idk{κ:Type}[DecidableEq κ](k:κ)(ks:List κ):Option Nat:=ks.findIdx? fun x=>decide (x=k)
theorem Z673{κ:Type}[DecidableEq κ](k:κ):∀ {ks:List κ} {vs:List V},ks.length=vs.length→valV (ks.zip vs) k=(idk k ks).bind fun j=>vs[j]?
 | [],vs,h=>by cases vs with | nil=>rfl | cons=>simp at h
 | x::ks,[],h=>by simp at h
 | x::ks,v::vs,h=>by
  have ih:=Z673 k (ks:=ks) (vs:=vs) (by simpa using h)
  unfold idk at *
  rw [List.zip_cons_cons,List.findIdx?_cons]
  by_cases e:x=k
  ·rw [Z676 (by exact e),decide_eq_true e];rfl
  ·rw [Z675 (by exact e),decide_eq_false e,if_neg Qt,ih]
   cases List.findIdx? (fun x=>decide (x=k)) ks <;> rfl
noncomputable def findD:D→D→Option (Option Nat)
 | .nd (.dic _ ks) _,k=>(keyD k).map fun k=>idk k ks
 | .nd (.dit _ ks) _,.nd .tup l=>(keysD l).map fun k=>idk k ks
 | _,_=>none
theorem Z194{t u:T}{o:Option Nat}(ht:t.ok H)(hu:u.ok H)(h:findD t.er u.er=some o):∃ a k ch,t=.nd a k ch∧DGet H a u.val (o.bind fun j=>(ch.map T.val)[j]?):=by
 cases t with
 | «at» v=>simp [T.er,findD] at h
 | nd a k ch =>
  cases k with
  | dic m ks =>
   refine ⟨a,_,ch,rfl,?_⟩
   simp only [T.er,findD] at h
   cases e:keyD u.er with
   | none=>rw [e] at h;cases h
   | some key =>
    rw [e] at h
    cases h
    obtain ⟨h1,_,h2⟩:=ht.1
    rw [Z271 e,← Z673 key h1]
    exact DGet.k h2
  | dit m ks =>
   refine ⟨a,_,ch,rfl,?_⟩
   cases u with
   | «at» v=>simp [T.er,findD] at h
   | nd b k' l =>
    cases k' with
    | tup =>
     simp only [T.er,findD] at h
     cases e:keysD (T.ers l) with
     | none=>rw [e] at h;cases h
     | some key =>
      rw [e] at h
      cases h
      obtain ⟨h1,_,h2⟩:=ht.1
      rw [← Z673 key h1]
      refine DGet.t h2 ?_
      rw [← Z281 e];exact hu.1
    | _=>simp [T.er,findD] at h
  | _=>simp [T.er,findD] at h
noncomputable def hDGet:List D→Option Sel
 | [d,k]=>match findD d k with | some (some j)=>some (.ch j) | _=>none
 | _=>none
theorem Z510{o i:Expr}{pos:Pos}{fo fi:EF}(hu:X.A.units + 1 < cLine)(ho:PE X o (lE R ix fo))(hi:PE X i (lE R ix fi))(hs:NoSl i):PE X (.Subscript o i pos) (lE R ix (eCh hDGet (aCons fo (aCons fi aNil)))) :=
 peM (Z457 hu ho hi hs) fun σ H Q q=>by
  refine Z299 (fun x H1 q=>Z299 (fun y H2 q=>?_) q) (lA_2 (lA_ch σ H Q q))
  obtain ⟨t,u,ht,hu',rfl,rfl,c,v,hh,hs',qq⟩:=gCh2 q
  simp only [hDGet] at hh
  split at hh
  case h_1 j e =>
   cases hh
   obtain ⟨a,k,ch,rfl,g⟩:=Z194 ht hu' e
   refine ⟨a,v,rfl,?_,qq⟩
   have:(some j).bind (fun j=>(ch.map T.val)[j]?)=some v:=by simpa [selT] using hs'
   rwa [this] at g
  case h_2=>cases hh
noncomputable def hDIn(neg:Bool):List D→Option D
 | [k,d]=>match findD d k with | some o=>some (.at (.bl (o.isSome != neg))) | none=>none
 | _=>none
theorem Z209{neg:Bool}{k d r:D}(h:hDIn neg [k,d]=some r):∃ o,findD d k=some o∧r=.at (.bl (o.isSome != neg)):=by
 simp only [hDIn] at h
 split at h
 case h_1 o e=>cases h;exact ⟨o,e,rfl⟩
 case h_2=>cases h
theorem Z256{o:Option Nat}{ch:List T}{k:NK}{a:Addr}{u:T}(h:findD (T.nd a k ch).er u.er=some o)(hok:(T.nd a k ch).ok H):(o.bind fun j=>(ch.map T.val)[j]?).isSome=o.isSome:=by
 cases o with
 | none=>rfl
 | some j =>
  have hj:j < ch.length:=by
   cases k with
   | dic m ks =>
    simp only [T.er,findD] at h
    cases e:keyD u.er with
    | none=>rw [e] at h;cases h
    | some key =>
     rw [e] at h
     simp only [Option.map_some,Option.some.injEq] at h
     have:=(List.findIdx?_eq_some_iff_getElem.mp h).1
     have h1:=hok.1.1
     simp only [Qn] at h1
     omega
   | dit m ks =>
    cases u with
    | «at» v=>simp [T.er,findD] at h
    | nd b k' l =>
     cases k' with
     | tup =>
      simp only [T.er,findD] at h
      cases e:keysD (T.ers l) with
      | none=>rw [e] at h;cases h
      | some key =>
       rw [e] at h
       simp only [Option.map_some,Option.some.injEq] at h
       have:=(List.findIdx?_eq_some_iff_getElem.mp h).1
       have h1:=hok.1.1
       simp only [Qn] at h1
       omega
     | _=>simp [T.er,findD] at h
   | _=>simp [T.er,findD] at h
  simp [hj]
theorem Z529{i o:Expr}{fi fo:EF}(hu:X.A.units + 1 < cLine)(hi:PE X i (lE R ix fi))(ho:PE X o (lE R ix fo)):PC X .NotIn i o (lE R ix (eNw (hDIn true) (aCons fi (aCons fo aNil)))):=fun pins s σ H Q I q=>Z449 hu hi ho pins s σ H Q I (by
 refine Z299 (fun x H1 q=>Z299 (fun y H2 q=>?_) q) (lA_2 (lA_nw σ H Q q))
 obtain ⟨t,u,ht,hu',rfl,rfl,d,hh,qq⟩:=gNw2 q
 obtain ⟨oo,e,rfl⟩:=Z209 hh
 obtain ⟨a,k,ch,rfl,g⟩:=Z194 hu' ht e
 refine ⟨a,_,rfl,g,?_⟩
 rw [Z256 e hu']
 exact qq (.at (.bl (!oo.isSome))) H2 (by simp [T.er,cl]) (.atom _))

noncomputable def hGet2:List D→Option Sel
 | [d,k,_]=>match findD d k with | some (some j)=>some (.ch j) | some none=>some (.ar 2) | none=>none
 | _=>none
noncomputable def isDic:D→Bool
 | .nd (.dic _ _) _=>true | .nd (.dit _ _) _=>true | _=>false
end
end RM

namespace RM
open PySem PySem.Spec PyProof.Rows L2
noncomputable def vals:List DV→Option (List D)
 | []=>some []
 | .val d::r=>(match vals r with | some l=>some (d::l) | none=>none)
 | .plc _ _::_=>none
noncomputable def eDisp(k:NK)(f:AF):EF:=fun s=>match f s with
 | .ok rs s1=>(match vals rs with | some l=>if l.length≤sizeLine then .ok (.val (.nd k l)) s1 else .no | none=>.no)
 | .ex C s1=>.ex C s1
 | .no=>.no
section
variable {X:Cx}{R:RC}{ix:List Nat}{hd:List (Nat×Addr)}{H H':Hp}{σ:L2.St}{K:Qd}{ts:Ts}{fr:List T}
theorem Z680:∀ {tvs:List TV} {vs:List V} {l:List D},vals (tvs.map TV.er)=some l→TvsOk ts vs tvs→∃ ch:List T,trs tvs=ch∧T.ers ch=l∧ch.map T.val=vs
 | [],_,_,h,.nil=>by cases h;exact ⟨[],rfl,rfl,rfl⟩
 | tv::tvs,_,l,h,.cons hv hr=>by
  cases tv with
  | plc k p a=>simp [TV.er,vals] at h
  | val t =>
   simp only [Ql,TV.er,vals] at h
   cases e:vals (tvs.map TV.er) with
   | none=>rw [e] at h;cases h
   | some r =>
    rw [e] at h
    cases h
    obtain ⟨ch,h1,h2,h3⟩:=Z680 e hr
    refine ⟨t::ch,?_,by rw [T.ers,h2],by rw [Ql,h3,hv]⟩
    show [t]++trs tvs=t::ch
    rw [h1];rfl
theorem Cf.wrap{ch:List T}{k:NK}{p:Addr}{o:HO}(C:Cf R ix hd H σ ts (ch++fr))(hp:H p=none)(ho:NodeOk (upd H p o) p k (ch.map T.val))(hko:k.out=false:=by rfl):Cf R ix hd (upd H p o) σ ts (.nd p k ch::fr):=by
 obtain ⟨f1,f2,f3,f4,f5,f6⟩:=C.fresh hp
 have ok:=T.oks_app.mp C.fok
 have kp:∀ a,H a≠none→upd H p o a=H a:=fun a z=>Z646 (by rintro rfl;exact z hp)
 rw [T.owns_app] at f4
 rw [T.ros_app] at f5
 simp only [Qe,not_or] at f4 f5
 have eo:T.owns (.nd p k ch::fr)=(if k.mut then [p] else [])++(T.owns ch++T.owns fr):=by rw [T.owns_cons,T.own,Qq]
 have er:T.ros (.nd p k ch::fr)=(if k.mut then [] else [p])++(T.ros ch++T.ros fr):=by rw [T.ros_cons,T.ro,hko,Bool.or_false,Qq]
 have hin:∀ a,a∈(if k.mut then [p] else [])→a=p:=fun a z=>by revert z;cases k.mut <;> simp
 have hin':∀ a,a∈(if k.mut then [] else [p])→a=p∧k.mut=false:=fun a z=>by revert z;cases k.mut <;> simp
 refine ⟨fun w t z=>T.keep (C.ok w t z) fun a q=>kp a (T.there (C.ok w t z) q),⟨⟨ho,T.keeps ok.1 fun a q=>kp a (T.theres ok.1 q)⟩,T.keeps ok.2 fun a q=>kp a (T.theres ok.2 q)⟩,?_,fun a z=>?_,fun a z=>?_,fun a z=>?_,C.bg,C.bor,C.ixs,C.sl,C.hdi,C.hdx,C.len,C.hdn⟩
 ·rw [eo]
  have nd:=C.nd
  rw [T.owns_app] at nd
  have n1:=Qj.mp nd
  refine Qj.mpr ⟨n1.1,Qj.mpr ⟨by cases k.mut <;> simp,n1.2.1,fun a za b zb e=>?_⟩,fun a za b zb e=>?_⟩
  ·subst e
   rw [hin a za] at zb
   exact (Qe.mp zb).elim f4.1 f4.2
  ·subst e
   rcases Qe.mp zb with zb | zb
   ·rw [hin a zb] at za;exact f1 za
   ·exact n1.2.2 a za a zb rfl
 ·rw [eo]
  rw [er] at z
  have zz:=z
  have main:∀ a,a∈roS ts∨a∈T.ros (ch++fr)→a∉ownS ts∧a∉(if k.mut then [p] else [])++(T.owns ch++T.owns fr)∧¬ R.B a:=by
   clear z
   intro a z
   obtain ⟨s1,s2,s3⟩:=C.sep a z
   rw [T.owns_app] at s2
   refine ⟨s1,fun q=>?_,s3⟩
   rcases Qe.mp q with q | q
   ·have e:=hin a q
    rw [e] at z
    rcases z with z | z
    ·exact f2 z
    ·rw [T.ros_app] at z;exact (Qe.mp z).elim f5.1 f5.2
   ·exact s2 q
  rcases zz with z | z
  ·exact main a (.inl z)
  ·rcases Qe.mp z with z | z
   ·obtain ⟨rfl,hm⟩:=hin' a z
    refine ⟨f1,fun q=>?_,fun q=>f6 (C.bg a q)⟩
    rw [hm] at q
    simp only [We,if_false,Je] at q
    exact (Qe.mp q).elim f4.1 f4.2
   ·exact main a (.inr (by rw [T.ros_app];exact z))
 ·rw [eo]
  obtain ⟨s1,s2⟩:=C.rd a z
  rw [T.owns_app] at s2
  refine ⟨s1,fun q=>?_⟩
  rcases Qe.mp q with q | q
  ·rw [hin a q] at z;exact f3 z
  ·exact s2 q
 ·rw [eo]
  obtain ⟨g1,g2,g3,g4⟩:=C.g a z
  rw [T.owns_app] at g4
  refine ⟨(kp a g2).trans g1,by rw [kp a g2];exact g2,g3,fun q=>?_⟩
  rcases Qe.mp q with q | q
  ·rw [hin a q] at z;exact f6 z
  ·exact g4 q
theorem Z293{k:NK}{f:AF}{o:List V→HO}(hko:k.out=false)(hk:∀ (H:Hp) p vs,NodeOk (upd H p (o vs)) p k vs)(σ:L2.St)(H:Hp)(Q:VK)(q:lE R ix (eDisp k f) σ H Q):lA R ix f σ H fun vs H1=>vs.length≤sizeLine∧∀ p,H1 p=none→Q (.ref p) (upd H1 p (o vs)):=by
 obtain ⟨hd,ts,fr,C,q⟩:=q
 refine ⟨hd,ts,fr,C,?_⟩
 unfold eDisp at q
 cases ef:f (ts.map TL.er) with
 | no=>rw [ef] at q;exact q
 | ex E s1=>rw [ef] at q;exact q
 | ok rs s1 =>
  rw [ef] at q
  intro H1 ts1 tvs vs e1 e2 hv C1
  subst e1 e2
  dsimp only at q
  cases ev:vals (tvs.map TV.er) with
  | none=>rw [ev] at q;exact q.elim
  | some l =>
   rw [ev] at q
   obtain ⟨ch,c1,c2,c3⟩:=Z680 ev hv
   subst c2 c3
   rw [c1] at C1
   dsimp only at q
   by_cases hz:(T.ers ch).length≤sizeLine
   ·rw [if_pos hz] at q
    refine ⟨by rw [Z117] at hz;simpa using hz,fun p hp=>?_⟩
    exact q _ ts1 (.val (.nd p k ch)) (.ref p) rfl rfl rfl (C1.wrap hp (hk H1 p _) hko)
   ·rw [if_neg hz] at q;exact q.elim
theorem Z515{es:List Expr}{pos:Pos}{f:AF}(h:PA X es (lA R ix f)):PE X (.List es pos) (lE R ix (eDisp (.lst true) f)):=peM (Z462 h) fun σ H Q q=>Z293 (k:=.lst true) (o:=HO.lst) rfl (fun _ _ _=>Z647) σ H Q q
theorem Z513{pos:Pos}:PE X (.Dict [] [] pos) (lE R ix (eDisp (.dic true []) aNil)):=peM Z459 fun σ H Q q=>by
 obtain ⟨hd,ts,fr,C,q⟩:=q
 intro p hp
 refine q _ ts (.val (.nd p (.dic true []) [])) (.ref p) rfl rfl rfl (Cf.wrap (ch:=[]) C hp ⟨rfl,Wo,Z647⟩)

noncomputable def hPutF(C:Addr)(f:Str):List D→Option Mu
 | [_,.nd (.ins true C' ns) l]=>if C'=C∧l.length < 1000 then (match idx f ns with | some j=>some (.set j 0) | none=>some (.add (.ins true C (ns++[f])) 0)) else none
 | _=>none

noncomputable def hPutD:List D→Option Mu
 | [_,.nd (.dic true ks) l,k]=>if l.length < sizeLine then (match keyD k with | some k=>(match idk k ks with | some j=>some (.set j 0) | none=>some (.add (.dic true (ks++[k])) 0)) | none=>none) else none
 | [_,.nd (.dit true ks) l,.nd .tup kl]=>if l.length < sizeLine then (match keysD kl with | some k=>(match idk k ks with | some j=>some (.set j 0) | none=>some (.add (.dit true (ks++[k])) 0)) | none=>none) else none
 | _=>none
theorem Z495{κ:Type}[DecidableEq κ]{k:κ}{v:V}:∀ {ks:List κ} {vs:List V},ks.length=vs.length→ks.Nodup→putK (ks.zip vs) k v=match idk k ks with | some j=>ks.zip (vs.set j v) | none=>(ks++[k]).zip (vs++[v]):=by
 intro ks vs hl hn
 cases e:idk k ks with
 | none =>
  have:valV (ks.zip vs) k=none:=by rw [Z673 k hl,e];rfl
  rw [Z496 v this]
  dsimp only
  rw [List.zip_append hl];rfl
 | some j =>
  have hj:=List.findIdx?_eq_some_iff_getElem.mp e
  obtain ⟨h1,h2,h3⟩:=hj
  have hk:ks[j]=k:=by simpa using h2
  have hv:valV (ks.zip vs) k=some (vs[j]'(by omega)):=by
   rw [Z673 k hl,e]
   simp [show j < vs.length by omega]
  unfold putK
  rw [Z672,hv]
  simp only [Option.isSome_some,if_true]
  refine Jz fun i=>?_
  rw [Qa,List.zip_eq_zipWith,List.zip_eq_zipWith,List.getElem?_zipWith,List.getElem?_zipWith,Qm]
  by_cases hij:j=i
  ·subst hij
   rw [if_pos rfl,if_pos (by omega),Qh h1,Qh (show j < vs.length by omega)]
   simp [hk]
  ·rw [if_neg hij]
   cases e1:ks[i]? with
   | none=>rfl
   | some x =>
    cases e2:vs[i]? with
    | none=>rfl
    | some y =>
     have hx:x≠k:=by
      rintro rfl
      obtain ⟨hi,rfl⟩:=Qc.mp e1
      exact hij ((Wu hn).mp hk)
     simp [hx]
theorem Z234{κ:Type}[DecidableEq κ]{k:κ}{ks:List κ}(h:idk k ks=none):k∉ks:=fun z=>by
 have:=List.findIdx?_eq_none_iff.mp h k z
 simp at this
theorem Z497{Q:Hp→Prop}{v d k:T}(hk:k.ok H){a:Addr}{kd:NK}{ch:List T}{op:Mu}(hd:d=.nd a kd ch)(ok:(T.nd a kd ch).ok H)(hh:hPutD [v.er,(T.nd a kd ch).er,k.er]=some op)
  (q:match op with
   | .add kd' m=>∃ x,[v,d,k][m]?=some x∧∀ o,HoOk o kd' (ch.map T.val++[x.val])→Q (upd H a o)
   | .set j m=>∃ x,[v,d,k][m]?=some x∧j < ch.length∧∀ o,HoOk o kd ((ch.map T.val).set j x.val)→Q (upd H a o)):∃ H4,DPut H a k.val v.val H4∧Q H4:=by
 subst hd
 cases kd with
 | dic m ks =>
  cases m with
  | false=>simp [T.er,hPutD] at hh
  | true =>
   simp only [T.er,hPutD] at hh
   split at hh
   case isFalse=>cases hh
   case isTrue hz =>
    cases ek:keyD k.er with
    | none=>rw [ek] at hh;cases hh
    | some key =>
     rw [ek] at hh
     obtain ⟨h1,h2,h3⟩:=ok.1
     have hzl:(ks.zip (ch.map T.val)).length < sizeLine:=by
      rw [Z117] at hz
      simp only [List.length_zip];simp only [Qn] at h1 ⊢;omega
     refine ⟨_,by rw [Z271 ek];exact DPut.k h3 hzl,?_⟩
     rw [Z495 h1 h2]
     dsimp only at hh
     cases ei:idk key ks with
     | none =>
      rw [ei] at hh
      cases hh
      obtain ⟨x,hx,q⟩:=q
      cases hx
      refine q _ ⟨by simp at h1 ⊢;omega,Z393 h2 (Z234 ei),rfl⟩
     | some j =>
      rw [ei] at hh
      cases hh
      obtain ⟨x,hx,_,q⟩:=q
      cases hx
      exact q _ ⟨by simpa using h1,h2,rfl⟩
 | dit m ks =>
  cases m with
  | false=>cases k with
   | «at» u=>simp [T.er,hPutD] at hh
   | nd b k' l=>cases k' <;> simp [T.er,hPutD] at hh
  | true =>
   cases k with
   | «at» u=>simp [T.er,hPutD] at hh
   | nd b k' kl =>
    cases k' with
    | tup =>
     simp only [T.er,hPutD] at hh
     split at hh
     case isFalse=>cases hh
     case isTrue hz =>
      cases ek:keysD (T.ers kl) with
      | none=>rw [ek] at hh;cases hh
      | some key =>
       rw [ek] at hh
       obtain ⟨h1,h2,h3⟩:=ok.1
       have hzl:(ks.zip (ch.map T.val)).length < sizeLine:=by
        rw [Z117] at hz
        simp only [List.length_zip];simp only [Qn] at h1 ⊢;omega
       refine ⟨_,DPut.t h3 (show H b=some (.tup (key.map kV)) by rw [← Z281 ek];exact hk.1) hzl,?_⟩
       rw [Z495 h1 h2]
       dsimp only at hh
       cases ei:idk key ks with
       | none =>
        rw [ei] at hh
        cases hh
        obtain ⟨x,hx,q⟩:=q
        cases hx
        refine q _ ⟨by simp at h1 ⊢;omega,Z393 h2 (Z234 ei),rfl⟩
       | some j =>
        rw [ei] at hh
        cases hh
        obtain ⟨x,hx,_,q⟩:=q
        cases hx
        exact q _ ⟨by simpa using h1,h2,rfl⟩
    | _=>simp [T.er,hPutD] at hh
 | _=>cases k with
  | «at» u=>simp [T.er,hPutD] at hh
  | nd b k' l=>cases k' <;> simp [T.er,hPutD] at hh
theorem Z533{o i value:Expr}{pos pos':Pos}{fo fi fv:EF}(hu:X.A.units + 1 < cLine)(ho:PE X o (lE R ix fo))(hi:PE X i (lE R ix fi))(hv:PE X value (lE R ix fv))(hs:swapsWith value (some (.Subscript o i pos')) pos.line X.env=pure false:=by rfl) :
  PS X (.Assign [.Subscript o i pos'] value pos) (lS R ix (sE (eMu 1 hPutD (aCons fv (aCons fo (aCons fi aNil)))))):=psM (Z482 hu ho hi hv hs) fun D σ H h=>by
 have h1:=lA_3 (lA_mu σ H (fun _ H1=>D.nx σ H1) (lS_e D σ H h))
 refine Z299 (fun v H1 q=>Z299 (fun x H2 q=>Z299 (fun y H3 q=>?_) q) q) h1
 obtain ⟨l,ok,hvl,a,kd,ch,op,hl,hm,hh,qq⟩:=q
 obtain ⟨tv,r,rfl,e1⟩:∃ t r,l=t::r∧r.map T.val=[x,y]:=by
  cases l with
  | nil=>cases hvl
  | cons t r=>exact ⟨t,r,rfl,(Wk.inj hvl).2⟩
 obtain ⟨td,tk,rfl,rfl,rfl⟩:=map2 e1
 cases (Wk.inj hvl).1
 cases hl
 obtain ⟨H4,p1,p2⟩:=Z497 (Q:=fun H1=>D.nx σ H1) (v:=tv) (k:=tk) ok.2.2.1 rfl ok.2.1 hh (by cases op <;> exact qq)
 exact ⟨a,H4,rfl,p1,p2⟩

noncomputable def isLst:D→Bool
 | .nd (.lst _) _=>true | _=>false
noncomputable def hApp:List D→Option Mu
 | [.nd (.lst true) l,_]=>if l.length < sizeLine then some (.add (.lst true) 1) else none
 | _=>none
theorem Z506{o e:Expr}{apos cpos:Pos}{fo fe:EF}(ho:PE X o (lE R ix fo))(he:PE X e (lE R ix fe))(hbase:attributeBase o "append" X.env (eval o X.env)=eval o X.env:=by rfl)
  (hfew:((backTo cpos (starEach [e] X.env)).all (fun x=>!x.1) && (backToKw cpos (keywordEach [] X.env)).all (fun x=>x.1.isSome) && decide ([e].length + ([]:List Keyword).length + (if ([]:List Keyword).isEmpty then 0 else 1) < 30))=true:=by rfl)
  (hline:(apos.endLine == cpos.line)=true:=by rfl) (hs:starEach [e] X.env=(false,eval e X.env)::starEach [] X.env:=by rfl) (hplain:(backTo cpos (starEach [] X.env)).any (·.1)=false:=by rfl) :
  PE X (.Call (.Attribute o "append" apos) [e] [] cpos) (lE R ix (eMu 0 hApp (aCons (eGuard isLst fo) (aCons fe aNil)))) :=
 peM (pe_bm PySem.F.plainAttrs_list PySem.F.slot_list_append PySem.F.type_list_append Z372 ho (Z445 he Z446 hs) hbase hfew hline hs hplain) fun σ H Q q=>by
  have q1:=lA_2 (lA_mu σ H Q q)
  refine Z299 (fun x H1 q=>?_) (Z298 q1)
  obtain ⟨⟨t0,rfl,t2,t3⟩,q⟩:=q
  obtain ⟨a,k,ch,rfl,hD⟩:∃ a m ch,t0=.nd a (.lst m) ch∧SqL X.K H1 a (ch.map T.val):=by
   cases t0 with
   | «at» v=>simp [T.er,isLst] at t3
   | nd a k ch=>cases k with
    | lst m=>exact ⟨a,m,ch,rfl,t2.1.sqL⟩
    | _=>simp [T.er,isLst] at t3
  refine ⟨.inl ⟨rfl,_,hD⟩,Z299 (fun y H2 q=>?_) q⟩
  obtain ⟨l,ok,hvl,a',kd,ch',op,hl,hm,hh,q⟩:=q
  obtain ⟨tl,te,rfl,e1,rfl⟩:=map2 hvl
  cases hl
  cases e1
  simp only [T.ers,T.er] at hh
  cases kd with
  | lst m =>
   cases m with
   | false=>simp [hApp] at hh
   | true =>
    simp only [hApp] at hh
    split at hh
    case isFalse=>cases hh
    case isTrue hz =>
     cases hh
     obtain ⟨x,hx,q⟩:=q
     cases hx
     exact ⟨a,ch'.map T.val,te.val,rfl,rfl,ok.1.1,by rw [Z117] at hz;simpa using hz,q _ rfl⟩
  | _=>simp [hApp] at hh
end
theorem Z548{X:Cx}{R:RC}{ix:List Nat}{a b:Expr}{op:CmpOp}{pos:Pos}{h:List D→Option D}{fa fb:EF}(ho:OpR X (compareOp op) (oNw h))(ha:PE X a (lE R ix fa))(hb:PE X b (lE R ix fb))(hm:behindInMarks op b=false):PT X (.Compare a [op] [b] pos) (lT R ix (bV (eNw h (aCons fa (aCons fb aNil))))) :=
 ptM (Z492 ho ha hb hm) fun σ H Q q=>lA_2 (lA_nw σ H _ (lT_v σ H Q q))
theorem Z549{X:Cx}{R:RC}{ix:List Nat}{a b:Expr}{op:CmpOp}{pos:Pos}{fe:EF}(h:PC X op a b (lE R ix fe))(h1:behindInMarks op b=false:=by first | exact nobehind _ (by decide) (by decide) | rfl):PT X (.Compare a [op] [b] pos) (lT R ix (bV fe)) :=
 ptM (Z491 h h1) fun σ H Q q=>lT_v σ H Q q
end RM

namespace RM
open PySem PySem.Spec PyProof.Rows L2
noncomputable def augGo(k:Nat)(p:List Nat)(sel:D→Option Nat)(g:Int→Int→Int)(fe:EF)(s1:Sd):SR:=match dref s1 (.plc k p),s1[k]? with
 | some (.nd kd l),some (.own true _)=>(match sel (.nd kd l) with
  | some j=>(match l[j]? with
   | some (.at (.int x))=>(match fe (s1++[.bor k p]) with
    | .ok (.val (.at (.int y))) s2=>(match unh s1.length k p s2 with
     | some s3=>(match dref s3 (.plc k p),s3[k]? with
      | some (.nd kd' l'),some (.own true _)=>(match sel (.nd kd' l') with
       | some j'=>if kd'.mut=true∧j' < l'.length then .nx (wr s3 k p (.nd kd' (l'.set j' (.at (.int (g x y))))) fun i=>i != j') else .no
       | none=>.no)
      | _,_=>.no)
     | none=>.no)
    | .ok _ _=>.no
    | .ex C s2=>(match unx s1.length s2 with | some s3=>.ex C s3 | none=>.no)
    | .no=>.no)
   | _=>.no)
  | none=>.no)
 | _,_=>.no
noncomputable def selF(C:Addr)(f:Str):D→Option Nat
 | .nd (.ins true C' ns) l=>if C'=C∧l.length < 1000 then idx f ns else none
 | _=>none
noncomputable def selI(i:Int):D→Option Nat
 | .nd (.lst true) l=>if 0≤i∧i < l.length then some i.toNat else none
 | _=>none
noncomputable def sAugF(C:Addr)(f:Str)(g:Int→Int→Int)(fo fe:EF):SF:=fun s=>match fo s with
 | .ok (.plc k p) s1=>augGo k p (selF C f) g fe s1
 | .ok _ _=>.no
 | .ex C s1=>.ex C s1
 | .no=>.no
noncomputable def sAugI(g:Int→Int→Int)(fo fi fe:EF):SF:=fun s=>match aCons fo (aCons fi aNil) s with
 | .ok [.plc k p,.val (.at (.int i))] s1=>augGo k p (selI i) g fe s1
 | .ok _ _=>.no
 | .ex C s1=>.ex C s1
 | .no=>.no
section
variable {X:Cx}{R:RC}{ix:List Nat}{hd:List (Nat×Addr)}{H H':Hp}{σ:L2.St}{K:Qd}{ts:Ts}{fr:List T}
end
section
variable {X:Cx}{R:RC}{ix:List Nat}{hd:List (Nat×Addr)}{H H':Hp}{σ:L2.St}{K:Qd}{ts:Ts}{fr:List T}
theorem Cf.fill{p:Addr}{kd kd':NK}{l l' m:List T}{x:List Addr}{o:HO}(C:Cf R ix hd H σ ts (.nd p kd l::(m++fr)))(hm:kd.mut=true)(hm':kd'.mut=true)(ho:NodeOk (upd H p o) p kd' (l'.map T.val))(hl:∀ t∈l',t.ok H)(hown:(T.owns l++T.owns m).Perm (T.owns l'++x))(hro:∀ a∈T.ros l',a∈T.ros l∨a∈T.ros m):Cf R ix hd (upd H p o) σ ts (.nd p kd' l'::fr):=by
 have eo:T.owns (.nd p kd l::(m++fr))=p::(T.owns l++(T.owns m++T.owns fr)):=by rw [T.owns_cons,T.own,hm,T.owns_app];simp
 have er:T.ros (.nd p kd l::(m++fr))=T.ros l++(T.ros m++T.ros fr):=by rw [T.ros_cons,T.ro,hm,T.ros_app];simp
 have eo':T.owns (.nd p kd' l'::fr)=p::(T.owns l'++T.owns fr):=by rw [T.owns_cons,T.own,hm'];simp
 have er':T.ros (.nd p kd' l'::fr)=T.ros l'++T.ros fr:=by rw [T.ros_cons,T.ro,hm'];simp
 have nd:=C.nd
 rw [eo] at nd
 have pm:(ownS ts++p::(T.owns l++(T.owns m++T.owns fr))).Perm ((ownS ts++p::(T.owns l'++T.owns fr))++x):=by
  refine Qw.mpr fun b=>?_
  have:=Qw.mp hown b
  simp only [Jj,List.count_cons] at this ⊢;omega
 have nd2:=Qj.mp (pm.nodup_iff.mp nd)
 have n1:=Qj.mp nd
 have n2:=Ji.mp n1.2.1
 have pS:p∉ownS ts:=fun z=>n1.2.2 p z p Qs rfl
 have pro:∀ a,a∈roS ts∨a∈T.ros l++(T.ros m++T.ros fr)→a≠p:=fun a z e=>by
  have:=(C.sep a (by rw [er];exact z)).2.1
  rw [eo,e] at this
  exact this Qs
 have prd:∀ a,a∈rdS ts→a≠p:=fun a z e=>by
  have:=(C.rd a z).2
  rw [eo,e] at this
  exact this Qs
 have sub:∀ a,a∈p::(T.owns l'++T.owns fr)→a∈p::(T.owns l++(T.owns m++T.owns fr)):=fun a z=>by
  rcases Jb.mp z with rfl | z
  ·exact Qs
  ·refine Qp _ ?_
   rcases Qe.mp z with z | z
   ·have:=hown.mem_iff.mpr (Qi x z)
    simp only [Qe] at this ⊢
    rcases this with z | z <;> simp [z]
   ·simp [z]
 have fok:=C.fok
 have ffr:=(T.oks_app.mp fok.2).2
 refine ⟨fun w t z=>T.keep (C.ok w t z) fun a q=>Z646 ?_,⟨⟨ho,T.oks_iff.mpr fun t ht=>T.keep (hl t ht) fun a q=>Z646 ?_⟩,T.keeps ffr fun a q=>Z646 ?_⟩,?_,fun a z=>?_,fun a z=>?_,fun a z=>?_,C.bg,C.bor,C.ixs,C.sl,C.hdi,C.hdx,C.len,C.hdn⟩
 ·rintro rfl
  rcases q with q | q
  ·cases w with
   | true=>exact pS (Z360.mpr ⟨t,z,q⟩)
   | false=>exact prd a (Z362.mpr ⟨t,z,q⟩) rfl
  ·exact pro a (.inl (Z364.mpr ⟨w,t,z,q⟩)) rfl
 ·rintro rfl
  rcases q with q | q
  ·have:=hown.mem_iff.mpr (Qi x (T.mem_owns.mpr ⟨t,ht,q⟩))
   apply n2.1
   simp only [Qe] at this ⊢
   rcases this with z | z <;> simp [z]
  ·refine pro a (.inr ?_) rfl
   have:=hro a (T.mem_ros.mpr ⟨t,ht,q⟩)
   simp only [Qe]
   rcases this with z | z <;> simp [z]
 ·rintro rfl
  rcases q with q | q
  ·exact n2.1 (by simp [q])
  ·exact pro a (.inr (by simp [q])) rfl
 ·rw [eo'];exact nd2.1
 ·rw [eo']
  rw [er'] at z
  have:a∈roS ts∨a∈T.ros (.nd p kd l::(m++fr)):=by
   rw [er]
   simp only [Qe] at z ⊢
   rcases z with z | z | z
   ·exact .inl z
   ·rcases hro a z with z | z <;> simp [z]
   ·simp [z]
  obtain ⟨s1,s2,s3⟩:=C.sep a this
  rw [eo] at s2
  exact ⟨s1,fun q=>s2 (sub a q),s3⟩
 ·rw [eo']
  obtain ⟨s1,s2⟩:=C.rd a z
  rw [eo] at s2
  exact ⟨s1,fun q=>s2 (sub a q)⟩
 ·rw [eo']
  obtain ⟨g1,g2,g3,g4⟩:=C.g a z
  rw [eo] at g4
  have:a≠p:=by rintro rfl;exact g4 Qs
  rw [Z646 this]
  exact ⟨g1,g2,g3,fun q=>g4 (sub a q)⟩

noncomputable def pairsA:List (EF×EF)→AF
 | []=>aNil
 | (k,v)::r=>aCons k (aCons v (pairsA r))
noncomputable def kvD:List D→Option (List Key×List D)
 | []=>some ([],[])
 | k::v::r=>(match keyD k,kvD r with | some k,some (ks,vs)=>some (k::ks,v::vs) | _,_=>none)
 | [_]=>none
noncomputable def eDict(fs:List (EF×EF)):EF:=fun s=>match pairsA fs s with
 | .ok rs s1=>(match vals rs with
  | some l=>(match kvD l with | some (ks,vs)=>if ks.Nodup∧ks.length≤15 then .ok (.val (.nd (.dic true ks) vs)) s1 else .no | none=>.no)
  | none=>.no)
 | .ex C s1=>.ex C s1
 | .no=>.no
theorem kvD_t:∀ {ch:List T} {ks:List Key} {vs:List D},kvD (T.ers ch)=some (ks,vs)→∃ cv:List T,T.ers cv=vs∧ks.length=cv.length∧(T.owns ch).Perm (T.owns cv)∧(∀ a,a∈T.ros cv→a∈T.ros ch)∧(∀ t∈cv,t∈ch)∧∃ ps:List (V×V),ps=(ks.zip (cv.map T.val)).map (fun kv=>(kV kv.1,kv.2))∧ch.map T.val=ps.flatMap fun p=>[p.1,p.2]
 | [],ks,vs,h=>by cases h;exact ⟨[],rfl,rfl,.refl _,by simp,by simp,[],rfl,rfl⟩
 | [t],ks,vs,h=>by simp [T.ers,kvD] at h
 | k::v::ch,ks,vs,h=>by
  simp only [T.ers,kvD] at h
  cases e1:keyD k.er with
  | none=>simp [e1] at h
  | some key =>
   cases e2:kvD (T.ers ch) with
   | none=>simp [e1,e2] at h
   | some r =>
    obtain ⟨ks',vs'⟩:=r
    simp only [e1,e2,Option.some.injEq,Prod.mk.injEq] at h
    obtain ⟨rfl,rfl⟩:=h
    obtain ⟨cv,c1,c2,c3,c4,c5,ps,c6,c7⟩:=kvD_t e2
    have hk:=Z271 e1
    subst hk
    refine ⟨v::cv,by rw [T.ers,c1],by simp [c2],?_,fun a z=>?_,fun t z=>?_,(kV key,v.val)::ps,by rw [c6];rfl,by rw [Ql,Ql,c7];rfl⟩
    ·rw [T.owns_cons,T.owns_cons,T.owns_cons,T.own,Je]
     exact List.Perm.append_left _ c3
    ·rw [T.ros_cons] at z
     rw [T.ros_cons,T.ros_cons]
     simp only [Qe] at z ⊢
     rcases z with z | z
     ·exact .inr (.inl z)
     ·exact .inr (.inr (c4 a z))
    ·rcases Jb.mp z with rfl | z
     ·simp
     ·simp [c5 t z]
theorem Z447:∀ {fs:List (EF×EF)} {σ:L2.St} {H:Hp} {Q:List V→Hp→Prop},lA R ix (pairsA fs) σ H Q→tPairs (fs.map fun p=>(lE R ix p.1,lE R ix p.2)) σ H fun ps H1=>Q (ps.flatMap fun p=>[p.1,p.2]) H1
 | [],σ,H,Q,h=>Z295 σ H Q h
 | (k,v)::r,σ,H,Q,h=>by
  have h1:=Z292 σ H Q h
  refine Z299 (fun x H1 q=>?_) h1
  have h2:=Z292 σ H1 _ q
  refine Z299 (fun y H2 q=>?_) h2
  exact Z447 (fs:=r) q
theorem Z608:∀ {trs:List (TE×TE)} {σ:L2.St} {H:Hp} {Q Q':List (V×V)→Hp→Prop},(∀ p∈trs,∀ σ H (Q Q':VK),(∀ v H,Q v H→Q' v H)→(p.1 σ H Q→p.1 σ H Q')∧(p.2 σ H Q→p.2 σ H Q'))→(∀ ps H,Q ps H→Q' ps H)→tPairs trs σ H Q→tPairs trs σ H Q'
 | [],_,_,_,_,_,m,h=>m _ _ h
 | (tk,tv)::r,σ,H,Q,Q',hm,m,h=>((hm (tk,tv) Qs σ H _ _ fun x H1 q=>((hm (tk,tv) Qs σ H1 _ _ fun y H2 q=>Z608 (fun p hp=>hm p (Qp _ hp)) (fun ps H3 z=>m _ _ z) q).2 q)).1 h)
theorem Z366:∀ {ks:List Key} {vs:List V} {acc:List (Key×V)},(acc.map (·.1)++ks).Nodup→ks.length=vs.length→mergeK acc (ks.zip vs)=acc++ks.zip vs
 | [],_,acc,_,_=>by simp [mergeK]
 | k::ks,[],acc,_,h=>by simp at h
 | k::ks,v::vs,acc,hn,h=>by
  have hnew:valV acc k=none:=by
   have hk:k∉acc.map (·.1):=fun z=>(Qj.mp hn).2.2 k z k Qs rfl
   cases e:valV acc k with
   | none=>rfl
   | some u=>exact absurd (Z674 e) hk
  show mergeK (putK acc k v) (ks.zip vs)=_
  rw [Z496 v hnew,Z366 (by simpa using hn) (by simpa using h)]
  simp
theorem Z511{pos:Pos}{keys:List (Option Expr)}{values:List Expr}{fs:List (EF×EF)}(h:PPs X pos keys values (fs.map fun p=>(lE R ix p.1,lE R ix p.2)))(hall:keys.all (·.isSome)=true)(hl:keys.length=values.length)(h0:keys≠[])(h15:keys.length≤15):PE X (.Dict keys values pos) (lE R ix (eDict fs)) :=
 peM (Z458 h hall hl h0 h15) fun σ H Q q=>by
  obtain ⟨hd,ts,fr,C,q⟩:=q
  intro p hp
  have C1:Cf R ix hd (upd H p (.dK [])) σ ts (T.nd p (.dic true []) []::fr):=Cf.wrap (ch:=[]) C hp ⟨rfl,Wo,Z647⟩
  have key:lA R ix (pairsA fs) σ (upd H p (.dK [])) fun vs H2=>∀ ps:List (V×V),(ps.flatMap fun p=>[p.1,p.2])=vs→H2 p=some (.dK [])∧∃ kvs:List (Key×V),ps=kvs.map (fun kv=>(kV kv.1,kv.2))∧kvs.length≤15∧Q (.ref p) (upd H2 p (.dK (mergeK [] kvs))):=by
   refine ⟨hd,ts,_,C1,?_⟩
   unfold eDict at q
   cases ef:pairsA fs (ts.map TL.er) with
   | no=>rw [ef] at q;exact q
   | ex E s1=>rw [ef] at q;intro H1 ts1 e1 C2;exact q H1 ts1 e1 C2.drop
   | ok rs s1 =>
    rw [ef] at q
    intro H2 ts1 tvs vs e1 e2 hv C2 ps hps
    subst e1 e2
    dsimp only at q
    cases ev:vals (tvs.map TV.er) with
    | none=>rw [ev] at q;exact q.elim
    | some l =>
     rw [ev] at q
     obtain ⟨ch,c1,c2,c3⟩:=Z680 ev hv
     subst c2
     rw [c1] at C2
     dsimp only at q
     cases ek:kvD (T.ers ch) with
     | none=>rw [ek] at q;exact q.elim
     | some r =>
      obtain ⟨ks,ds⟩:=r
      rw [ek] at q
      dsimp only at q
      by_cases hz:ks.Nodup∧ks.length≤15
      case neg=>rw [if_neg hz] at q;exact q.elim
      rw [if_pos hz] at q
      obtain ⟨cv,d1,d2,d3,d4,d5,ps',d6,d7⟩:=kvD_t ek
      subst d1
      have hps':ps=ps':=by
       have:(ps.flatMap fun p=>[p.1,p.2])=ps'.flatMap fun p=>[p.1,p.2]:=by rw [hps,← c3,d7]
       clear hps d7 d6
       induction ps generalizing ps' with
       | nil=>cases ps' with
        | nil=>rfl
        | cons=>simp at this
       | cons x r ih=>cases ps' with
        | nil=>simp at this
        | cons y r' =>
         simp only [Ju,Jh,Je,Wk.injEq] at this
         rw [ih r' this.2.2,show x=y from Prod.ext this.1 this.2.1]
      subst hps'
      have okd:=(T.oks_app.mp C2.fok).2.1
      have hpH:H2 p=some (.dK []):=okd.1.2.2
      refine ⟨hpH,ks.zip (cv.map T.val),d6,by simp [d2];omega,?_⟩
      have hm:=Z366 (acc:=[]) (ks:=ks) (vs:=cv.map T.val) (by simpa using hz.1) (by simpa using d2)
      rw [hm,Je]
      have okc:=(T.oks_app.mp C2.fok).1
      refine q _ ts1 (.val (.nd p (.dic true ks) cv)) (.ref p) rfl rfl rfl (Cf.fill (m:=ch) (x:=[]) (Cf.swap C2) rfl rfl ⟨by simpa using d2,hz.1,Z647⟩ (fun t ht=>T.oks_iff.mp okc t (d5 t ht)) ?_ fun a z=>.inr (d4 a z))
      simpa [T.owns] using d3
  have kk:=Z447 key
  refine Z608 (fun p hp σ H Q Q' m=>?_) (fun ps H2 z=>z ps rfl) kk
  obtain ⟨x,_,rfl⟩:=Qk.mp hp
  exact ⟨fun h=>Z299 m h,fun h=>Z299 m h⟩
end
section
variable {X:Cx}{R:RC}{ix:List Nat}{hd:List (Nat×Addr)}{H H':Hp}{σ:L2.St}{K:Qd}{ts:Ts}{fr:List T}

noncomputable def eAppT(f:AF):EF:=fun s=>match f s with
 | .ok [.val (.nd (.lst true) l),.val _] s1=>if l.length < sizeLine then .ok (.val (.at .non)) s1 else .no
 | .ok _ _=>.no
 | .ex C s1=>.ex C s1
 | .no=>.no

noncomputable def killN(j:Nat)(s:Sd):Sd:=(s.map (unrootD j)).set j .non
theorem Cf.killN{i j:Nat}(C:Cf R ix hd H σ ts fr)(hix:ix[i]?=some j):Cf R ix hd H σ ((ts.map (unrootT j)).set j .non) fr:=by
 have hj:j < ts.length:=C.ixs j (Qg hix)
 obtain ⟨y0,hy0⟩:∃ y0,ts[j]?=some y0:=⟨ts[j],Qh hj⟩
 have hy0':(ts.map (unrootT j))[j]?=some (unrootT j y0):=by rw [Qa,hy0];rfl
 obtain ⟨x1,z1,o1,o2⟩:=Z200 (f:=TL.own1) hy0'
 obtain ⟨x2,z2,r1,r2⟩:=Z200 (f:=TL.ro1) hy0'
 obtain ⟨x3,z3,d1,d2⟩:=Z200 (f:=TL.rd1) hy0'
 rw [Z644 (by intros;rfl)] at o1 r1 d1
 have fO:ownS ts=x1++((unrootT j y0).own1++z1):=o1
 have fR:roS ts=x2++((unrootT j y0).ro1++z2):=r1
 have fD:rdS ts=x3++((unrootT j y0).rd1++z3):=d1
 have gO:ownS ((ts.map (unrootT j)).set j .non)=x1++z1:=by unfold ownS;rw [o2];rfl
 have gR:roS ((ts.map (unrootT j)).set j .non)=x2++z2:=by unfold roS;rw [r2];rfl
 have gD:rdS ((ts.map (unrootT j)).set j .non)=x3++z3:=by unfold rdS;rw [d2];rfl
 have s1:∀ a,a∈x1++z1→a∈ownS ts:=fun a z=>by rw [fO];simp only [Qe] at z ⊢;rcases z with z | z <;> simp [z]
 have s2:∀ a,a∈x2++z2→a∈roS ts:=fun a z=>by rw [fR];simp only [Qe] at z ⊢;rcases z with z | z <;> simp [z]
 have s3:∀ a,a∈x3++z3→a∈rdS ts:=fun a z=>by rw [fD];simp only [Qe] at z ⊢;rcases z with z | z <;> simp [z]
 have slot:∀ (j':Nat) (s:TL),((ts.map (unrootT j)).set j .non)[j']?=some s→(j'=j∧s=.non)∨(j'≠j∧∃ s0,ts[j']?=some s0∧s=unrootT j s0):=by
  intro j' s hs
  rw [Qm] at hs
  by_cases h:j=j'
  ·subst h
   rw [if_pos rfl,if_pos (by simpa using hj)] at hs
   cases hs;exact .inl ⟨rfl,rfl⟩
  ·rw [if_neg h,Qa] at hs
   cases e:ts[j']? with
   | none=>rw [e] at hs;cases hs
   | some s0=>rw [e] at hs;cases hs;exact .inr ⟨Ne.symm h,s0,rfl,rfl⟩
 have vv:∀ (j':Nat) (s:TL) (v:V),((ts.map (unrootT j)).set j .non)[j']?=some s→s.v=some v→∃ s0,ts[j']?=some s0∧s0.v=some v:=by
  intro j' s v hs hv
  rcases slot j' s hs with ⟨rfl,rfl⟩ | ⟨_,s0,h0,rfl⟩
  ·cases hv
  ·refine ⟨s0,h0,?_⟩
   rcases Z642 (j:=j) s0 with ⟨e',_⟩ | ⟨e',_⟩
   ·rwa [e'] at hv
   ·rw [e'] at hv;cases hv
 have lenS:((ts.map (unrootT j)).set j TL.non).length=ts.length:=by simp
 refine ⟨fun w u hu=>?_,C.fok,?_,fun b z=>?_,fun b z=>?_,fun b z=>?_,C.bg,fun j' k q b hj'=>?_,fun j' hj'=>by rw [lenS];exact C.ixs j' hj',fun i' j' s u h1 h2 h3=>?_,fun j' b hb=>by rw [lenS];exact C.hdi j' b hb,C.hdx,C.len,fun j' b hb s u h2 h3=>?_⟩
 ·obtain ⟨j',hj'⟩:=Qz.mp hu
  rcases slot j' _ hj' with ⟨rfl,e⟩ | ⟨_,s0,h0,e⟩
  ·cases e
  ·rcases Z642 (j:=j) s0 with ⟨e',_⟩ | ⟨e',_⟩
   ·rw [e'] at e;subst e;exact C.ok w u (Qg h0)
   ·rw [e'] at e;cases e
 ·rw [gO]
  have nd:=C.nd
  rw [fO] at nd
  have pm:((x1++((unrootT j y0).own1++z1))++T.owns fr).Perm ((x1++z1++T.owns fr)++(unrootT j y0).own1):=by
   refine Qw.mpr fun b=>?_
   simp only [Jj];omega
  exact (Qj.mp (pm.nodup_iff.mp nd)).1
 ·rw [gO]
  obtain ⟨q1,q2,q3⟩:=C.sep b (z.imp (fun z=>s2 b (by rwa [gR] at z)) id)
  exact ⟨fun q=>q1 (s1 b q),q2,q3⟩
 ·rw [gO]
  rw [gD] at z
  obtain ⟨q1,q2⟩:=C.rd b (s3 b z)
  exact ⟨fun q=>q1 (s1 b q),q2⟩
 ·rw [gO]
  obtain ⟨g1,g2,g3,g4⟩:=C.g b z
  exact ⟨g1,g2,fun q=>g3 (s1 b q),g4⟩
 ·rcases slot j' _ hj' with ⟨rfl,e⟩ | ⟨_,s0,h0,e⟩
  ·cases e
  ·rcases Z642 (j:=j) s0 with ⟨e',hne⟩ | ⟨e',_⟩
   ·rw [e'] at e
    subst e
    obtain ⟨w,u,s,q1,q2,q3⟩:=C.bor j' k q b h0
    have hk:k≠j:=fun z=>hne q b (by rw [z])
    exact ⟨w,u,s,by rw [Qm,if_neg (Ne.symm hk),Qa,q1];rfl,q2,q3⟩
   ·rw [e'] at e;cases e
 ·obtain ⟨s0,q1,q2⟩:=vv j' s u h2 h3
  exact C.sl i' j' s0 u h1 q1 q2
 ·obtain ⟨s0,q1,q2⟩:=vv j' s u h2 h3
  exact C.hdn j' b hb s0 u q1 q2
noncomputable def kills(js:List Nat)(s:Sd):Sd:=js.foldl (fun s j=>killN j s) s
theorem Cf.kills{js:List Nat}:∀ {ts:Ts},(∀ j∈js,j∈ix)→Cf R ix hd H σ ts fr→∃ ts',ts'.map TL.er=RM.kills js (ts.map TL.er)∧Cf R ix hd H σ ts' fr:=by
 induction js with
 | nil=>intro ts _ C;exact ⟨ts,rfl,C⟩
 | cons j js ih =>
  intro ts h C
  obtain ⟨i,hi⟩:=Qz.mp (h j Qs)
  obtain ⟨ts',e,C'⟩:=ih (fun x z=>h x (Qp _ z)) (C.killN hi)
  refine ⟨ts',?_,C'⟩
  rw [e]
  show RM.kills js _=RM.kills js (RM.killN j (ts.map TL.er))
  congr 1
  unfold RM.killN
  rw [Wa,Jk,Jk]
  exact congrArg (fun l=>List.set l j DL.non) (Wf fun s _=>Z643 s)
noncomputable def sKill(js:List Nat)(f:SF):SF:=fun s=>match f s with
 | .nx s1=>.nx (kills js s1)
 | .ct s1=>.ct (kills js s1)
 | .bk s1=>.bk (kills js s1)
 | r=>r
theorem Z544{js:List Nat}{sts:List Stmt}{f:SF}(hj:∀ j∈js,j∈ix)(h:PSs X sts (lS R ix f)):PSs X sts (lS R ix (sKill js f)):=pssM h fun D σ H q=>by
 obtain ⟨hd,ts,fr,C,q⟩:=q
 refine ⟨hd,ts,fr,C,?_⟩
 unfold sKill at q
 cases ef:f (ts.map TL.er) with
 | nx s=>rw [ef] at q;intro H' σ' ts' e C';subst e;obtain ⟨t2,e2,C2⟩:=C'.kills hj;exact q H' σ' t2 e2 C2
 | ct s=>rw [ef] at q;intro H' σ' ts' e C';subst e;obtain ⟨t2,e2,C2⟩:=C'.kills hj;exact q H' σ' t2 e2 C2
 | bk s=>rw [ef] at q;intro H' σ' ts' e C';subst e;obtain ⟨t2,e2,C2⟩:=C'.kills hj;exact q H' σ' t2 e2 C2
 | rt r s=>rw [ef] at q;exact q
 | ex E s=>rw [ef] at q;exact q
 | no=>rw [ef] at q;exact q

noncomputable def Scr(K:Qd)(k:NK):Prop:=k=.lst false∨k=.kst K
noncomputable def scD(k:NK)(ns:List Int):D:=.nd k (ns.map fun n=>.at (.int n))
noncomputable def spLaw(K:Qd):Sp:=fun vs H Q _=>∃ (a:Addr) (ns:List Int),vs=[.ref a]∧SqL K H a (ns.map V.int)∧ns.length≤63∧∀ H',Q (.bl true) H'
theorem Z598{a:Addr}{ns:List Int}{E:XK}(hl:ns.length≤63)(hS:SqL K H a (ns.map V.int)):spLaw K [.ref a] H (fun v _=>v=.bl true) E:=⟨a,ns,rfl,hS,hl,fun _=>rfl⟩
theorem Z318{ad:Str→Addr}{fn:Fn}(h:∀ k ns,Scr K k→ns.length≤63→∃ ds,fn [scD k ns]=.ok (.val (.at (.bl true))) ds){vs:List V}{Q:VK}{E:XK}(q:spLaw K vs H Q E):spR ad [false] fn vs H Q E:=by
 obtain ⟨a,ns,rfl,hS,hl,q⟩:=q
 have main:∀ k,Scr K k→NodeOk H a k (ns.map V.int)→spR ad [false] fn [.ref a] H Q E:=by
  intro k hk hn
  obtain ⟨ds,e⟩:=h k ns hk hl
  have vm:(ns.map fun n=>T.at (.int n)).map T.val=ns.map V.int:=by rw [Jk];rfl
  have em:T.ers (ns.map fun n=>T.at (.int n))=ns.map fun n=>D.at (.int n):=by rw [T.ers_eq,Jk];rfl
  refine ⟨[.nd a k (ns.map fun n=>.at (.int n))],fun _=>False,rfl,⟨rfl,⟨⟨by rw [vm];exact hn,T.oks_iff.mpr fun t ht=>?_⟩,trivial⟩,Wo,fun b _=>⟨by simp [selM,T.owns],fun z=>z⟩,fun b _=>by simp [selM,T.owns],fun b z=>z.elim⟩,?_⟩
  ·obtain ⟨n,_,rfl⟩:=Qk.mp ht;trivial
  ·have:T.ers [T.nd a k (ns.map fun n=>.at (.int n))]=[scD k ns]:=by simp only [T.ers,T.er,em,scD]
   rw [this,e]
   intro H' l' rt v _ e2 hr _
   cases rt with
   | arg _ _ _=>cases e2
   | val t =>
    simp only [RT.er,RV.val.injEq] at e2
    have:=er_at e2 rfl
    subst this
    cases hr
    exact q H'
 rcases hS with hS | hS
 ·exact main (.lst false) (.inl rfl) hS
 ·exact main (.kst K) (.inr rfl) hS
theorem DefX.imp{P:Program}{w:World}{mg:Str→Option Value}{base:Heap}{x:Str}{k:Nat}{ps:List Str}{sp sp':Sp}(D:DefX P w K mg base x k ps sp)(h:∀ vs H Q E,sp' vs H Q E→sp vs H Q E):DefX P w K mg base x k ps sp':=by
 obtain ⟨f,fd,G,rest⟩:=D.ex
 exact ⟨f,fd,G.imp h,rest⟩
end
end RM

namespace RM
open PySem PySem.Spec PyProof.Rows L2
mutual
noncomputable def toDt:D→Option Dt
 | .at .non=>some .non
 | .at (.bl b)=>some (.bl b)
 | .at (.int i)=>some (.int i)
 | .at (.str x)=>some (.str x)
 | .at _=>none
 | .nd (.lst true) l=>if l.length < sizeLine then (match toDts l with | some r=>some (.lst r) | none=>none) else none
 | .nd .tup l=>if l.length < sizeLine then (match toDts l with | some r=>some (.tup r) | none=>none) else none
 | .nd _ _=>none
noncomputable def toDts:List D→Option (List Dt)
 | []=>some []
 | d::l=>match toDt d,toDts l with | some x,some r=>some (x::r) | _,_=>none
end
mutual
theorem Z520{H:Hp}:∀ {t:T} {d:Dt},t.ok H→toDt t.er=some d→RelD H d t.val
 | .at v,d,_,h=>by
  cases v <;> simp only [T.er,cl,toDt,Option.some.injEq,reduceCtorEq] at h <;> (subst h;rfl)
 | .nd a k l,d,ok,h=>by
  cases k with
  | lst m =>
   cases m with
   | false=>simp [T.er,toDt] at h
   | true =>
    simp only [T.er,toDt] at h
    split at h
    case isFalse=>cases h
    case isTrue hz =>
     cases e:toDts (T.ers l) with
     | none=>rw [e] at h;cases h
     | some r =>
      rw [e] at h
      cases h
      refine ⟨a,l.map T.val,rfl,ok.1,?_,Z521 ok.2 e⟩
      rw [T.ers_eq,Qn] at hz
      simpa using hz
  | tup =>
   simp only [T.er,toDt] at h
   split at h
   case isFalse=>cases h
   case isTrue hz =>
    cases e:toDts (T.ers l) with
    | none=>rw [e] at h;cases h
    | some r =>
     rw [e] at h
     cases h
     refine ⟨a,l.map T.val,rfl,ok.1,?_,Z521 ok.2 e⟩
     rw [T.ers_eq,Qn] at hz
     simpa using hz
  | _=>simp [T.er,toDt] at h
theorem Z521{H:Hp}:∀ {l:List T} {r:List Dt},T.oks H l→toDts (T.ers l)=some r→RelDs H r (l.map T.val)
 | [],r,_,h=>by simp only [T.ers,toDts,Option.some.injEq] at h;subst h;trivial
 | t::l,r,ok,h=>by
  simp only [T.ers,toDts] at h
  cases e1:toDt t.er with
  | none=>simp [e1] at h
  | some x =>
   cases e2:toDts (T.ers l) with
   | none=>simp [e1,e2] at h
   | some r' =>
    simp only [e1,e2,Option.some.injEq] at h
    subst h
    exact ⟨Z520 ok.1 e1,Z521 ok.2 e2⟩
end
noncomputable def sameF(n:Nat):Fn
 | [a,b]=>match toDt a,toDt b with | some d,some d'=>if d'.dep≤n then .ok (.val (.at (.bl (Dt.eq d d')))) [a,b] else .no | _,_=>.no
 | _=>.no
theorem Z575{ad:Str→Addr}{n:Nat}{vs:List V}{H:Hp}{Q:VK}{E:XK}(h:spR ad [false,false] (sameF n) vs H Q E):∃ (x y:V) (d d':Dt),vs=[x,y]∧RelD H d x∧RelD H d' y∧d'.dep≤n∧∀ H',Same H H'→Q (.bl (Dt.eq d d')) H':=by
 obtain ⟨l,B,rfl,en,h⟩:=h
 have hl:l.length=2:=en.len.symm
 match l,hl,en,h with
 | [t,u],_,en,h =>
  simp only [T.ers,sameF] at h
  cases e1:toDt t.er with
  | none=>simp only [e1] at h
  | some d =>
   cases e2:toDt u.er with
   | none=>simp only [e1,e2] at h
   | some d' =>
    simp only [e1,e2] at h
    by_cases hd:d'.dep≤n
    case neg=>rw [if_neg hd] at h;exact h.elim
    rw [if_pos hd] at h
    refine ⟨t.val,u.val,d,d',rfl,Z520 en.ok.1 e1,Z520 en.ok.2.1 e2,hd,fun H' sm=>?_⟩
    refine h H' [t,u] (.val (.at (.bl (Dt.eq d d')))) _ rfl rfl rfl ⟨rfl,rfl,trivial,⟨trivial,trivial⟩,by simp [selM,T.owns,RT.tr,T.own],fun a z=>?_,fun a z=>?_,fun a hn _=>?_⟩
    ·simp [selM,T.owns,RT.tr,T.own] at z
    ·simp [selM,T.ros,RT.tr,T.ro] at z
    ·cases e:H a with
     | none=>exact absurd e hn
     | some o=>exact sm a o e
noncomputable def sNo:SF:=fun _=>.no
theorem Z546{X:Cx}{R:RC}{ix:List Nat}{sts:List Stmt}:PSs X sts (lS R ix sNo):=fun pins s σ H D I h=>by
 obtain ⟨hd,ts,fr,C,h⟩:=h
 exact h.elim
noncomputable def RPs(R:RC)(ix:List Nat)(X:Cx)(pos:Pos)(keys:List (Option Expr))(values:List Expr)(fs:List (EF×EF)):Prop:=PPs X pos keys values (fs.map fun p=>(lE R ix p.1,lE R ix p.2))
section
variable {R:RC}{ix:List Nat}{X:Cx}{pos:Pos}
theorem Z531:RPs R ix X pos [] [] []:=Z480
theorem Z530{k v:Expr}{ks:List (Option Expr)}{vs:List Expr}{fk fv:EF}{fs:List (EF×EF)}(hk:PE X k (lE R ix fk))(hv:PE X v (lE R ix fv))(hr:RPs R ix X pos ks vs fs):RPs R ix X pos (some k::ks) (v::vs) ((fk,fv)::fs):=Z479 hk hv hr
theorem Z512{k:Option Expr}{keys:List (Option Expr)}{values:List Expr}{fs:List (EF×EF)}(h:RPs R ix X pos (k::keys) values fs)(hall:(k::keys).all (·.isSome)=true:=by rfl)(hl:(k::keys).length=values.length:=by rfl)(h15:(k::keys).length≤15:=by decide):PE X (.Dict (k::keys) values pos) (lE R ix (eDict fs)):=Z511 h hall hl (by simp) h15
end
end RM

namespace RM
open PySem PySem.Spec PyProof.Rows L2
section
variable {s:Sd}{f g:SF}{e e':EF}{c d:BF}{a b:AF}{v:V}{j k:Nat}{p:List Nat}
theorem Z164:sSeq f g s=(match f s with | .nx s1=>g s1 | r=>r):=id rfl
theorem ev_if:sIf c f g s=(match c s with | .ok true s1=>f s1 | .ok false s1=>g s1 | .ex C s1=>.ex C s1 | .no=>.no):=id rfl
theorem ev_e:sE e s=(match e s with | .ok _ s1=>.nx s1 | .ex C s1=>.ex C s1 | .no=>.no):=id rfl
theorem Z160:sRet e s=(match e s with | .ok r s1=>.rt r s1 | .ex C s1=>.ex C s1 | .no=>.no):=id rfl
theorem Z161:sRetN s=.rt (.val (.at .non)) s:=id rfl
theorem Z158:sPass s=.nx s:=id rfl
theorem Z124:sBrk s=.bk s:=id rfl
theorem ev_ct:sCt s=.ct s:=id rfl
theorem Z120{w:Sd→DV→Option Sd}:sAsg e w s=(match e s with | .ok r s1=>(match w s1 r with | some s2=>.nx s2 | none=>.no) | .ex C s1=>.ex C s1 | .no=>.no):=id rfl
theorem Z134:eIf c e e' s=(match c s with | .ok true s1=>e s1 | .ok false s1=>e' s1 | .ex C s1=>.ex C s1 | .no=>.no):=id rfl
theorem ev_v:bV e s=(match e s with | .ok (.val (.at (.bl b))) s1=>.ok b s1 | .ok _ _=>.no | .ex C s1=>.ex C s1 | .no=>.no):=id rfl
theorem Z157:bNot c s=(match c s with | .ok b s1=>.ok (!b) s1 | r=>r):=id rfl
theorem Z118:bAnd c d s=(match c s with | .ok true s1=>d s1 | r=>r):=id rfl
theorem ev_or:bOr c d s=(match c s with | .ok false s1=>d s1 | r=>r):=id rfl
theorem ev_C:eC v s=.ok (.val (.at v)) s:=id rfl
theorem Z170:eVar j s=(match s[j]? with
 | some (.own _ d)=>.ok (mkV j [] d) s
 | some (.bor k p)=>(match dref s (.plc k p) with | some d=>.ok (mkV k p d) s | none=>.no)
 | _=>.no):=id rfl
theorem Z156:aNil s=.ok [] s:=id rfl
theorem Z130:aCons e a s=(match e s with
 | .ok (.val d) s1=>(match a s1 with | .ok rs s2=>.ok (.val d::rs) s2 | .ex C s2=>.ex C s2 | .no=>.no)
 | .ok (.plc k p) s1=>(match a (s1++[.bor k p]) with
  | .ok rs s2=>(match unh s1.length k p s2 with | some s3=>.ok (.plc k p::rs) s3 | none=>.no)
  | .ex C s2=>(match unx s1.length s2 with | some s3=>.ex C s3 | none=>.no) | .no=>.no)
 | .ex C s1=>.ex C s1
 | .no=>.no):=id rfl
theorem ev_nw{h:List D→Option D}:eNw h a s=(match a s with
 | .ok rs s1=>(match drefs s1 rs with | some ds=>(match h ds with | some d=>.ok (.val d) s1 | none=>.no) | none=>.no)
 | .ex C s1=>.ex C s1
 | .no=>.no):=id rfl
theorem ev_ch{h:List D→Option Sel}:eCh h a s=(match a s with
 | .ok rs s1=>(match drefs s1 rs with | some ds=>(match h ds with | some c=>pick rs ds s1 c | none=>.no) | none=>.no)
 | .ex C s1=>.ex C s1
 | .no=>.no):=id rfl
theorem Z132{k:NK}:eDisp k a s=(match a s with
 | .ok rs s1=>(match vals rs with | some l=>if l.length≤sizeLine then .ok (.val (.nd k l)) s1 else .no | none=>.no)
 | .ex C s1=>.ex C s1
 | .no=>.no):=id rfl
theorem Z131{fs:List (EF×EF)}:eDict fs s=(match pairsA fs s with
 | .ok rs s1=>(match vals rs with
  | some l=>(match kvD l with | some (ks,vs)=>if ks.Nodup∧ks.length≤15 then .ok (.val (.nd (.dic true ks) vs)) s1 else .no | none=>.no)
  | none=>.no)
 | .ex C s1=>.ex C s1
 | .no=>.no):=id rfl
theorem ev_mu{ri:Nat}{h:List D→Option Mu}:eMu ri h a s=(match a s with
 | .ok rs s1=>(match drefs s1 rs,rs[ri]? with
  | some ds,some (.plc k p)=>(match s1[k]?,ds[ri]?,h ds with
   | some (.own true _),some (.nd kd l),some (.add kd' m)=>if kd.mut then (match rs[m]? with | some (.val x)=>.ok (.val (.at .non)) (wr s1 k p (.nd kd' (l++[x])) fun _=>true) | _=>.no) else .no
   | some (.own true _),some (.nd kd l),some (.set j m)=>if kd.mut∧j < l.length then (match rs[m]? with | some (.val x)=>.ok (.val (.at .non)) (wr s1 k p (.nd kd (l.set j x)) fun i=>i != j) | _=>.no) else .no
   | _,_,_=>.no)
  | _,_=>.no)
 | .ex C s1=>.ex C s1
 | .no=>.no):=id rfl
theorem Z119:eAppT a s=(match a s with
 | .ok [.val (.nd (.lst true) l),.val _] s1=>if l.length < sizeLine then .ok (.val (.at .non)) s1 else .no
 | .ok _ _=>.no
 | .ex C s1=>.ex C s1
 | .no=>.no):=id rfl
theorem Z144{chk:D→Bool}:eGuard chk e s=(match e s with
 | .ok r s1=>(match dref s1 r with | some d=>if chk d then .ok r s1 else .no | none=>.no)
 | .ex C s1=>.ex C s1
 | .no=>.no):=id rfl
theorem Z125{ms:List Bool}{fn:Fn}:eCall ms fn a s=(match a s with
 | .ok rs s1=>(match takes rs ms s1 with
  | some (sh,l)=>(match fills sh rs l with
   | some ds=>(match fn ds with
    | .ok rv ds'=>retV rs ms (gives rs ms ds' sh) rv
    | .ex C ds'=>.ex C (gives rs ms ds' sh)
    | .no=>.no)
   | none=>.no)
  | none=>.no)
 | .ex C s1=>.ex C s1
 | .no=>.no):=id rfl
theorem ev_mk{C:Addr}{ms:List Bool}{fn:Fn}:eMk C ms fn a s=(match a s with
 | .ok rs s1=>(match takes rs ms s1 with
  | some (sh,l)=>(match fills sh rs l with
   | some ds=>(match fn (.nd (.ins true C []) []::ds) with
    | .ok (.val (.at .non)) (d0::ds')=>.ok (.val d0) (gives rs ms ds' sh)
    | _=>.no)
   | none=>.no)
  | none=>.no)
 | .ex C s1=>.ex C s1
 | .no=>.no):=id rfl
theorem Z121{C:Addr}{x:Str}{o:Int→Int→Int}:sAugF C x o e e' s=(match e s with
 | .ok (.plc k p) s1=>augGo k p (selF C x) o e' s1
 | .ok _ _=>.no
 | .ex C s1=>.ex C s1
 | .no=>.no):=id rfl
theorem Z122{o:Int→Int→Int}{ei:EF}:sAugI o e ei e' s=(match aCons e (aCons ei aNil) s with
 | .ok [.plc k p,.val (.at (.int i))] s1=>augGo k p (selI i) o e' s1
 | .ok _ _=>.no
 | .ex C s1=>.ex C s1
 | .no=>.no):=id rfl
theorem Z153{js:List Nat}:sKill js f s=(match f s with
 | .nx s1=>.nx (kills js s1)
 | .ct s1=>.ct (kills js s1)
 | .bk s1=>.bk (kills js s1)
 | r=>r):=id rfl
theorem Z141{w:Sd→DV→Option Sd}:sForR a w f s=(match a s with
 | .ok [.val (.at (.int j))] s1=>if -(2 ^ 62)≤j∧j < 2 ^ 62 then loopG (itR 0 j.toNat) w f (j.toNat + 1) 0 s1 else .no
 | .ok [.val (.at (.int i)),.val (.at (.int j))] s1=>if -(2 ^ 62)≤i∧i < 2 ^ 62∧-(2 ^ 62)≤j∧j < 2 ^ 62 then loopG (itR i (j - i).toNat) w f ((j - i).toNat + 1) 0 s1 else .no
 | .ok _ _=>.no
 | .ex C s1=>.ex C s1
 | .no=>.no):=id rfl
theorem Z140{w:Sd→DV→Option Sd}:sForL e w f s=(match e s with
 | .ok (.plc k p) s1=>(match seqOf (dref s1 (.plc k p)) with
  | some (t,m)=>fin s1.length (loopG (itP t s1.length k p) w f (m + 1) 0 (s1++[.bor k p]))
  | none=>.no)
 | .ok (.val d) s1=>(match seqOf (some d) with
  | some (t,m)=>fin s1.length (loopG (itP t s1.length s1.length []) w f (m + 1) 0 (s1++[.own true d]))
  | none=>.no)
 | .ex C s1=>.ex C s1
 | .no=>.no):=id rfl
theorem Z169{exm:Str→Str→Option Bool}{hs:List (Str×SF)}:sTry exm f hs s=(match f s with | .ex C s1=>tryH exm hs C s1 | r=>r):=id rfl
theorem Z159{C:Str}:sRaise C a s=(match a s with
 | .ok rs s1=>if rs.length≤1000 then .ex C s1 else .no
 | .ex C' s1=>.ex C' s1
 | .no=>.no):=id rfl
theorem Z162{n:Nat}{ms:List Bool}{ds:List D}:runDef n ms f ds=(match f (ini n ms ds) with
 | .nx s=>ends n ms ds (.val (.at .non)) s
 | .rt r s=>ends n ms ds r s
 | .ex C s=>(match outs s n ms ds with | some ds'=>.ex C ds' | none=>.no)
 | _=>.no):=id rfl
end
theorem Z270{k:Nat}{p:List Nat}{kp:Nat→Bool}{w:Bool}{d:D}:killD k p kp (.own w d)=.own w d:=rfl
theorem Z269{k:Nat}{p:List Nat}{kp:Nat→Bool}:killD k p kp .non=.non:=rfl
theorem Z268{k:Nat}{p:List Nat}{kp:Nat→Bool}{k':Nat}{q:List Nat}:killD k p kp (.bor k' q)=if decide (k'=k) && (match RM.sub p q with | some i=>!kp i | none=>false) then .non else .bor k' q:=rfl
theorem Z650{j:Nat}{w:Bool}{d:D}:unrootD j (.own w d)=.own w d:=rfl
theorem Z649{j:Nat}:unrootD j .non=.non:=rfl
theorem Z648{j k:Nat}{q:List Nat}:unrootD j (.bor k q)=if k=j then .non else .bor k q:=rfl
theorem Z606:RM.sub [] []=none:=rfl
theorem Z605{i:Nat}{q:List Nat}:RM.sub [] (i::q)=some i:=rfl
theorem sub_cn{i:Nat}{q:List Nat}:RM.sub (i::q) []=none:=rfl
theorem Z604{x y:Nat}{p q:List Nat}:RM.sub (x::p) (y::q)=if x=y then RM.sub p q else none:=rfl
theorem Z347{it:Nat→Sd→Option (Option DV)}{b:Sd→DV→Option Sd}{body:SF}{P:Nat→Sd→Prop}{n:Nat}
  (hs:∀ i s,i < n→P i s→∃ r s1 s2,it i s=some (some r)∧b s r=some s1∧(body s1=.nx s2∨body s1=.ct s2)∧P (i + 1) s2) (he:∀ s,P n s→it n s=some none) :
  ∀ m i s,i + m=n→P i s→∃ s',loopG it b body (m + 1) i s=.nx s'∧P n s'
 | 0,i,s,hi,h=>by
  have:i=n:=by omega
  subst this
  exact ⟨s,by simp only [loopG,he s h],h⟩
 | m + 1,i,s,hi,h=>by
  obtain ⟨r,s1,s2,h1,h2,h3,h4⟩:=hs i s (by omega) h
  obtain ⟨s',h5,h6⟩:=Z347 hs he m (i + 1) s2 (by omega) h4
  refine ⟨s',?_,h6⟩
  rw [← h5,loopG,h1]
  dsimp only
  rw [h2]
  dsimp only
  rcases h3 with h3 | h3 <;> rw [h3]
theorem Z345{lo:Int}{n:Nat}{b:Sd→DV→Option Sd}{body:SF}{s:Sd}(P:Nat→Sd→Prop)(h0:P 0 s)
  (hs:∀ (i:Nat) s,i < n→P i s→∃ s1 s2,b s (.val (.at (.int (lo + i))))=some s1∧(body s1=.nx s2∨body s1=.ct s2)∧P (i + 1) s2) :
  ∃ s',loopG (itR lo n) b body (n + 1) 0 s=.nx s'∧P n s' :=
 Z347 (P:=P) (fun i s hi h=>by
  obtain ⟨s1,s2,h1,h2,h3⟩:=hs i s hi h
  exact ⟨_,s1,s2,by unfold itR;rw [if_pos hi],h1,h2,h3⟩) (fun s h=>by unfold itR;rw [if_neg (Jw _)]) n 0 s (by omega) h0
theorem Z343{t:Bool}{n k:Nat}{p:List Nat}{l:List D}{kd:NK}{b:Sd→DV→Option Sd}{body:SF}{s:Sd}(hk:t=false∧(∃ m,kd=.lst m)∨t=true∧kd=.tup)(P:Nat→Sd→Prop)(h0:P 0 s)
  (hh:∀ i s,P i s→held n k p s=true∧dref s (.plc k p)=some (.nd kd l))
  (hs:∀ (i:Nat) s c,l[i]?=some c→P i s→∃ s1 s2,b s (mkV k (p++[i]) c)=some s1∧(body s1=.nx s2∨body s1=.ct s2)∧P (i + 1) s2) :
  ∃ s',loopG (itP t n k p) b body (l.length + 1) 0 s=.nx s'∧P l.length s':=by
 have it:∀ i s,P i s→itP t n k p i s=some ((l[i]?).map (mkV k (p++[i]))):=by
  intro i s h
  obtain ⟨h1,h2⟩:=hh i s h
  unfold itP
  rw [h1,h2]
  rcases hk with ⟨rfl,m,rfl⟩ | ⟨rfl,rfl⟩ <;> rfl
 refine Z347 (P:=P) (fun i s hi h=>?_) (fun s h=>?_) l.length 0 s (by omega) h0
 ·obtain ⟨s1,s2,h1,h2,h3⟩:=hs i s l[i] (Qh hi) h
  exact ⟨_,s1,s2,by rw [it i s h,Qh hi];rfl,h1,h2,h3⟩
 ·rw [it _ s h,Jm (Qu _)];rfl

noncomputable def DtN(n:Nat)(a:D):Prop:=∃ d,toDt a=some d∧d.dep≤n
theorem Z106{n:Nat}{i:Int}:DtN (n + 1) (.at (.int i)):=⟨.int i,rfl,by simp [Dt.dep]⟩
theorem Z108{n:Nat}:DtN (n + 1) (.at .non):=⟨.non,rfl,by simp [Dt.dep]⟩
theorem Z110{n:Nat}:∀ {l:List D},(∀ x∈l,DtN n x)→∃ r,toDts l=some r∧Dt.deps r≤n
 | [],_=>⟨[],rfl,Nat.zero_le _⟩
 | x::l,h=>by
  obtain ⟨d,h1,h2⟩:=h x Qs
  obtain ⟨r,h3,h4⟩:=Z110 fun y hy=>h y (Qp _ hy)
  exact ⟨d::r,by rw [toDts,h1,h3],Nat.max_le.mpr ⟨h2,h4⟩⟩
theorem Z107{n:Nat}{l:List D}(hl:l.length < sizeLine)(h:∀ x∈l,DtN n x):DtN (n + 1) (.nd (.lst true) l):=by
 obtain ⟨r,h1,h2⟩:=Z110 h
 exact ⟨.lst r,by rw [toDt,if_pos hl,h1],Nat.succ_le_succ h2⟩
theorem Z576{n:Nat}{a:D}(h:DtN n a):sameF n [a,a]=.ok (.val (.at (.bl true))) [a,a]:=by
 obtain ⟨d,h1,h2⟩:=h
 simp only [sameF,h1,if_pos h2,(Dt.eq_iff d d).mpr rfl]
theorem ixN_0{n:Nat}(h:0 < n):ixN n 0=some 0:=by unfold ixN;rw [if_pos (by omega),if_pos (by omega)];rfl
theorem ixN_1{n:Nat}(h:1 < n):ixN n 1=some 1:=by unfold ixN;rw [if_pos (by omega),if_pos (by omega)];rfl
theorem ixN_2{n:Nat}(h:2 < n):ixN n 2=some 2:=by unfold ixN;rw [if_pos (by omega),if_pos (by omega)];rfl
theorem ixN_3{n:Nat}(h:3 < n):ixN n 3=some 3:=by unfold ixN;rw [if_pos (by omega),if_pos (by omega)];rfl
theorem ixN_4{n:Nat}(h:4 < n):ixN n 4=some 4:=by unfold ixN;rw [if_pos (by omega),if_pos (by omega)];rfl
theorem ixN_5{n:Nat}(h:5 < n):ixN n 5=some 5:=by unfold ixN;rw [if_pos (by omega),if_pos (by omega)];rfl
theorem ixN_6{n:Nat}(h:6 < n):ixN n 6=some 6:=by unfold ixN;rw [if_pos (by omega),if_pos (by omega)];rfl
theorem ixN_7{n:Nat}(h:7 < n):ixN n 7=some 7:=by unfold ixN;rw [if_pos (by omega),if_pos (by omega)];rfl
theorem ixN_8{n:Nat}(h:8 < n):ixN n 8=some 8:=by unfold ixN;rw [if_pos (by omega),if_pos (by omega)];rfl
theorem ixN_9{n:Nat}(h:9 < n):ixN n 9=some 9:=by unfold ixN;rw [if_pos (by omega),if_pos (by omega)];rfl
theorem Z261{n:Nat}(h:10 < n):ixN n 10=some 10:=by unfold ixN;rw [if_pos (by omega),if_pos (by omega)];rfl
theorem Z262{n:Nat}(h:11 < n):ixN n 11=some 11:=by unfold ixN;rw [if_pos (by omega),if_pos (by omega)];rfl
theorem Z263{n:Nat}(h:12 < n):ixN n 12=some 12:=by unfold ixN;rw [if_pos (by omega),if_pos (by omega)];rfl
section
variable {K:Qd}
theorem Z224{x:Str}:hLen K [.at (.str x)]=if x.length≤sizeLine then some (.at (.int x.length)) else none:=rfl
theorem Z223{m:Bool}{l:List D}:hLen K [.nd (.lst m) l]=some (.at (.int l.length)):=rfl
theorem Z225{l:List D}:hLen K [.nd .tup l]=some (.at (.int l.length)):=rfl
theorem Z221{m:Bool}{ks:List Key}{l:List D}:hLen K [.nd (.dic m ks) l]=some (.at (.int l.length)):=rfl
theorem Z222{l:List D}:hLen K [.nd (.kst K) l]=some (.at (.int l.length)):=if_pos rfl
theorem Z218{m:Bool}{l:List D}{i:Int}:hIx K [.nd (.lst m) l,.at (.int i)]=(ixN l.length i).map .ch:=rfl
theorem Z220{l:List D}{i:Int}:hIx K [.nd .tup l,.at (.int i)]=(ixN l.length i).map .ch:=rfl
theorem Z217{l:List D}{i:Int}:hIx K [.nd (.kst K) l,.at (.int i)]=(ixN l.length i).map .ch:=if_pos rfl
theorem Z219{z:Str}{i:Int}:hIx K [.at (.str z),.at (.int i)]=if z.length≤sizeLine then (atI z.cps.toList i).map fun c=>.cs (.str ⟨#[c]⟩) else none:=rfl
end
theorem sz:sizeLine=16777216:=by decide
theorem Z237{α:Type}{f:α→D}(h:∀ a,(f a).imm=true):∀ l:List α,D.imms (l.map f)=true
 | []=>rfl
 | a::l=>by rw [Ql,D.imms,h,Z237 h l];rfl
end RM

namespace RM
open PySem PySem.Spec PyProof.Rows L2
section
variable {X:Cx}{R:RC}{ix:List Nat}{hd:List (Nat×Addr)}{H H':Hp}{σ:L2.St}{ts:Ts}{fr:List T}{e:Expr}{pos:Pos}

noncomputable def hFmt:List D→Option D
 | [.at (.int i)]=>if i.natAbs.log2 < 1920 then some (.at (.str (toString i))) else none
 | [.at (.str x)]=>if x.length≤sizeLine then some (.at (.str x)) else none
 | _=>none
theorem ers1{l:List T}{a:D}(h:T.ers l=[a]):∃ t,l=[t]∧t.er=a:=by
 rw [T.ers_eq] at h
 exact map1 h
theorem ers2{l:List T}{a b:D}(h:T.ers l=[a,b]):∃ t u,l=[t,u]∧t.er=a∧u.er=b:=by
 rw [T.ers_eq] at h
 exact map2 h

inductive PJ(X:Cx):List Expr→List TE→Prop where
 | nil:PJ X [] []
 | cons {e:Expr} {es:List Expr} {t:TE} {ts:List TE}:PE X e t→PJ X es ts→PJ X (e::es) (t::ts)
noncomputable def eJoin:List EF→Str→EF
 | [],acc=>fun s=>if acc.length≤sizeLine then .ok (.val (.at (.str acc))) s else .no
 | f::r,acc=>fun s=>match f s with
  | .ok (.val (.at (.str y))) s1=>if (acc++y).length≤sizeLine then eJoin r (acc++y) s1 else .no
  | .ok _ _=>.no
  | .ex C s1=>.ex C s1
  | .no=>.no

noncomputable def hNeg:List D→Option D
 | [.at (.int i)]=>some (.at (.int (-i)))
 | _=>none
theorem Z516{a:Expr}{f:EF}(ha:PE X a (lE R ix f)):PE X (.UnaryOp .USub a pos) (lE R ix (eNw hNeg (aCons f aNil))) :=
 peM (pe_un Z640 ha) fun σ H Q q=>Z299 (fun x H1 q=>by
  obtain ⟨t,ok,rfl,d,hh,q⟩:=gNw1 q
  unfold hNeg at hh
  split at hh
  case h_1 i e1 =>
   simp only [Wk.injEq,and_true] at e1
   cases hh;cases er_at e1 rfl
   exact ⟨i,rfl,q (.at (.int (-i))) H1 rfl (.atom _)⟩
  case h_2=>cases hh) (lA_1 (lA_nw σ H Q q))
noncomputable def hInt:List D→Option D
 | [.at (.int i)]=>some (.at (.int i))
 | [.at (.bl b)]=>some (.at (.int (if b then 1 else 0)))
 | _=>none
noncomputable def hStrI:List D→Option D
 | [.at (.int i)]=>if i.natAbs.log2 < 1920 then some (.at (.str (toString i))) else none
 | _=>none
noncomputable def hMax:List D→Option D
 | [.at (.int i),.at (.int j)]=>some (.at (.int (if j > i then j else i)))
 | _=>none
noncomputable def hMin:List D→Option D
 | [.at (.int i),.at (.int j)]=>some (.at (.int (if j < i then j else i)))
 | _=>none
theorem Z61(hc:X.calm=true):CallR X (.builtin "max") (gNw hMax):=callM (Z51 hc) fun vs H Q q=>by
 obtain ⟨l,ok,hv,d,hh,q⟩:=q
 unfold hMax at hh
 split at hh
 case h_1 i j e1 =>
  obtain ⟨t,u,rfl,e2⟩:=ers2 e1
  cases hh;cases er_at e2.1 rfl;cases er_at e2.2 rfl
  exact ⟨i,j,hv.symm,q (.at (.int (if j > i then j else i))) H rfl (.atom _)⟩
 case h_2=>cases hh
theorem Z62(hc:X.calm=true):CallR X (.builtin "min") (gNw hMin):=callM (Z52 hc) fun vs H Q q=>by
 obtain ⟨l,ok,hv,d,hh,q⟩:=q
 unfold hMin at hh
 split at hh
 case h_1 i j e1 =>
  obtain ⟨t,u,rfl,e2⟩:=ers2 e1
  cases hh;cases er_at e2.1 rfl;cases er_at e2.2 rfl
  exact ⟨i,j,hv.symm,q (.at (.int (if j < i then j else i))) H rfl (.atom _)⟩
 case h_2=>cases hh
end
end RM

namespace RM
open PySem PySem.Spec PyProof.Rows L2
section
variable {X:Cx}{pins:List (Addr×Obj)}{σ:L2.St}{H:Hp}{s:Shared}{a:Addr}{kvs:List (Key×V)}{A:Around}{E:Value→Shared→Prop}{k:Key}{u r:Value}{d:V}
end
noncomputable def setG2(s1:Sd)(k:Nat)(p:List Nat)(x:D)(ky:D):D→ER DV
  | .nd (.dic true ks) l=>(match s1[k]?,keyD ky with
   | some (.own true _),some key=>(match idk key ks with
    | some j=>(match l[j]? with | some c=>.ok (mkV k (p++[j]) c) s1 | none=>.no)
    | none=>if l.length < sizeLine then .ok (mkV k (p++[l.length]) x) (wr s1 k p (.nd (.dic true (ks++[key])) (l++[x])) fun _=>true) else .no)
   | _,_=>.no)
  | _=>.no
noncomputable def setG1(s1:Sd)(k:Nat)(p:List Nat)(x:D):Option (List D)→ER DV
  | some [d0,ky,_]=>setG2 s1 k p x ky d0
  | _=>.no
noncomputable def setGo(s1:Sd):List DV→ER DV
  | [.plc k p,r1,.val x]=>setG1 s1 k p x (drefs s1 [.plc k p,r1,.val x])
  | _=>.no
noncomputable def eSetD(f:AF):EF:=fun s=>match f s with
 | .ok rs s1=>setGo s1 rs
 | .ex C s1=>.ex C s1
 | .no=>.no
section
variable {R:RC}{ix:List Nat}{hd:List (Nat×Addr)}{X:Cx}{e:Expr}{H H':Hp}{σ:L2.St}{ts:Ts}{fr:List T}
theorem Z0{H1:Hp}{ts1:Ts}{tvs:List TV}{k m:Nat}{p:List Nat}{a2:Addr}{kd kd':NK}{ch:List T}{u t:T}{o:HO}(C1:Cf R ix hd H1 σ ts1 (trs tvs++fr))(hk:ts1[k]?=some (.own true u))(hp:u.get p=some (.nd a2 kd ch))(hm:kd.mut=true)
  (t1:tvs[m]?=some (.val t)) (ho:HoOk o kd' (ch.map T.val++[t.val])) :
  Cf R ix hd (upd H1 a2 o) σ ((ts1.set k (.own true (T.put (.nd a2 kd' (ch++[t])) p u))).map (killT k p fun _=>true)) fr:=by
 have hok:(T.nd a2 kd ch).ok H1:=T.get_ok hp (C1.ok true u (Qg hk))
 have ha2:a2∈ownS ts1:=by
  obtain ⟨c,r,K⟩:=T.ctx hp
  exact Z360.mpr ⟨u,Qg hk,K.own.mem_iff.mpr (Qf _ (by simp [T.own,hm]))⟩
 have stay:∀ (y:T),y∈trs tvs++fr→y.ok (upd H1 a2 o):=fun y hy=>T.keep (T.oks_iff.mp C1.fok y hy) fun b hb=>Z646 (by
  rintro rfl
  rcases hb with hb | hb
  ·have:=(Qj.mp C1.nd).2.2 b ha2 b (T.mem_owns.mpr ⟨y,hy,hb⟩)
   exact this rfl
  ·exact (C1.sep b (.inr (T.mem_ros.mpr ⟨y,hy,hb⟩))).1 ha2)
 have kid:∀ (y:T),y∈ch→y.ok (upd H1 a2 o):=fun y hy=>T.keep (T.oks_iff.mp hok.2 y hy) fun b hb=>Z646 (by
  rintro rfl
  obtain ⟨c,r,K⟩:=T.ctx hp
  rcases hb with hb | hb
  ·have n1:=(Qj.mp C1.nd).1
   obtain ⟨x1,z1,o1,_⟩:=Z200 (f:=TL.own1) hk
   unfold ownS at n1
   rw [o1] at n1
   have n2:=(Qj.mp ((Qj.mp n1).2.1)).1
   have n3:=(Qj.mp (K.own.nodup_iff.mp n2)).2.1
   simp only [T.own,hm,if_true,Wq,Ji] at n3
   exact n3.1 (T.mem_owns.mpr ⟨y,hy,hb⟩)
  ·refine (C1.sep b (.inl (Z364.mpr ⟨true,u,Qg hk,K.ro.mem_iff.mpr (Qf _ ?_)⟩))).1 ha2
   simp only [T.ro,hm,if_true,Je]
   exact T.mem_ros.mpr ⟨y,hy,hb⟩)
 obtain ⟨n1,n2⟩:=HoOk.node (H:=H1) (a:=a2) ho
 obtain ⟨x,p1,p2,p3⟩:=Z632 t1
 exact Cf.write (kd':=kd') (l':=ch++[t]) (fr':=fr) (x:=x) (o:=o) (keep:=fun _=>true) C1 hk hp hm n2
  ⟨by simpa using n1,T.oks_app.mpr ⟨T.oks_iff.mpr kid,stay t (Qi _ (p3 t (by simp [TV.tr]))),trivial⟩⟩ (T.oks_iff.mpr fun y hy=>stay y (Qf _ hy))
  (by
   rw [T.owns_app,T.owns_app]
   refine Qw.mpr fun b=>?_
   have:=Qw.mp p1 b
   simp only [TV.tr,T.owns,Jj,List.count_nil] at this ⊢
   omega)
  (fun b hb=>by
   rw [T.ros_app] at hb ⊢
   rcases hb with hb | hb
   ·rcases Qe.mp hb with hb | hb
    ·exact .inl hb
    ·exact .inr (.inl (Qi _ (p2 b (by simpa [TV.tr] using hb))))
   ·exact .inr (.inl (Qf _ hb)))
  (fun i c _ hc=>by rw [Qo (Qc.mp hc).1];exact hc)
theorem map3{α β:Type}{f:α→β}{l:List α}{b c d:β}(h:l.map f=[b,c,d]):∃ x y z,l=[x,y,z]∧f x=b∧f y=c∧f z=d:=by
 cases l with
 | nil=>cases h
 | cons x r =>
  simp only [Ql,Wk.injEq] at h
  obtain ⟨y,z,rfl,h2,h3⟩:=map2 h.2
  exact ⟨x,y,z,rfl,h.1,h2,h3⟩
end

section
variable {X:Cx}{R:RC}{ix:List Nat}{e:Expr}{st:Stmt}
end

theorem Z152{acc:Str}{s:Sd}:eJoin [] acc s=(if acc.length≤sizeLine then .ok (.val (.at (.str acc))) s else .no):=id rfl
theorem Z151{f:EF}{r:List EF}{acc:Str}{s:Sd}:eJoin (f::r) acc s=(match f s with
  | .ok (.val (.at (.str y))) s1=>if (acc++y).length≤sizeLine then eJoin r (acc++y) s1 else .no
  | .ok _ _=>.no
  | .ex C s1=>.ex C s1
  | .no=>.no):=id rfl
theorem Z165{a:AF}{s:Sd}:eSetD a s=(match a s with
 | .ok rs s1=>setGo s1 rs
 | .ex C s1=>.ex C s1
 | .no=>.no):=id rfl
theorem Z168{s1:Sd}{k:Nat}{p:List Nat}{r1:DV}{x:D}:setGo s1 [.plc k p,r1,.val x]=setG1 s1 k p x (drefs s1 [.plc k p,r1,.val x]):=id rfl
theorem Z166{s1:Sd}{k:Nat}{p:List Nat}{x d0 ky dx:D}:setG1 s1 k p x (some [d0,ky,dx])=setG2 s1 k p x ky d0:=id rfl
theorem Z167{s1:Sd}{k:Nat}{p:List Nat}{x ky:D}{ks:List Key}{l:List D}:setG2 s1 k p x ky (.nd (.dic true ks) l)=(match s1[k]?,keyD ky with
   | some (.own true _),some key=>(match idk key ks with
    | some j=>(match l[j]? with | some c=>.ok (mkV k (p++[j]) c) s1 | none=>.no)
    | none=>if l.length < sizeLine then .ok (mkV k (p++[l.length]) x) (wr s1 k p (.nd (.dic true (ks++[key])) (l++[x])) fun _=>true) else .no)
   | _,_=>.no):=id rfl
theorem Z150{C C':Addr}{m:Str}{b:Bool}{ns:List Str}{l:List D}:isObjD C m (.nd (.ins b C' ns) l)=(decide (C'=C) && !ns.contains m):=rfl
theorem Z149{m:Bool}{l:List D}:isLst (.nd (.lst m) l)=true:=rfl
theorem Z147{m:Bool}{ks:List Key}{l:List D}:isDic (.nd (.dic m ks) l)=true:=rfl
theorem Z148{m:Bool}{ks:List (List Key)}{l:List D}:isDic (.nd (.dit m ks) l)=true:=rfl
end RM

namespace RM
open PySem PySem.Spec PyProof.Rows L2
noncomputable def bYes:BF:=fun s=>.ok true s
noncomputable def compGo(it:Nat→Sd→Option (Option DV))(n:Nat)(c:BF)(e:EF):Nat→Nat→List D→Sd→ER (List D)
 | 0,_,_,_=>.no
 | m + 1,i,acc,s=>match it i s with
  | none=>.no
  | some none=>.ok acc s
  | some (some r)=>match asgD n s r with
   | none=>.no
   | some s1=>match c s1 with
    | .ok true s2=>(match e s2 with
     | .ok (.val d) s3=>if acc.length < sizeLine then compGo it n c e m (i + 1) (acc++[d]) s3 else .no
     | _=>.no)
    | .ok false s2=>compGo it n c e m (i + 1) acc s2
    | _=>.no
noncomputable def compFin1(n:Nat):ER (List D)→ER DV
 | .ok l s=>(match popD n s with | some s1=>.ok (.val (.nd (.lst true) l)) s1 | none=>.no)
 | _=>.no
noncomputable def compFin2(n:Nat):ER (List D)→ER DV
 | .ok l s=>(match popD (n + 1) s with | some s1=>(match popD n s1 with | some s2=>.ok (.val (.nd (.lst true) l)) s2 | none=>.no) | none=>.no)
 | _=>.no
noncomputable def eCompL(f:EF)(c:Nat→BF)(e:Nat→EF):EF:=fun s=>match f s with
 | .ok (.plc k p) s1=>(match seqOf (dref s1 (.plc k p)) with
  | some (t,m)=>compFin2 s1.length (compGo (itP t s1.length k p) (s1.length + 1) (c (s1.length + 1)) (e (s1.length + 1)) (m + 1) 0 [] (s1++[.bor k p,.non]))
  | none=>.no)
 | .ok (.val d) s1=>(match seqOf (some d) with
  | some (t,m)=>compFin2 s1.length (compGo (itP t s1.length s1.length []) (s1.length + 1) (c (s1.length + 1)) (e (s1.length + 1)) (m + 1) 0 [] (s1++[.own true d,.non]))
  | none=>.no)
 | .ex C s1=>.ex C s1
 | .no=>.no
section
variable {R:RC}{ix:List Nat}{hd:List (Nat×Addr)}{X:Cx}{H H':Hp}{σ:L2.St}{ts:Ts}{fr:List T}
noncomputable def RC.q(R:RC):RC:={ R with EX:=fun _=>E0 }
theorem Cf.enter(C:Cf R ix hd H σ ts fr):Cf R.q (ts.length::ix) hd H (none::σ) (ts++[.non]) fr:=by
 have e1:ownS (ts++[.non])=ownS ts:=by rw [Z442];simp [ownS,TL.own1]
 have e2:roS (ts++[.non])=roS ts:=by rw [Z528];simp [roS,TL.ro1]
 have e3:rdS (ts++[.non])=rdS ts:=by rw [Z505];simp [rdS,TL.rd1]
 have old:∀ {j:Nat} {s:TL},(ts++[TL.non])[j]?=some s→s≠.non→ts[j]?=some s:=by
  intro j s h hn
  rcases Nat.lt_or_ge j ts.length with hj | hj
  ·rwa [Qo hj] at h
  ·rw [Jd hj] at h
   have:j - ts.length=0:=by
    have:=(Qc.mp h).1
    simp at this;omega
   rw [this] at h
   cases h
   exact absurd rfl hn
 refine ⟨fun w t z=>?_,C.fok,by rw [e1];exact C.nd,by rw [e1,e2];exact C.sep,by rw [e1,e3];exact C.rd,by rw [e1];exact C.g,C.bg,fun j k p a z=>?_,fun j z=>?_,fun i j s v z1 z2 z3=>?_,fun j a z=>?_,fun j a z=>?_,?_,fun j a z s v z2 z3=>?_⟩
 ·rcases Qe.mp z with z | z
  ·exact C.ok w t z
  ·simp at z
 ·exact (C.bor j k p a (old z (by intro q;cases q))).app _
 ·rcases Jb.mp z with rfl | z
  ·simp
  ·simpa using Wn (C.ixs j z)
 ·have hs:s≠.non:=by rintro rfl;cases z3
  cases i with
  | zero =>
   simp only [Ws,Option.some.injEq] at z1
   have:=(Qc.mp (old z2 hs)).1
   omega
  | succ i=>exact C.sl i j s v (by simpa using z1) (old z2 hs) z3
 ·simpa using Wn (C.hdi j a z)
 ·intro q
  rcases Jb.mp q with rfl | q
  ·exact absurd (C.hdi _ a z) (Jw _)
  ·exact C.hdx j a z q
 ·simpa using C.len
 ·exact C.hdn j a z s v (old z2 (by rintro rfl;cases z3)) z3
theorem Cf.leave{n:Nat}{y:Option V}(C:Cf R.q (n::ix) hd H (y::σ) ts fr):Cf R ix hd H σ ts fr :=
 ⟨C.ok,C.fok,C.nd,C.sep,C.rd,C.g,C.bg,C.bor,fun j z=>C.ixs j (Qp _ z),fun i j s v z1 z2 z3=>C.sl (i + 1) j s v (by simpa using z1) z2 z3,C.hdi,fun j a z q=>C.hdx j a z (Qp _ q),by simpa using C.len,C.hdn⟩
theorem Z19{i j:Nat}{v:V}{tv:TV}{s':Sd}(hix:ix[i]?=some j)(hnd:ix.Nodup)(C:Cf R ix hd H σ ts (tv.tr++fr))(hv:TvOk ts v tv)(hs:asgD j (ts.map TL.er) tv.er=some s'):∃ ts',ts'.map TL.er=s'∧Cf R ix hd H (σ.set i (some v)) ts' fr:=by
 have er1:∀ y:TL,((ts.map (unrootT j)).set j y).map TL.er=((ts.map TL.er).map (unrootD j)).set j y.er:=fun y=>by
  rw [Wa,Jk,Jk]
  exact congrArg (fun l=>List.set l j y.er) (Wf fun s _=>Z643 s)
 cases tv with
 | val t =>
  cases hv
  cases hs
  exact ⟨_,er1 (.own true t),Cf.slot (y:=.own true t) C hix hnd rfl (.inl ⟨t,rfl,rfl⟩)⟩
 | plc k p a =>
  obtain ⟨rfl,hp⟩:=hv
  simp only [TV.er,asgD] at hs
  by_cases hk:k=j
  ·subst hk
   rw [if_pos rfl] at hs
   by_cases hp0:p=[]
   ·subst hp0
    rw [if_pos rfl] at hs
    cases hs
    have:σ.set i (some (.ref a))=σ:=by
     obtain ⟨w,t,s,h1,h2,h3⟩:=hp
     cases h2
     have h4:=C.sl i k _ _ hix h1 rfl
     rw [h3] at h4
     refine Jz fun n=>?_
     rw [Qm]
     by_cases hn:i=n
     ·subst hn
      rw [if_pos rfl,if_pos (Qc.mp h4).1,h4]
     ·rw [if_neg hn]
    rw [this]
    exact ⟨ts,rfl,C⟩
   ·rw [if_neg hp0] at hs;cases hs
  ·rw [if_neg hk] at hs
   cases hs
   exact ⟨_,er1 (.bor k p a),Cf.slot (y:=.bor k p a) (m:=[]) C hix hnd rfl (.inr ⟨rfl,k,p,a,rfl,hk,hp⟩)⟩
theorem Cf.grow{D:Addr}{acc:List T}{t:T}(C:Cf R ix hd H σ ts (t::.nd D (.lst true) acc::fr)):H D=some (.lst (acc.map T.val))∧Cf R ix hd (upd H D (.lst ((acc++[t]).map T.val))) σ ts (.nd D (.lst true) (acc++[t])::fr):=by
 have hok:=C.fok
 refine ⟨hok.2.1.1,?_⟩
 have C2:Cf R ix hd H σ ts (.nd D (.lst true) acc::([t]++fr)):=C.less (x:=[]) ⟨hok.2.1,hok.1,hok.2.2⟩ (by
  simp only [T.owns_cons,Jl,Wq]
  rw [← Qq,← Qq]
  exact List.Perm.append_right _ Wh) fun a z=>.inl (by
  simp only [T.ros_cons,Wq,Qe] at z ⊢
  rcases z with z | z | z <;> simp [z])
 refine Cf.fill (kd:=.lst true) (kd':=.lst true) (l:=acc) (l':=acc++[t]) (m:=[t]) (x:=[]) C2 rfl rfl (by show upd H D _ D=_;exact Z647) (fun u hu=>?_) (by rw [T.owns_app,Jl]) (fun a z=>by rw [T.ros_app] at z;exact Qe.mp z)
 rcases Qe.mp hu with hu | hu
 ·exact T.oks_iff.mp hok.2.1.2 u hu
 ·rw [Qy.mp hu];exact hok.1
noncomputable def PostC(R:RC)(ix:List Nat)(hd:List (Nat×Addr))(fr:List T)(σ:L2.St)(D:Addr)(Q:Hp→Prop):ER (List RM.D)→Prop
 | .ok l s=>∀ H' y ts' acc,ts'.map TL.er=s→T.ers acc=l→Cf R ix hd H' (y::σ) ts' (.nd D (.lst true) acc::fr)→Q H'
 | _=>False
noncomputable def xE(R:RC)(ix:List Nat)(e:Nat→EF):TE:=fun σ H Q=>∃ n,(∀ j∈ix,j < n)∧lE R.q (n::ix) (e n) σ H Q
noncomputable def xT(R:RC)(ix:List Nat)(c:Nat→BF):TT:=fun σ H Q=>∃ n,(∀ j∈ix,j < n)∧lT R.q (n::ix) (c n) σ H Q
theorem px_e{e:Expr}{f:Nat→EF}(h:∀ n,(∀ j∈ix,j < n)→PE X e (lE R.q (n::ix) (f n))):PE X e (xE R ix f):=fun pins s σ H Q I ⟨n,hn,q⟩=>h n hn pins s σ H Q I q
theorem px_t{e:Expr}{f:Nat→BF}(h:∀ n,(∀ j∈ix,j < n)→PT X e (lT R.q (n::ix) (f n))):PF X [e] (xT R ix f):=Z469 fun pins s σ H Q I ⟨n,hn,q⟩=>h n hn pins s σ H Q I q
theorem Z501:PF X [] (xT R ix fun _=>bYes):=fun pins s σ H Q I ⟨n,hn,hd,ts,fr,C,q⟩=>Z468 pins s σ H Q I (q H ts rfl C)
theorem Z73{J:It}{it:Nat→Sd→Option (Option DV)}{n m:Nat}{c:Nat→BF}{e:Nat→EF}{Q:VK}{R:RC}{ix:List Nat}{hd:List (Nat×Addr)}{σ:L2.St}{ts:Ts}{fr:List T}{H:Hp}{y0:Option V}
  (hn:∀ j∈ix,j < n) (ok:∀ i H τ ts fr,Cf R.q (n::ix) hd H τ ts fr→(it i (ts.map TL.er)=some none→J.stop i H)∧∀ r,it i (ts.map TL.er)=some (some r)→J.go i H∧∀ x H',J.yld i H x H'→∃ tv,tv.er=r∧TvOk ts x tv∧Cf R.q (n::ix) hd H' τ ts (tv.tr++fr))
  (hnd:ix.Nodup) (C:Cf R.q (n::ix) hd H (y0::σ) ts fr) (P:∀ D,H D=none→PostC R.q (n::ix) hd fr σ D (fun H'=>Q (.ref D) H') (compGo it n (c n) (e n) m 0 [] (ts.map TL.er))) (hy:y0=none) :
  compW J 1 (gName 0) (xT R ix c) (xE R ix e) σ H Q:=by
 intro D hD
 subst hy
 have hnd:(n::ix).Nodup:=Ji.mpr ⟨fun z=>Jw _ (hn n z),hnd⟩
 refine ⟨fun i m ys τ H=>∃ y ts acc,τ=y::σ∧Cf R.q (n::ix) hd H τ ts (.nd D (.lst true) acc::fr)∧acc.map T.val=ys∧PostC R.q (n::ix) hd fr σ D (fun H'=>Q (.ref D) H') (compGo it n (c n) (e n) m i (T.ers acc) (ts.map TL.er)),⟨m,none,ts,[],rfl,Cf.wrap (ch:=[]) C hD (by show upd H D _ D=_;exact Z647),rfl,P D hD⟩,?_⟩
 rintro i m ys τ H ⟨y,ts,acc,rfl,C,rfl,P⟩
 cases m with
 | zero=>exact P.elim
 | succ m =>
  unfold compGo at P
  obtain ⟨o1,o2⟩:=ok i H _ ts _ C
  cases ei:it i (ts.map TL.er) with
  | none=>rw [ei] at P;exact P.elim
  | some z =>
   rw [ei] at P
   cases z with
   | none=>exact .inl ⟨o1 ei,P H y ts acc rfl rfl C⟩
   | some r =>
    obtain ⟨g1,g2⟩:=o2 r ei
    refine .inr ⟨g1,fun zs τ' H'=>∃ y ts acc,τ'=y::σ∧Cf R.q (n::ix) hd H' τ' ts (.nd D (.lst true) acc::fr)∧acc.map T.val=zs∧PostC R.q (n::ix) hd fr σ D (fun H'=>Q (.ref D) H') (compGo it n (c n) (e n) m (i + 1) (T.ers acc) (ts.map TL.er)),fun zs τ' H' z=>⟨m,Nat.lt_succ_self m,z⟩,fun x H' hy=>?_⟩
    obtain ⟨tv,rfl,hv,C'⟩:=g2 x H' hy
    dsimp only at P
    cases eb:asgD n (ts.map TL.er) tv.er with
    | none=>rw [eb] at P;exact P.elim
    | some s1 =>
     rw [eb] at P
     obtain ⟨ts1,rfl,C1⟩:=Z19 (i:=0) rfl hnd C' hv eb
     have C1:Cf R.q (n::ix) hd H' (some x::σ) ts1 (.nd D (.lst true) acc::fr):=C1
     show xT R ix c (some x::σ) H' _
     refine ⟨n,hn,hd,ts1,_,C1,?_⟩
     dsimp only at P
     cases ec:c n (ts1.map TL.er) with
     | no=>rw [ec] at P;exact P.elim
     | ex E s2=>rw [ec] at P;exact P.elim
     | ok b s2 =>
      rw [ec] at P
      intro H2 ts2 e2 C2
      subst e2
      cases b with
      | false =>
       dsimp only at P
       rw [if_neg Qt]
       exact ⟨some x,ts2,acc,rfl,C2,rfl,P⟩
      | true =>
       dsimp only at P
       rw [if_pos rfl]
       refine ⟨n,hn,hd,ts2,_,C2,?_⟩
       cases ee:e n (ts2.map TL.er) with
       | no=>rw [ee] at P;exact P.elim
       | ex E s3=>rw [ee] at P;exact P.elim
       | ok r s3 =>
        rw [ee] at P
        intro H3 ts3 tv v e3 e4 hv3 C3
        subst e3
        cases r with
        | plc k p=>exact P.elim
        | val d =>
         obtain ⟨t,rfl,rfl,rfl⟩:=hv3.er_val e4
         dsimp only at P
         by_cases hz:(T.ers acc).length < sizeLine
         case neg=>rw [if_neg hz] at P;exact P.elim
         rw [if_pos hz] at P
         obtain ⟨q1,q2⟩:=Cf.grow C3
         refine ⟨q1,by simpa [T.ers_eq] using hz,some x,ts3,acc++[t],rfl,?_,by simp,?_⟩
         ·simpa using q2
         ·simpa [T.ers_eq] using P
theorem Z191{l:List (Nat×Addr)}{n:Nat}{a:Addr}{r:ER (List RM.D)}{Q:VK}{σ:L2.St}{fr:List T}{n1:Nat}(hi:∀ j∈ix,j < n)(hj:∀ j a,(j,a)∈hd→j < n)
  (q:match compFin2 n r with
   | .ok r s'=>∀ H' ts' tv v,ts'.map TL.er=s'→tv.er=r→TvOk ts' v tv→Cf R ix hd H' σ ts' (tv.tr++fr)→Q v H'
   | .ex C s'=>∀ H' ts',ts'.map TL.er=s'→Cf R ix hd H' σ ts' fr→R.EX σ (.ref (R.ad C)) none H'
   | .no=>False) (D:Addr):PostC R.q (n1::ix) (hd++[(n,a)]) fr σ D (fun H'=>Q (.ref D) H') r:=by
 cases r with
 | no=>exact q.elim
 | ex E s=>exact q.elim
 | ok l s =>
  simp only [compFin2] at q
  cases e1:popD (n + 1) s with
  | none=>rw [e1] at q;exact q.elim
  | some s1 =>
   rw [e1] at q
   dsimp only at q
   cases e2:popD n s1 with
   | none=>rw [e2] at q;exact q.elim
   | some s2 =>
    rw [e2] at q
    intro H' y ts' acc f1 f2 C
    have C1:=C.leave
    obtain ⟨ts0,x,rfl,hl,f3⟩:=Z477 e1 f1
    have C2:Cf R ix ((hd++[(n,a)])++[]) H' σ (ts0++[x]) (.nd D (.lst true) acc::fr):=by rw [Jl];exact C1
    have C3:=C2.popAny (fun j z=>by have:=hi j z;omega) (fun j b z=>by
     rcases Qe.mp z with z | z
     ·have:=hj j b z;omega
     ·simp only [Qy,Prod.mk.injEq] at z;omega)
    rw [hl] at C3
    obtain ⟨ts4,x4,e4,hl4,f4⟩:=Z477 e2 f3
    rw [e4] at C3
    have C5:=C3.popAny (fun j z=>by have:=hi j z;omega) (fun j b z=>by have:=hj j b z;omega)
    rw [hl4] at C5
    exact q H' _ (.val (.nd D (.lst true) acc)) (.ref D) f4 (by simp only [TV.er,T.er,f2]) rfl C5
theorem Z190{n:Nat}{r:ER (List RM.D)}{Q:VK}{σ:L2.St}{fr:List T}{n1:Nat}(hi:∀ j∈ix,j < n)(hj:∀ j a,(j,a)∈hd→j < n)
  (q:match compFin1 n r with
   | .ok r s'=>∀ H' ts' tv v,ts'.map TL.er=s'→tv.er=r→TvOk ts' v tv→Cf R ix hd H' σ ts' (tv.tr++fr)→Q v H'
   | .ex C s'=>∀ H' ts',ts'.map TL.er=s'→Cf R ix hd H' σ ts' fr→R.EX σ (.ref (R.ad C)) none H'
   | .no=>False) (D:Addr):PostC R.q (n1::ix) hd fr σ D (fun H'=>Q (.ref D) H') r:=by
 cases r with
 | no=>exact q.elim
 | ex E s=>exact q.elim
 | ok l s =>
  simp only [compFin1] at q
  cases e1:popD n s with
  | none=>rw [e1] at q;exact q.elim
  | some s1 =>
   rw [e1] at q
   intro H' y ts' acc f1 f2 C
   have C1:=C.leave
   obtain ⟨ts0,x,rfl,hl,f3⟩:=Z477 e1 f1
   have C2:Cf R ix (hd++[]) H' σ (ts0++[x]) (.nd D (.lst true) acc::fr):=by rw [Jl];exact C1
   have C3:=C2.popAny (fun j z=>by have:=hi j z;omega) (fun j b z=>by have:=hj j b z;omega)
   rw [hl] at C3
   exact q H' _ (.val (.nd D (.lst true) acc)) (.ref D) f3 (by simp only [TV.er,T.er,f2]) rfl C3
theorem Z296{K:Qd}{f:EF}{c:Nat→BF}{e:Nat→EF}(hnd:ix.Nodup)(σ:L2.St)(H:Hp)(Q:VK)(h:lE R ix (eCompL f c e) σ H Q):tComp 1 (iSeq K (lE R ix f)) (gName 0) (xT R ix c) (xE R ix e) σ H Q:=by
 obtain ⟨hd,ts,fr,C,h⟩:=h
 refine ⟨hd,ts,fr,C,?_⟩
 unfold eCompL at h
 cases ef:f (ts.map TL.er) with
 | no=>rw [ef] at h;exact h
 | ex E s1=>rw [ef] at h;exact h
 | ok r s1 =>
  rw [ef] at h
  intro H1 ts1 tv v e1 e2 hv C1
  subst e1
  have hlen:(ts1.map TL.er).length=ts1.length:=by simp
  have hn:∀ j∈ix,j < ts1.length + 1:=fun j z=>Wn (C1.ixs j z)
  cases r with
  | plc k p =>
   obtain ⟨a,rfl,rfl,hp⟩:=hv.er_plc e2
   dsimp only at h
   refine ⟨a,rfl,?_⟩
   obtain ⟨w,t,s,h1,h2,h3⟩:=id hp
   have hd1:dref (ts1.map TL.er) (.plc k p)=some s.er:=by simp only [dref,Qa,h1,Option.map_some,TL.er,T.get_er,h2]
   have sok:=T.get_ok h2 (C1.ok w t (Qg h1))
   rw [hd1,hlen] at h
   have C2:Cf R ix (hd++[(ts1.length,a)]) H1 σ (ts1++[.bor k p a]) fr:=Cf.hide C1 hp
   have C3:=C2.enter
   rw [show (ts1++[TL.bor k p a]).length=ts1.length + 1 by simp] at C3
   cases s with
   | «at» v=>exact h.elim
   | nd b' kd ch =>
    cases h3
    cases kd with
    | lst m =>
     refine .inl ⟨⟨_,sok.1.sqL⟩,?_⟩
     refine Z73 (it:=itP false ts1.length k p) (m:=ch.length + 1) hn (fun i H τ ts fr C=>Z257 i H τ ts C) hnd C3 (fun D _=>?_) rfl
     have:=Z191 (l:=[]) (a:=a) (n1:=ts1.length + 1) C1.ixs C1.hdi h D
     simpa [TL.er,T.ers_eq,Qq] using this
    | tup =>
     refine .inr ⟨⟨_,sok.1.sqT⟩,?_⟩
     refine Z73 (it:=itP true ts1.length k p) (m:=ch.length + 1) hn (fun i H τ ts fr C=>Z258 i H τ ts C) hnd C3 (fun D _=>?_) rfl
     have:=Z191 (l:=[]) (a:=a) (n1:=ts1.length + 1) C1.ixs C1.hdi h D
     simpa [TL.er,T.ers_eq,Qq] using this
    | _=>exact h.elim
  | val d =>
   obtain ⟨t,rfl,rfl,rfl⟩:=hv.er_val e2
   dsimp only at h
   cases t with
   | «at» v=>exact h.elim
   | nd a kd ch =>
    refine ⟨a,rfl,?_⟩
    rw [hlen] at h
    have C2:Cf R ix (hd++[(ts1.length,a)]) H1 σ (ts1++[.own true (.nd a kd ch)]) fr:=Cf.push (a:=a) C1 rfl
    have C3:=C2.enter
    rw [show (ts1++[TL.own true (.nd a kd ch)]).length=ts1.length + 1 by simp] at C3
    have sok:=C1.fok.1
    cases kd with
    | lst m =>
     refine .inl ⟨⟨_,sok.1.sqL⟩,?_⟩
     refine Z73 (it:=itP false ts1.length ts1.length []) (m:=ch.length + 1) hn (fun i H τ ts fr C=>Z257 i H τ ts C) hnd C3 (fun D _=>?_) rfl
     have:=Z191 (l:=[]) (a:=a) (n1:=ts1.length + 1) C1.ixs C1.hdi h D
     simpa [TL.er,T.er,T.ers_eq,Qq] using this
    | tup =>
     refine .inr ⟨⟨_,sok.1.sqT⟩,?_⟩
     refine Z73 (it:=itP true ts1.length ts1.length []) (m:=ch.length + 1) hn (fun i H τ ts fr C=>Z258 i H τ ts C) hnd C3 (fun D _=>?_) rfl
     have:=Z191 (l:=[]) (a:=a) (n1:=ts1.length + 1) C1.ixs C1.hdi h D
     simpa [TL.er,T.er,T.ers_eq,Qq] using this
    | _=>exact h.elim
theorem Z508{N:List Str}{scope:Scope}{tg iter elt:Expr}{ifs:List Expr}{pos:Pos}{f:EF}{c:Nat→BF}{e:Nat→EF}(hc:X.calm=true)(hnd:ix.Nodup)(hi:PE X iter (lE R ix f))(S:CompSc X 1 N scope)
  (hg:∀ cl C s H fp,PG (cxC X N scope cl C s H fp) tg (gName 0)) (hf:∀ cl C s H fp,PF (cxC X N scope cl C s H fp) ifs (xT R ix c)) (he:∀ cl C s H fp,PE (cxC X N scope cl C s H fp) elt (xE R ix e))
  (hs:∀ x,foldedSetIterable iter X.env x=pure x:=by intro _;rfl):PE X (.ListComp elt [⟨tg,iter,ifs,0⟩] scope pos) (lE R ix (eCompL f c e)):=peM (Z456 hc (Z476 hi) S hg hf he hs) (Z296 hnd)
end

theorem len1{α:Type}{l:List α}(h:l.length=1):∃ a0,l=[a0]:=match l,h with | [a0],_=>⟨a0,rfl⟩
theorem len2{α:Type}{l:List α}(h:l.length=2):∃ a0 a1,l=[a0,a1]:=match l,h with | [a0,a1],_=>⟨a0,a1,rfl⟩
theorem len3{α:Type}{l:List α}(h:l.length=3):∃ a0 a1 a2,l=[a0,a1,a2]:=match l,h with | [a0,a1,a2],_=>⟨a0,a1,a2,rfl⟩
theorem len4{α:Type}{l:List α}(h:l.length=4):∃ a0 a1 a2 a3,l=[a0,a1,a2,a3]:=match l,h with | [a0,a1,a2,a3],_=>⟨a0,a1,a2,a3,rfl⟩
theorem len5{α:Type}{l:List α}(h:l.length=5):∃ a0 a1 a2 a3 a4,l=[a0,a1,a2,a3,a4]:=match l,h with | [a0,a1,a2,a3,a4],_=>⟨a0,a1,a2,a3,a4,rfl⟩

noncomputable abbrev hAddI:List D→Option D:=hI (fun _ _=>true) fun i j=>.int (i + j)
section
variable {X:Cx}
theorem Z420:OpR X (binaryOp .Add) (oNw hAddI):=Z423 Z429 fun _ _=>rfl
end
end RM

namespace RM
open PySem PySem.Spec PyProof.Rows L2
section
variable {s s1 s2 s3:Sd}{f g:SF}{e e':EF}{c c':BF}{a:AF}{v:V}{j k m n:Nat}{p:List Nat}{d d':D}{ds l:List D}{r r':DV}{rs:List DV}{w b:Bool}{R:SR}{C:Str}






end
end RM

namespace RM
open PySem PySem.Spec PyProof.Rows L2
noncomputable def eCompR1(f:EF)(c:Nat→BF)(e:Nat→EF):EF:=fun s=>match f s with
 | .ok (.val (.at (.int j))) s1=>if -(2 ^ 62)≤j∧j < 2 ^ 62 then compFin1 s1.length (compGo (itR 0 j.toNat) s1.length (c s1.length) (e s1.length) (j.toNat + 1) 0 [] (s1++[.non])) else .no
 | .ok _ _=>.no
 | .ex C s1=>.ex C s1
 | .no=>.no
section
variable {R:RC}{ix:List Nat}{hd:List (Nat×Addr)}{X:Cx}{H H':Hp}{σ:L2.St}{ts:Ts}{fr:List T}
theorem Z297{f:EF}{c:Nat→BF}{e:Nat→EF}(hnd:ix.Nodup)(σ:L2.St)(H:Hp)(Q:VK)(h:lE R ix (eCompR1 f c e) σ H Q) :
  lE R ix f σ H fun v H1=>∃ j,v=.int j∧-(2 ^ 62)≤j∧j < 2 ^ 62∧compW (Itr 0 j.toNat) 1 (gName 0) (xT R ix c) (xE R ix e) σ H1 Q:=by
 obtain ⟨hd,ts,fr,C,h⟩:=h
 refine ⟨hd,ts,fr,C,?_⟩
 unfold eCompR1 at h
 cases ef:f (ts.map TL.er) with
 | no=>rw [ef] at h;exact h
 | ex E s1=>rw [ef] at h;exact h
 | ok r s1 =>
  rw [ef] at h
  intro H1 ts1 tv v e1 e2 hv C1
  subst e1
  cases r with
  | plc k p=>exact h.elim
  | val d =>
   obtain ⟨t,rfl,rfl,rfl⟩:=hv.er_val e2
   cases t with
   | nd a k l=>exact h.elim
   | «at» u =>
    cases u with
    | int j =>
     have hlen:(ts1.map TL.er).length=ts1.length:=by simp
     simp only [T.er,cl] at h
     by_cases hj:-(2 ^ 62)≤j∧j < 2 ^ 62
     ·rw [if_pos hj,hlen] at h
      refine ⟨j,rfl,hj.1,hj.2,?_⟩
      have C2:=(C1.drop).enter
      refine Z73 (it:=itR 0 j.toNat) (m:=j.toNat + 1) C1.ixs (fun i H τ ts fr C=>Z259 i H τ ts C) hnd C2 (fun D _=>?_) rfl
      have:=Z190 (n1:=ts1.length) C1.ixs C1.hdi h D
      simpa [TL.er] using this
     ·rw [if_neg hj] at h;exact h.elim
    | _=>exact h.elim
theorem Z509{N:List Str}{scope:Scope}{tg a elt:Expr}{ifs:List Expr}{p pos rpos:Pos}{f:EF}{c:Nat→BF}{e:Nat→EF}(hc:X.calm=true)(hnd:ix.Nodup)(hgl:Gl X "range")(hm:X.mg "range"=none)(ha:PE X a (lE R ix f))(S:CompSc X 1 N scope)
  (hg:∀ cl C s H fp,PG (cxC X N scope cl C s H fp) tg (gName 0)) (hf:∀ cl C s H fp,PF (cxC X N scope cl C s H fp) ifs (xT R ix c)) (he:∀ cl C s H fp,PE (cxC X N scope cl C s H fp) elt (xE R ix e))
  (hst:starEach [a] X.env=[(false,eval a X.env)]:=by rfl) (hs:∀ x,foldedSetIterable (.Call (.Name "range" p) [a] [] rpos) X.env x=pure x:=by intro _;rfl) :
  PE X (.ListComp elt [⟨tg,.Call (.Name "range" p) [a] [] rpos,ifs,0⟩] scope pos) (lE R ix (eCompR1 f c e)):=by
 refine peM (Z456 hc (Z475 (ta:=tCons (lE R ix f) tNil) hgl hm (Z445 ha Z446 hst) hst) S hg hf he hs) fun σ H Q h=>?_
 refine Z299 (fun v H1 q=>?_) (Z297 hnd σ H Q h)
 obtain ⟨j,rfl,b1,b2,q⟩:=q
 exact ⟨j,rfl,b1,b2,q⟩
end
end RM

namespace RM
open PySem PySem.Spec PyProof.Rows L2
section
variable {R:RC}{ix:List Nat}{X:Cx}{H:Hp}{σ:L2.St}
theorem Z18{f:EF}{i j:Nat}(hix:ix[i]?=some j)(hnd:ix.Nodup)(D:Ends)(σ:L2.St)(H:Hp)(h:lS R ix (sAsg f (asgD j)) D σ H):lE R ix f σ H fun v H1=>gName i v σ H1 D.nx :=
 Z299 (fun v H1 q=>Z301 hix hnd v σ H1 _ q) (Z305 D σ H h)
theorem Z541{i j:Nat}{y:Str}{py spos:Pos}{N:List Str}{scope:Scope}{tg iter elt:Expr}{ifs:List Expr}{pos:Pos}{f:EF}{c:Nat→BF}{e:Nat→EF}(hc:X.calm=true)(hnd:ix.Nodup)(hi:PE X iter (lE R ix f))(S:CompSc X 1 N scope)
  (hg:∀ cl C s H fp,PG (cxC X N scope cl C s H fp) tg (gName 0)) (hf:∀ cl C s H fp,PF (cxC X N scope cl C s H fp) ifs (xT R ix c)) (he:∀ cl C s H fp,PE (cxC X N scope cl C s H fp) elt (xE R ix e))
  (hN:X.N.Nodup) (hiy:X.N[i]?=some y) (hx:X.env.scope.names.lookup y=some .local) (hix:ix[i]?=some j)
  (hsw:swapsWith (.ListComp elt [⟨tg,iter,ifs,0⟩] scope pos) (some (.Name y py)) spos.line X.env=pure true)
  (hs:∀ x,foldedSetIterable iter X.env x=pure x:=by intro _;rfl):PS X (.Assign [.Name y py] (.ListComp elt [⟨tg,iter,ifs,0⟩] scope pos) spos) (lS R ix (sAsg (eCompL f c e) (asgD j))) :=
 psM (Z487 hc (Z476 hi) S hg hf he hN hiy hx hsw hs) fun D σ H h=>Z296 hnd σ H _ (Z18 hix hnd D σ H h)
theorem Z542{i j:Nat}{y:Str}{py spos:Pos}{N:List Str}{scope:Scope}{tg a elt:Expr}{ifs:List Expr}{p pos rpos:Pos}{f:EF}{c:Nat→BF}{e:Nat→EF}(hc:X.calm=true)(hnd:ix.Nodup)(hgl:Gl X "range")(hm:X.mg "range"=none)(ha:PE X a (lE R ix f))(S:CompSc X 1 N scope)
  (hg:∀ cl C s H fp,PG (cxC X N scope cl C s H fp) tg (gName 0)) (hf:∀ cl C s H fp,PF (cxC X N scope cl C s H fp) ifs (xT R ix c)) (he:∀ cl C s H fp,PE (cxC X N scope cl C s H fp) elt (xE R ix e))
  (hN:X.N.Nodup) (hiy:X.N[i]?=some y) (hx:X.env.scope.names.lookup y=some .local) (hix:ix[i]?=some j)
  (hsw:swapsWith (.ListComp elt [⟨tg,.Call (.Name "range" p) [a] [] rpos,ifs,0⟩] scope pos) (some (.Name y py)) spos.line X.env=pure true)
  (hst:starEach [a] X.env=[(false,eval a X.env)]:=by rfl) (hs:∀ x,foldedSetIterable (.Call (.Name "range" p) [a] [] rpos) X.env x=pure x:=by intro _;rfl) :
  PS X (.Assign [.Name y py] (.ListComp elt [⟨tg,.Call (.Name "range" p) [a] [] rpos,ifs,0⟩] scope pos) spos) (lS R ix (sAsg (eCompR1 f c e) (asgD j))) :=
 psM (Z487 hc (Z475 (ta:=tCons (lE R ix f) tNil) hgl hm (Z445 ha Z446 hst) hst) S hg hf he hN hiy hx hsw hs) fun D σ H h=>by
  refine Z299 (fun v H1 q=>?_) (Z297 hnd σ H _ (Z18 hix hnd D σ H h))
  obtain ⟨j,rfl,b1,b2,q⟩:=q
  exact ⟨j,rfl,b1,b2,q⟩
end
end RM

namespace RM
open PySem PySem.Spec PyProof.Rows L2
section
variable {R:RC}{ix:List Nat}{hd:List (Nat×Addr)}{X:Cx}{H H1:Hp}{σ:L2.St}{ts1:Ts}{fr1:List T}
end
end RM

namespace RM
open PySem PySem.Spec PyProof.Rows L2
noncomputable def extGo(s1:Sd):List DV→List D→ER DV
 | .plc k p::_,[.nd (.lst true) l,.nd (.lst true) m]=>(match s1[k]? with
  | some (.own true _)=>if D.imms l=true∧D.imms m=true∧l.length + m.length≤sizeLine then .ok (.val (.at .non)) (wr s1 k p (.nd (.lst true) (l++m)) fun _=>false) else .no
  | _=>.no)
 | _,_=>.no
noncomputable def eExt(f:AF):EF:=fun s=>match f s with
 | .ok rs s1=>(match drefs s1 rs with | some ds=>extGo s1 rs ds | none=>.no)
 | .ex C s1=>.ex C s1
 | .no=>.no
section
variable {R:RC}{ix:List Nat}{hd:List (Nat×Addr)}{X:Cx}{H H1:Hp}{σ:L2.St}{ts:Ts}{fr:List T}
theorem Z351{K:Qd}{H:Hp}{t:T}(h:isLst t.er=true)(ok:t.ok H):∃ a m ch,t=.nd a (.lst m) ch∧SqL K H a (ch.map T.val):=by
 cases t with
 | «at» v=>simp [T.er,isLst] at h
 | nd a k ch=>cases k with
  | lst m=>exact ⟨a,m,ch,rfl,ok.1.sqL⟩
  | _=>simp [T.er,isLst] at h

noncomputable def eClr(f:EF):EF:=fun s=>match f s with
 | .ok (.plc k p) s1=>(match dref s1 (.plc k p),s1[k]? with
  | some (.nd (.lst true) _),some (.own true _)=>.ok (.val (.at .non)) (wr s1 k p (.nd (.lst true) []) fun _=>false)
  | _,_=>.no)
 | .ok (.val (.nd (.lst true) _)) s1=>.ok (.val (.at .non)) s1
 | .ok _ _=>.no
 | .ex C s1=>.ex C s1
 | .no=>.no
end
end RM

namespace RM
open PySem PySem.Spec PyProof.Rows L2
section
variable {R:RC}{ix:List Nat}{hd:List (Nat×Addr)}{X:Cx}{H H1:Hp}{σ:L2.St}{ts:Ts}{fr:List T}
end
end RM

namespace RM
open PySem PySem.Spec PyProof.Rows L2
noncomputable def graftS(j k:Nat)(p:List Nat)(n:D)(len:Nat)(s1:Sd):Sd:=((wr (wr s1 j [] hole fun _=>false) k p n fun _=>true).map (unrootD j)).set j (.bor k (p++[len]))
section
variable {R:RC}{ix:List Nat}{hd:List (Nat×Addr)}{X:Cx}{H H1:Hp}{σ:L2.St}{ts:Ts}{fr:List T}
end
end RM

namespace RM
open PySem PySem.Spec PyProof.Rows L2
theorem two_sz{α:Type}{a b:α}:[a,b].length≤sizeLine:=by show 2≤sizeLine;decide
section
variable {X:Cx}{pins:List (Addr×Obj)}{σ:L2.St}{H:Hp}{s:Shared}{h':Heap}
theorem Z254{t':Nat}{e it a:Addr}{o:HO}(I:Inv X pins σ H s)(k:∀ b u,b≠e→b≠it→s.heap.get? b=some u→h'.get? b=some u)(he:FpOk X pins H e)(hi:FpOk X pins H it)(hp:s.heap.objs.size≤a)(new:ObjOk X.prog X.w (upd H a o) h' a o) :
  Inv X pins σ (upd H a o) { s with heap:=h',toks:=t' }:=by
 have hn:H a=none:=I.hok.fresh hp
 have nit:∀ b u,H b=some u→(b≠e)∧(b≠it):=fun b u q=>⟨fun z=>(by rw [z,he.1] at q;cases q),fun z=>(by rw [z,hi.1] at q;cases q)⟩
 have na:∀ b u,s.heap.get? b=some u→b≠a:=fun b u q=>Jo (Jc (Heap.lt_size q) hp)
 have nc:∀ {b:Addr},b∉[e,it]→b≠e∧b≠it:=fun {b} z=>by simpa using z
 refine I.step (g':=s.gens) (d':=s.drawn) (ch:=[e,it]) (fun b hb=>?_) (fun b o _ _ hc e _=>k b o (nc hc).1 (nc hc).2 e) (fun b o _ _ hc e _=>⟨o.slots,k b o (nc hc).1 (nc hc).2 e⟩) (fun b o _ q n=>by rw [Z646 (na b o q)];exact n)
  (fun b o hc e=>⟨o,k b o (nc hc).1 (nc hc).2 e⟩) (fun b xs q=>by rw [Z646 (Z396 q hn)];exact q) (fun b u xs q=>by rw [Z646 (Z396 q hn)];exact q) (fun b ps q=>⟨#[],by rw [Z646 (Z396 q hn),q];simp⟩) (fun m hm=>?_) (fun b u q=>?_) I.bare
 ·have z:b=e∨b=it:=by simpa using hb
  rcases z with rfl | rfl
  ·exact ⟨he.2.2.2.1,he.2.1,he.2.2.2.2.1,he.2.2.2.2.2⟩
  ·exact ⟨hi.2.2.2.1,hi.2.1,hi.2.2.2.2.1,hi.2.2.2.2.2⟩
 ·obtain ⟨o,es,ep,ho,r⟩:=hm
  exact ⟨o,es,ep,k _ o (Ne.symm he.2.1) (Ne.symm hi.2.1) ho,r⟩
 ·by_cases hb:b=a
  ·subst hb;rw [Z647] at q;cases q;exact new
  ·rw [Z646 hb] at q
   refine (I.hok b u q).stay (fun c v hc r=>?_) (fun c r=>by rw [Z646 (Z396 r hn)];exact r) fun c xs r=>by rw [Z646 (Z396 r hn)];exact r
   rcases hc with z | z
   ·rw [z] at r ⊢;exact k b v (nit b u q).1 (nit b u q).2 r
   ·exact k c v (nit c _ z).1 (nit c _ z).2 r
end
noncomputable def itE(n k:Nat)(p:List Nat)(i:Nat)(s:Sd):Option (Option DV):=match itP false n k p i s with
 | some (some (.val d))=>some (some (.val (.nd .tup [.at (.int i),d])))
 | some none=>some none
 | _=>none
noncomputable def lenOf:Option D→Option Nat
 | some (.nd (.lst _) l)=>some l.length
 | _=>none
noncomputable def sForE(f:EF)(b:Sd→DV→Option Sd)(body:SF):SF:=fun s=>match f s with
 | .ok (.plc k p) s1=>(match lenOf (dref s1 (.plc k p)) with
  | some m=>fin s1.length (loopG (itE s1.length k p) b body (m + 1) 0 (s1++[.bor k p]))
  | none=>.no)
 | .ok (.val d) s1=>(match lenOf (some d) with
  | some m=>fin s1.length (loopG (itE s1.length s1.length []) b body (m + 1) 0 (s1++[.own true d]))
  | none=>.no)
 | .ex C s1=>.ex C s1
 | .no=>.no
section
variable {K:Qd}{R:RC}{ix:List Nat}{hd hm:List (Nat×Addr)}{X:Cx}{e:Expr}{H H':Hp}{σ:L2.St}{ts:Ts}{fr:List T}{D:Ends}
theorem Z139{e:EF}{f:SF}{s:Sd}{w:Sd→DV→Option Sd}:sForE e w f s=(match e s with
 | .ok (.plc k p) s1=>(match lenOf (dref s1 (.plc k p)) with
  | some m=>fin s1.length (loopG (itE s1.length k p) w f (m + 1) 0 (s1++[.bor k p]))
  | none=>.no)
 | .ok (.val d) s1=>(match lenOf (some d) with
  | some m=>fin s1.length (loopG (itE s1.length s1.length []) w f (m + 1) 0 (s1++[.own true d]))
  | none=>.no)
 | .ex C s1=>.ex C s1
 | .no=>.no):=id rfl
end
end RM

namespace RM
open PySem PySem.Spec PyProof.Rows L2
theorem Z113{t:T}{i:Int}(h:t.er=.at (.int i)):t=.at (.int i):=by
 cases t with
 | nd a k l=>cases h
 | «at» u=>cases u with
  | int j=>cases h;rfl
  | _=>cases h
section
variable {X:Cx}
noncomputable def rngD(i:Int)(n:Nat):List D:=(List.range n).map fun k:Nat=>D.at (.int (i + (k:Int)))
noncomputable def hRng:List D→Option D
 | [.at (.int i),.at (.int j)]=>if (-(2 ^ 62)≤i∧i < 2 ^ 62∧-(2 ^ 62)≤j∧j < 2 ^ 62)∧(j - i).toNat≤sizeLine then some (.nd (.lst true) (rngD i (j - i).toNat)) else none
 | _=>none
variable {R:RC}{ix:List Nat}
end
end RM

namespace RM
open PySem PySem.Spec PyProof.Rows L2
noncomputable def hPutL:List D→Option Mu
 | [_,.nd (.lst true) l,.at (.int k)]=>(ixN l.length k).map fun j=>.set j 0
 | _=>none
section
variable {R:RC}{ix:List Nat}{X:Cx}
theorem Z538{o i value:Expr}{pos pos':Pos}{fo fi fv:EF}(ho:PE X o (lE R ix fo))(hi:PE X i (lE R ix fi))(hv:PE X value (lE R ix fv))
  (ha:∀ v,assign (.Subscript o i pos') X.env v=(do
   let ov ← holding [v] (eval o X.env)
   let iv ← holding [v,ov] (eval i X.env)
   standAt pos'
   holding [v,ov,iv] (setItem ov iv v)
   release [v,ov,iv] []):=by intro _;rfl)
  (hs:swapsWithSole [.Subscript o i pos'] value pos.line X.env=pure false:=by rfl) (hw:swappedStores [.Subscript o i pos'] value X.env=pure none:=by rfl) (h1:(assignEach [.Subscript o i pos'] X.env).map (·.2)=[assign (.Subscript o i pos') X.env]:=by rfl) :
  PS X (.Assign [.Subscript o i pos'] value pos) (lS R ix (sE (eMu 1 hPutL (aCons fv (aCons fo (aCons fi aNil)))))):=psM (Z481 hv (Z471 ho hi L2.set_list ha) hs hw h1) fun D σ H h=>by
 have h1:=lA_3 (lA_mu σ H (fun _ H1=>D.nx σ H1) (lS_e D σ H h))
 refine Z299 (fun v H1 q=>Z299 (fun x H2 q=>Z299 (fun y H3 q=>?_) q) q) h1
 obtain ⟨l,ok,hvl,a,kd,ch,op,hl,hm,hh,qq⟩:=q
 obtain ⟨tv,r,rfl,e1⟩:∃ t r,l=t::r∧r.map T.val=[x,y]:=by
  cases l with
  | nil=>cases hvl
  | cons t r=>exact ⟨t,r,rfl,(Wk.inj hvl).2⟩
 obtain ⟨td,tk,rfl,rfl,rfl⟩:=map2 e1
 cases (Wk.inj hvl).1
 cases hl
 simp only [T.ers] at hh
 unfold hPutL at hh
 split at hh
 case h_2=>cases hh
 case h_1 l k el =>
  simp only [Wk.injEq,and_true,T.er,RM.D.nd.injEq] at el
  obtain ⟨_,⟨rfl,rfl⟩,ek⟩:=el
  cases Z113 ek
  cases ej:ixN (T.ers ch).length k with
  | none=>rw [ej] at hh;cases hh
  | some j =>
   rw [ej] at hh
   cases hh
   obtain ⟨x,hx,hj,qq⟩:=qq
   cases hx
   refine ⟨a,ch.map T.val,k,j,rfl,rfl,ok.2.1.1,?_,qq _ rfl⟩
   rw [Z117] at ej
   simpa using ej
end
section
variable {s:Sd}{e f:EF}{a:AF}{j:Nat}
theorem Z128{c:Nat→BF}{g:Nat→EF}:eCompL f c g s=(match f s with
 | .ok (.plc k p) s1=>(match seqOf (dref s1 (.plc k p)) with
  | some (t,m)=>compFin2 s1.length (compGo (itP t s1.length k p) (s1.length + 1) (c (s1.length + 1)) (g (s1.length + 1)) (m + 1) 0 [] (s1++[.bor k p,.non]))
  | none=>.no)
 | .ok (.val d) s1=>(match seqOf (some d) with
  | some (t,m)=>compFin2 s1.length (compGo (itP t s1.length s1.length []) (s1.length + 1) (c (s1.length + 1)) (g (s1.length + 1)) (m + 1) 0 [] (s1++[.own true d,.non]))
  | none=>.no)
 | .ex C s1=>.ex C s1
 | .no=>.no):=id rfl
theorem Z136:eExt a s=(match a s with
 | .ok rs s1=>(match drefs s1 rs with | some ds=>extGo s1 rs ds | none=>.no)
 | .ex C s1=>.ex C s1
 | .no=>.no):=id rfl
theorem Z137{s1:Sd}{k:Nat}{p:List Nat}{rr:List DV}{l m:List D}:extGo s1 (.plc k p::rr) [.nd (.lst true) l,.nd (.lst true) m]=(match s1[k]? with
  | some (.own true _)=>if D.imms l=true∧D.imms m=true∧l.length + m.length≤sizeLine then .ok (.val (.at .non)) (wr s1 k p (.nd (.lst true) (l++m)) fun _=>false) else .no
  | _=>.no):=id rfl
end
section
variable {s:Sd}{f:EF}
theorem Z126:eClr f s=(match f s with
 | .ok (.plc k p) s1=>(match dref s1 (.plc k p),s1[k]? with
  | some (.nd (.lst true) _),some (.own true _)=>.ok (.val (.at .non)) (wr s1 k p (.nd (.lst true) []) fun _=>false)
  | _,_=>.no)
 | .ok (.val (.nd (.lst true) _)) s1=>.ok (.val (.at .non)) s1
 | .ok _ _=>.no
 | .ex C s1=>.ex C s1
 | .no=>.no):=id rfl
theorem Z129{c:Nat→BF}{g:Nat→EF}:eCompR1 f c g s=(match f s with
 | .ok (.val (.at (.int j))) s1=>if -(2 ^ 62)≤j∧j < 2 ^ 62 then compFin1 s1.length (compGo (itR 0 j.toNat) s1.length (c s1.length) (g s1.length) (j.toNat + 1) 0 [] (s1++[.non])) else .no
 | .ok _ _=>.no
 | .ex C s1=>.ex C s1
 | .no=>.no):=id rfl
theorem Z68{it:Nat→Sd→Option (Option DV)}{n:Nat}{c:BF}{e:EF}{P:Nat→List D→Sd→Prop}{N:Nat}
  (hs:∀ i acc s,i < N→P i acc s→∃ r s1,it i s=some (some r)∧asgD n s r=some s1∧((∃ s2 d s3,c s1=.ok true s2∧e s2=.ok (.val d) s3∧acc.length < sizeLine∧P (i + 1) (acc++[d]) s3)∨(∃ s2,c s1=.ok false s2∧P (i + 1) acc s2)))
  (he:∀ acc s,P N acc s→it N s=some none):∀ m i acc s,i + m=N→P i acc s→∃ l s',compGo it n c e (m + 1) i acc s=.ok l s'∧P N l s'
 | 0,i,acc,s,hi,h=>by
  have:i=N:=by omega
  subst this
  exact ⟨acc,s,by simp only [compGo,he acc s h],h⟩
 | m + 1,i,acc,s,hi,h=>by
  obtain ⟨r,s1,h1,h2,h3⟩:=hs i acc s (by omega) h
  rcases h3 with ⟨s2,d,s3,h4,h5,h6,h7⟩ | ⟨s2,h4,h5⟩
  ·obtain ⟨l,s',h8,h9⟩:=Z68 hs he m (i + 1) (acc++[d]) s3 (by omega) h7
   refine ⟨l,s',?_,h9⟩
   rw [compGo]
   simp only [h1,h2,h4,h5,if_pos h6,h8]
  ·obtain ⟨l,s',h8,h9⟩:=Z68 hs he m (i + 1) acc s2 (by omega) h5
   refine ⟨l,s',?_,h9⟩
   rw [compGo]
   simp only [h1,h2,h4,h8]
end
end RM

namespace RM
open PySem PySem.Spec PyProof.Rows L2
noncomputable def eSel(n:Nat)(a:AF):EF:=fun s=>match a s with
 | .ok rs s1=>(match rs[n]? with
  | some (.val (.at (.int i)))=>(match ixN n i with | some j=>(match rs[j]? with | some r=>.ok r s1 | none=>.no) | none=>.no)
  | _=>.no)
 | .ex C s1=>.ex C s1
 | .no=>.no
theorem Z163{n:Nat}{a:AF}{s:Sd}:eSel n a s=(match a s with
 | .ok rs s1=>(match rs[n]? with
  | some (.val (.at (.int i)))=>(match ixN n i with | some j=>(match rs[j]? with | some r=>.ok r s1 | none=>.no) | none=>.no)
  | _=>.no)
 | .ex C s1=>.ex C s1
 | .no=>.no):=id rfl
section
variable {R:RC}{ix:List Nat}{hd:List (Nat×Addr)}{X:Cx}{H H1:Hp}{σ:L2.St}{ts:Ts}{fr:List T}
end
end RM

namespace RM
open PySem PySem.Spec PyProof.Rows L2

section
variable {X:Cx}{R:RC}{ix:List Nat}{e:Expr}{pos:Pos}


noncomputable def hCut(lo:Bool):List D→Option D
 | [.nd (.lst _) l,.at (.int i)]=>if D.imms l=true∧0≤i then some (.nd (.lst true) (if lo then l.drop i.toNat else l.take i.toNat)) else none
 | _=>none
end
section
variable {X:Cx}
noncomputable def hCat:List D→Option D
 | [.nd (.lst true) l,.nd (.lst true) m]=>if D.imms l=true∧D.imms m=true∧l.length + m.length≤sizeLine then some (.nd (.lst true) (l++m)) else none
 | _=>none
theorem Z421:OpR X (binaryOp .Add) (oNw hCat):=opM Z430 fun x y H Q q=>by
 obtain ⟨t,u,ht,hu,rfl,rfl,d,hh,q⟩:=gNw2 q
 unfold hCat at hh
 split at hh
 case h_2=>cases hh
 case h_1 l m e =>
  simp only [Wk.injEq,and_true] at e
  obtain ⟨a,ch,rfl,rfl⟩:=Z350 e.1
  obtain ⟨b,ch',rfl,rfl⟩:=Z350 e.2
  split at hh
  case isFalse=>cases hh
  case isTrue hz =>
   cases hh
   refine ⟨a,b,ch.map T.val,ch'.map T.val,rfl,rfl,ht.1,hu.1,by simpa [Z117] using hz.2.2,fun p hp=>q (.nd p (.lst true) (ch++ch')) _ (by rw [T.er,Z116]) (Z397 hp ?_ (.inl rfl) (fun t ht'=>?_) fun c hc=>?_)⟩
   ·rw [Qv];exact Z647
   ·rcases Qe.mp ht' with z | z
    ·exact ⟨T.oks_iff.mp ht.2 t z,Z236 hz.1 t z⟩
    ·exact ⟨T.oks_iff.mp hu.2 t z,Z236 hz.2.1 t z⟩
   ·rw [T.ros_app] at hc
    simpa [T.ros,T.ro,NK.mut] using hc
end
end RM

namespace RM
open PySem PySem.Spec PyProof.Rows L2
noncomputable def eAnd(f g:EF):EF:=fun s=>match f s with
 | .ok (.val (.at (.bl b))) s1=>if b=true then g s1 else .ok (.val (.at (.bl false))) s1
 | .ok _ _=>.no
 | .ex C s1=>.ex C s1
 | .no=>.no
theorem Z133{f g:EF}{s:Sd}:eAnd f g s=(match f s with
 | .ok (.val (.at (.bl b))) s1=>if b=true then g s1 else .ok (.val (.at (.bl false))) s1
 | .ok _ _=>.no
 | .ex C s1=>.ex C s1
 | .no=>.no):=id rfl
section
variable {X:Cx}{R:RC}{ix:List Nat}{a b:Expr}{rest:List Expr}{pos:Pos}
end
end RM

namespace RM
open PySem PySem.Spec PyProof.Rows L2
theorem Z94{t:T}{m:Bool}{ks:List Key}{l:List D}(h:t.er=.nd (.dic m ks) l):∃ a ch,t=.nd a (.dic m ks) ch∧l=T.ers ch:=by
 cases t with
 | «at» v=>cases h
 | nd a k ch=>cases h;exact ⟨a,ch,rfl,rfl⟩
section
variable {X:Cx}{R:RC}{ix:List Nat}{H:Hp}
noncomputable def hDict:List D→Option D
 | [.nd (.dic _ ks) l]=>if D.imms l=true then some (.nd (.dic true ks) l) else none
 | _=>none
theorem Z58:CallR X (.type "dict") (gNw hDict):=fun pins s σ H vs us Q I r q=>by
 obtain ⟨l,ok,hv,d,hh,q⟩:=q
 unfold hDict at hh
 split at hh
 case h_2=>cases hh
 case h_1 m ks l' e =>
  obtain ⟨t,rfl,e1⟩:=ers1 e
  obtain ⟨a,ch,rfl,rfl⟩:=Z94 e1
  subst hv
  split at hh
  case isFalse=>cases hh
  case isTrue hz =>
   cases hh
   obtain ⟨u,rfl,ru⟩:=vals1 r
   cases ru
   obtain ⟨h1,h2,h3⟩:=ok.1.1
   refine Z80 I (.inl h3) fun p s' hp I'=>⟨.ref p,_,I',rfl,q (.nd p (.dic true ks) ch) _ rfl (Z397 hp ⟨h1,h2,Z647⟩ (.inl rfl) (fun t ht=>⟨T.oks_iff.mp ok.1.2 t ht,Z236 hz t ht⟩) fun b hb=>?_)⟩
   simp [T.ros,T.ro,hb]

noncomputable def atomsD:List D→Option (List V)
 | []=>some []
 | .at v::r=>if flatV v=true then (match atomsD r with | some vs=>some (v::vs) | none=>none) else none
 | _=>none
theorem Z23:∀ {l:List T} {vs:List V},atomsD (T.ers l)=some vs→l.map T.val=vs∧vs.all flatV=true
 | [],vs,h=>by cases h;exact ⟨rfl,rfl⟩
 | t::l,vs,h=>by
  simp only [T.ers] at h
  unfold atomsD at h
  split at h
  case h_1 e=>cases e
  case h_3=>cases h
  case h_2 v r e =>
   simp only [Wk.injEq] at e
   split at h
   case isFalse=>cases h
   case isTrue hf =>
    rw [← e.2] at h
    cases en:atomsD (T.ers l) with
    | none=>rw [en] at h;cases h
    | some ms =>
     rw [en] at h;cases h
     cases er_at e.1 hf
     obtain ⟨h1,h2⟩:=Z23 en
     exact ⟨by rw [Ql,h1];rfl,by rw [List.all_cons,hf,h2];rfl⟩
theorem Z22:∀ ns:List Int,atomsD (ns.map fun i=>D.at (.int i))=some (ns.map V.int)
 | []=>rfl
 | n::ns=>by simp only [Ql,atomsD,Z22 ns];rfl
theorem Z238(x:Int):∀ ns:List Int,inV (.int x) (ns.map V.int)=decide (x∈ns)
 | []=>rfl
 | n::ns=>by
  have ih:=Z238 x ns
  unfold inV at *
  rw [Ql,List.any_cons,ih]
  by_cases h:n=x
  ·subst h;simp [eqV]
  ·have h':¬ x=n:=fun e=>h e.symm
   simp [eqV,h,h']
noncomputable def hIn(neg:Bool):List D→Option D
 | [.at x,.nd (.lst _) l]=>if flatV x=true then (match atomsD l with | some vs=>some (.at (.bl (if neg then !inV x vs else inV x vs))) | none=>none) else none
 | [.at x,.nd .tup l]=>if flatV x=true then (match atomsD l with | some vs=>some (.at (.bl (if neg then !inV x vs else inV x vs))) | none=>none) else none
 | _=>none
theorem Z216{neg:Bool}{t u:T}{d:D}(ht:t.ok H)(hu:u.ok H)(h:hIn neg [t.er,u.er]=some d):∃ x p vs,t=.at x∧u.val=.ref p∧(SqL X.K H p vs∨SqT X.K H p vs)∧flatV x=true∧vs.all flatV=true∧d=.at (.bl (if neg then !inV x vs else inV x vs)):=by
 unfold hIn at h
 split at h
 case h_3=>cases h
 case h_1 x m l e =>
  simp only [Wk.injEq,and_true] at e
  obtain ⟨a,ch,rfl,rfl⟩:=Z350 e.2
  split at h
  case isFalse=>cases h
  case isTrue hf =>
   cases en:atomsD (T.ers ch) with
   | none=>rw [en] at h;cases h
   | some vs =>
    rw [en] at h;cases h
    obtain ⟨h1,h2⟩:=Z23 en
    exact ⟨x,a,vs,er_at e.1 hf,rfl,.inl (by rw [← h1];exact hu.1.sqL),hf,h2,rfl⟩
 case h_2 x l e =>
  simp only [Wk.injEq,and_true] at e
  obtain ⟨a,ch,rfl,rfl⟩:=Z633 e.2
  split at h
  case isFalse=>cases h
  case isTrue hf =>
   cases en:atomsD (T.ers ch) with
   | none=>rw [en] at h;cases h
   | some vs =>
    rw [en] at h;cases h
    obtain ⟨h1,h2⟩:=Z23 en
    exact ⟨x,a,vs,er_at e.1 hf,rfl,.inr (by rw [← h1];exact hu.1.sqT),hf,h2,rfl⟩
theorem Z426:OpR X (compareOp .NotIn) (oNw (hIn true)):=opM Z435 fun x y H Q q=>by
 obtain ⟨t,u,ht,hu,rfl,rfl,d,hh,q⟩:=gNw2 q
 obtain ⟨x,p,vs,rfl,e1,h1,h2,h3,rfl⟩:=Z216 (X:=X) ht hu hh
 exact ⟨p,vs,e1,h1,h2,h3,q (.at (.bl _)) H rfl (.atom _)⟩
end
end RM

namespace RM
open PySem PySem.Spec PyProof.Rows L2
noncomputable def fzS(j:Nat)(d:D)(s:Sd):Sd:=((wr s j [] hole fun _=>false).map (unrootD j)).set j (.own true d.fz)
noncomputable def sFz(j:Nat)(f:SF):SF:=fun s=>match s[j]? with
 | some (.own true d)=>if d.imm=true then f s else f (fzS j d s)
 | _=>.no
theorem ev_fz{j:Nat}{f:SF}{s:Sd}:sFz j f s=(match s[j]? with
 | some (.own true d)=>if d.imm=true then f s else f (fzS j d s)
 | _=>.no):=id rfl
section
variable {R:RC}{ix:List Nat}{hd:List (Nat×Addr)}{X:Cx}{H:Hp}{σ:L2.St}{ts:Ts}{fr:List T}
end
end RM

namespace RM
open PySem PySem.Spec PyProof.Rows L2
theorem Z290:∀ {kvs:List (Key×V)} {vs:List (Key×Value)},KV kvs vs→Vals (kvs.map (·.2)) (vs.map (·.2))
 | _,_,.nil=>.nil
 | _,_,.cons h r=>.cons h.2 (Z290 r)
theorem Z686{α β:Type}:∀ {l:List α} {m:List β},l.length=m.length→(l.zip m).map (·.2)=m
 | [],[],_=>rfl
 | _::_,_::_,h=>by simp only [List.zip_cons_cons,Ql];rw [Z686 (by simpa using h)]
theorem NewOk.pre{H H':Hp}{l:List T}{t:T}{p:Addr}{o:HO}(hp:H p=none)(N:NewOk (upd H p o) H' l t):NewOk H H' l t:=by
 have back:∀ a,upd H p o a=none→H a=none:=fun a z=>by
  by_cases e:a=p
  ·subst e;exact hp
  ·rwa [Z646 e] at z
 refine ⟨N.ok,N.nd,fun a z=>back a (N.own a z),fun a z=>(N.ro a z).imp (back a) id,N.sep,fun a z=>?_⟩
 have e:a≠p:=by rintro rfl;exact z hp
 rw [N.keep a (by rw [Z646 e];exact z),Z646 e]
section
variable {X:Cx}
theorem Z375:MtR X "dict.values" (fun x xs H Q=>∃ a kvs,x=.ref a∧xs=[]∧H a=some (.dK kvs)∧∀ p,H p=none→Q (.ref p) (upd H p (.ext fun h=>h.IsValuesView p a))):=by
 intro pins s σ H x xs v us Q I rx r h
 obtain ⟨a,kvs,rfl,rfl,ha,q⟩:=h
 cases r
 cases rx
 obtain ⟨z,hd,vs,rel,dd⟩:=dk_rd I.hok (.inl ha)
 refine call_meetsIn PySem.F.slot_dict_values dd.typeIs PySem.F.entry_dict_values (PySem.F.args_dict_values_1 _) (meets_dict_values (mixKind X.prog X.w) a hd) ⟨⟨vs,dd⟩,?_⟩
 refine ⟨.ref s.heap.objs.size,_,I.laid (t':=s.toks) (fun b o e=>Heap.get?_push_of_some _ e) (Qu _) ?_,rfl,q _ (I.hok.fresh (Qu _))⟩
 refine ⟨⟨_,Heap.get?_push_size _ rfl,rfl,rfl⟩,⟨_,Heap.get?_push_size _ rfl⟩,fun h1 h2 ⟨o,e,x⟩ k=>⟨o,k o e,x⟩⟩
theorem Z50(hc:X.calm=true):CallR X (.type "list") (fun xs H Q=>∃ (p a:Addr) (kvs:List (Key×V)),xs=[.ref p]∧H p=some (.ext fun h=>h.IsValuesView p a)∧H a=some (.dK kvs)∧∀ l,H l=none→Q (.ref l) (upd H l (.lst (kvs.map (·.2))))):=by
 intro pins s σ H xs us Q I r h
 obtain ⟨p,a,kvs,rfl,hp,ha,q⟩:=h
 obtain ⟨u,rfl,rx⟩:=vals1 r
 cases rx
 obtain ⟨z,hd,vs,rel,dd⟩:=dk_rd I.hok (.inl ha)
 obtain ⟨ep,hat⟩:=dd.dictAt
 have hvw:s.heap.IsValuesView p a:=(I.hok p _ hp).1
 refine PySem.W.kdl_call (PySem.W.kdl_values (knd:=mixKind X.prog X.w) (kvs:=vs) (ep:=ep)) (I.ok.hd hc) ⟨hvw,hat⟩ (by rw [← rel.length];exact z) fun h' tk acc' c' kp e' hi=>?_
 refine ⟨.ref s.heap.objs.size,_,I.laid (t':=tk) kp (Qu _) (show ObjOk X.prog X.w _ h' _ (.lst (kvs.map (·.2))) from ⟨by simpa using z,acc'.toList,c',?_,e'⟩),rfl,q _ (I.hok.fresh (Qu _))⟩
 have e2:=PySem.W.kdl_vals_eq (kvs:=vs) acc'.toList (by rw [Array.length_toList];exact hi.1) fun j v e=>hi.2 j v (by rw [← Array.getElem?_toList];exact e)
 rw [e2]
 exact Z290 rel
noncomputable def hVals:List D→Option D
 | [.nd (.dic _ ks) l]=>if D.imms l=true then some (.nd (.lst true) l) else none
 | _=>none
variable {R:RC}{ix:List Nat}
theorem Z518{o:Expr}{fo:EF}{p apos cpos pos:Pos}(hc:X.calm=true)(hl:Gl X "list")(hml:X.mg "list"=none)(ho:PE X o (lE R ix fo))
  (hbase:attributeBase o "values" X.env (eval o X.env)=eval o X.env:=by rfl) (hline:(apos.endLine == cpos.line)=true:=by rfl)
  (hst3:starEach [Expr.Call (.Attribute o "values" apos) [] [] cpos] X.env=(false,eval (.Call (.Attribute o "values" apos) [] [] cpos) X.env)::starEach [] X.env:=by rfl) :
  PE X (.Call (.Name "list" p) [.Call (.Attribute o "values" apos) [] [] cpos] [] pos) (lE R ix (eNw hVals (aCons fo aNil))) :=
 peM (Z454 (Z50 hc) hl hml boot_list (Z445 (Z452 PySem.F.plainAttrs_dict PySem.F.slot_dict_values PySem.F.type_dict_values Z375 ho hbase hline) Z446 hst3) (he:=hst3)) fun σ H Q q=>by
 have h:=lA_nw σ H Q q
 have h:=lA_1 h
 refine Z299 (fun x H1 h=>?_) h
 obtain ⟨l,ok,hv,d,hh,q⟩:=h
 unfold hVals at hh
 split at hh
 case h_2=>cases hh
 case h_1 m ks l' el =>
  obtain ⟨t,rfl,e1⟩:=ers1 el
  obtain ⟨a,ch,rfl,rfl⟩:=Z94 e1
  split at hh
  case isFalse=>cases hh
  case isTrue hz =>
   cases hh
   simp only [Ql,Wm,T.val,Wk.injEq,and_true] at hv
   subst hv
   obtain ⟨h1,h2,h3⟩:=ok.1.1
   refine ⟨.inr (.inr (.inl ⟨rfl,.inl ⟨_,h3⟩⟩)),a,_,rfl,rfl,h3,fun p hp=>⟨p,a,ks.zip (ch.map T.val),rfl,Z647,?_,fun l' hl'=>?_⟩⟩
   ·rw [Z646 (by rintro rfl;rw [h3] at hp;cases hp)];exact h3
   ·rw [Z686 h1]
    refine q (.nd l' (.lst true) ch) _ rfl (NewOk.pre hp (Z397 hl' Z647 (.inl rfl) (fun t ht=>⟨T.keep (T.oks_iff.mp ok.1.2 t ht) fun b hb=>Z646 ?_,Z236 hz t ht⟩) fun b hb=>?_))
    ·rintro rfl
     exact T.there (T.oks_iff.mp ok.1.2 t ht) hb hp
    ·simp [T.ros,T.ro,hb]
end
end RM

namespace RM
open PySem PySem.Spec PyProof.Rows L2
noncomputable def asL:D→Option (List D)
 | .nd (.lst true) l=>some l
 | _=>none
noncomputable def asI:D→Option Int
 | .at (.int i)=>some i
 | _=>none
theorem Z17{d:D}{l:List D}(h:asL d=some l):d=.nd (.lst true) l:=by
 unfold asL at h
 split at h
 ·cases h;rfl
 ·cases h
theorem Z16{d:D}{i:Int}(h:asI d=some i):d=.at (.int i):=by
 unfold asI at h
 split at h
 ·cases h;rfl
 ·cases h
noncomputable def insR(s1:Sd)(k:Nat)(p:List Nat)(x:D)(l:List D)(i:Int):ER DV :=
 if (0≤i∧i < 4611686018427387904)∧l.length < sizeLine then .ok (.val (.at .non)) (wr s1 k p (.nd (.lst true) (l.take i.toNat++x::l.drop i.toNat)) fun _=>false) else .no
noncomputable def insQ(s1:Sd)(k:Nat)(p:List Nat)(x:D):List D→ER DV
 | [d0,d1,_]=>(match asL d0,asI d1 with | some l,some i=>insR s1 k p x l i | _,_=>.no)
 | _=>.no
noncomputable def ownW:Option DL→Bool
 | some (.own true _)=>true
 | _=>false
theorem Z444{o:Option DL}(h:ownW o=true):∃ u,o=some (.own true u):=by
 unfold ownW at h
 split at h
 ·exact ⟨_,rfl⟩
 ·cases h
noncomputable def insGo(s1:Sd)(ds:List D):List DV→ER DV
 | [.plc k p,_,.val x]=>if ownW s1[k]?=true then insQ s1 k p x ds else .no
 | _=>.no
noncomputable def eIns(f:AF):EF:=fun s=>match f s with
 | .ok rs s1=>(match drefs s1 rs with | some ds=>insGo s1 ds rs | none=>.no)
 | .ex C s1=>.ex C s1
 | .no=>.no
theorem Z248{s1:Sd}{rs:List DV}{ds:List D}:insGo s1 ds rs=.no∨∃ k p r1 x l i dx u,rs=[.plc k p,r1,.val x]∧ds=[.nd (.lst true) l,.at (.int i),dx]∧s1[k]?=some (.own true u)∧(0≤i∧i < 4611686018427387904)∧l.length < sizeLine∧insGo s1 ds rs=.ok (.val (.at .non)) (wr s1 k p (.nd (.lst true) (l.take i.toNat++x::l.drop i.toNat)) fun _=>false):=by
 cases e:insGo s1 ds rs with
 | no=>exact .inl rfl
 | _ =>
  right
  have e0:=e
  unfold insGo at e
  split at e
  case h_2=>cases e
  case h_1 k p r1 x =>
   by_cases hw:ownW s1[k]?=true
   case neg=>rw [if_neg hw] at e;cases e
   rw [if_pos hw] at e
   obtain ⟨u,hu⟩:=Z444 hw
   unfold insQ at e
   split at e
   case h_2=>cases e
   case h_1 d0 d1 dx =>
    split at e
    case h_2=>cases e
    case h_1 l i h1 h2 =>
     unfold insR at e
     by_cases hz:(0≤i∧i < 4611686018427387904)∧l.length < sizeLine
     case neg=>rw [if_neg hz] at e;cases e
     rw [if_pos hz] at e
     exact ⟨k,p,r1,x,l,i,dx,u,rfl,by rw [Z17 h1,Z16 h2],hu,hz.1,hz.2,by rw [← e]⟩
section
variable {R:RC}{ix:List Nat}{hd:List (Nat×Addr)}{X:Cx}{H H1:Hp}{σ:L2.St}{ts1:Ts}{fr:List T}
theorem Z247{k j:Nat}{p:List Nat}{a2:Addr}{ch:List T}{u t:T}{m:List T}(C1:Cf R ix hd H1 σ ts1 (t::fr))(hk:ts1[k]?=some (.own true u))(hp:u.get p=some (.nd a2 (.lst true) ch)) :
  Cf R ix hd (upd H1 a2 (.lst ((ch.take j++t::ch.drop j).map T.val))) σ ((ts1.set k (.own true (T.put (.nd a2 (.lst true) (ch.take j++t::ch.drop j)) p u))).map (killT k p fun _=>false)) fr:=by
 have hok:(T.nd a2 (.lst true) ch).ok H1:=T.get_ok hp (C1.ok true u (Qg hk))
 have ha2:a2∈ownS ts1:=by
  obtain ⟨c,r,K⟩:=T.ctx hp
  exact Z360.mpr ⟨u,Qg hk,K.own.mem_iff.mpr (Qf _ (by simp [T.own,NK.mut]))⟩
 have stay:∀ (y:T),y∈t::fr→y.ok (upd H1 a2 (.lst ((ch.take j++t::ch.drop j).map T.val))):=fun y hy=>T.keep (T.oks_iff.mp C1.fok y hy) fun b hb=>Z646 (by
  rintro rfl
  rcases hb with hb | hb
  ·have:=(Qj.mp C1.nd).2.2 b ha2 b (T.mem_owns.mpr ⟨y,hy,hb⟩)
   exact this rfl
  ·exact (C1.sep b (.inr (T.mem_ros.mpr ⟨y,hy,hb⟩))).1 ha2)
 have kid:∀ (y:T),y∈ch→y.ok (upd H1 a2 (.lst ((ch.take j++t::ch.drop j).map T.val))):=fun y hy=>T.keep (T.oks_iff.mp hok.2 y hy) fun b hb=>Z646 (by
  rintro rfl
  obtain ⟨c,r,K⟩:=T.ctx hp
  rcases hb with hb | hb
  ·have n1:=(Qj.mp C1.nd).1
   obtain ⟨x1,z1,o1,_⟩:=Z200 (f:=TL.own1) hk
   unfold ownS at n1
   rw [o1] at n1
   have n2:=(Qj.mp ((Qj.mp n1).2.1)).1
   have n3:=(Qj.mp (K.own.nodup_iff.mp n2)).2.1
   simp only [T.own,NK.mut,if_true,Wq,Ji] at n3
   exact n3.1 (T.mem_owns.mpr ⟨y,hy,hb⟩)
  ·refine (C1.sep b (.inl (Z364.mpr ⟨true,u,Qg hk,K.ro.mem_iff.mpr (Qf _ ?_)⟩))).1 ha2
   simp only [T.ro,NK.mut,if_true,Je]
   exact T.mem_ros.mpr ⟨y,hy,hb⟩)
 have memc:∀ y,y∈ch.take j++t::ch.drop j→y∈ch∨y=t:=fun y hy=>by
  rcases Qe.mp hy with z | z
  ·exact .inl (List.mem_of_mem_take z)
  ·rcases Jb.mp z with z | z
   ·exact .inr z
   ·exact .inl (List.mem_of_mem_drop z)
 refine Cf.write (kd:=.lst true) (kd':=.lst true) (l:=ch) (l':=ch.take j++t::ch.drop j) (fr':=fr) (x:=[]) (o:=.lst ((ch.take j++t::ch.drop j).map T.val)) (keep:=fun _=>false) C1 hk hp rfl rfl
  ⟨Z647,T.oks_iff.mpr fun c hc=>?_⟩ (T.oks_iff.mpr fun y hy=>stay y (Qp _ hy)) ?_ (fun b hb=>?_) (fun i c h _=>by cases h)
 ·rcases memc c hc with z | rfl
  ·exact kid c z
  ·exact stay c Qs
 ·have e:T.owns ch=T.owns (ch.take j)++T.owns (ch.drop j):=by rw [← T.owns_app,List.take_append_drop]
  rw [T.owns_app,e]
  refine Qw.mpr fun b=>?_
  simp only [T.owns,Jj,List.count_nil]
  omega
 ·rcases hb with hb | hb
  ·obtain ⟨c,hc,hz⟩:=T.mem_ros.mp hb
   rcases memc c hc with z | rfl
   ·exact .inl (T.mem_ros.mpr ⟨c,z,hz⟩)
   ·exact .inr (.inl (T.mem_ros.mpr ⟨c,Qs,hz⟩))
  ·exact .inr (.inl (by rw [T.ros_cons];exact Qf _ hb))
theorem Z294{f:AF}(σ:L2.St)(H:Hp)(Q:VK)(q:lE R ix (eIns f) σ H Q):lA R ix f σ H fun vs H1=>∃ a i y xs,vs=[.ref a,.int i,y]∧H1 a=some (.lst xs)∧0≤i∧i < 2 ^ 62∧xs.length < sizeLine∧Q .non (upd H1 a (.lst (xs.take i.toNat++y::xs.drop i.toNat))):=by
 obtain ⟨hd,ts,fr,C,q⟩:=q
 refine ⟨hd,ts,fr,C,?_⟩
 unfold eIns at q
 cases ef:f (ts.map TL.er) with
 | no=>rw [ef] at q;exact q
 | ex E s1=>rw [ef] at q;exact q
 | ok rs s1 =>
  rw [ef] at q
  intro H1 ts1 tvs vs e1 e2 hv C1
  subst e1 e2
  dsimp only at q
  cases ed:drefs (ts1.map TL.er) (tvs.map TV.er) with
  | none=>rw [ed] at q;exact q.elim
  | some ds =>
   rw [ed] at q
   dsimp only at q
   rcases Z248 (s1:=ts1.map TL.er) (rs:=tvs.map TV.er) (ds:=ds) with z | ⟨k,p,r1,x,l,i,dx,u,er,rfl,hk,hi,hz,ez⟩
   ·rw [z] at q;exact q.elim
   ·rw [ez] at q
    obtain ⟨lt,l1,l2,l3,l4,l5⟩:=Z104 C1 hv (T.oks_app.mp C1.fok).1 ed
    obtain ⟨tv0,tv1,tv2,rfl,f0,f1,f2⟩:=map3 er
    rw [T.ers_eq] at l1
    obtain ⟨t0,t1,t2,rfl,g0,g1,g2⟩:=map3 l1
    cases tv0 with
    | val t=>simp [TV.er] at f0
    | plc k0 p0 a0 =>
     simp only [TV.er,DV.plc.injEq] at f0
     obtain ⟨rfl,rfl⟩:=f0
     cases tv2 with
     | plc _ _ _=>simp [TV.er] at f2
     | val tx =>
      simp only [TV.er,DV.val.injEq] at f2
      subst f2
      rcases l5 0 _ t0 rfl rfl with z | ⟨k',p',a',w,u',z,hk',hp'⟩
      ·cases z
      ·cases z
       have hz2:t2=tx:=by
        rcases l5 2 _ t2 rfl rfl with z | ⟨_,_,_,_,_,z,_⟩
        ·cases z;rfl
        ·cases z
       subst hz2
       rw [Qa,hk'] at hk
       simp only [Option.map_some,TL.er,Option.some.injEq,DL.own.injEq] at hk
       obtain ⟨rfl,rfl⟩:=hk
       obtain ⟨a,ch,rfl,rfl⟩:=Z350 g0
       cases Z113 g1
       refine ⟨a,i,t2.val,ch.map T.val,by rw [← l2];rfl,l3.1.1,hi.1,hi.2,by simpa [Z117] using hz,?_⟩
       have C2:Cf R ix hd H1 σ ts1 (t2::fr):=by
        cases tv1 with
        | plc _ _ _=>exact C1
        | val t9=>exact Cf.drop (t:=t9) C1
       have W:=Z247 (j:=i.toNat) (m:=[]) C2 hk' hp'
       rw [Qv,Ql,List.map_take,List.map_drop] at W
       refine q _ _ (.val (.at .non)) .non ?_ rfl rfl (W.at .non)
       rw [wr_er hk']
       simp only [T.er,T.ers_eq,Qv,Ql,List.map_take,List.map_drop]
theorem Z373:MtM X "list.insert" (fun x vs H Q=>∃ l xs i y,x=.ref l∧vs=[.int i,y]∧H l=some (.lst xs)∧0≤i∧i < 2 ^ 62∧xs.length < sizeLine∧Q .non (upd H l (.lst (xs.take i.toNat++y::xs.drop i.toNat)))):=by
 intro pins s σ H x vs v us Q I rx rv h
 obtain ⟨l,xs,i,y,rfl,rfl,hH,h1,h2,hz,q⟩:=h
 cases rx
 cases rv with
 | cons r1 rv =>
  obtain ⟨t,rfl⟩:=r1
  obtain ⟨u,rfl,ru⟩:=vals1 rv
  obtain ⟨z,its,n,r,hl,e⟩:=I.lstM hH
  refine call_meets F.slot_list_insert ⟨_,e,rfl⟩ F.entry_list_insert (F.args_list_insert_3 _ _ _)
   (AutoSeq1.list_insert_list_int_val_1 l its.toArray n i t u (by rw [fitsIndex_both (by omega) (by omega)];exact Qt) (by rw [Jg];omega)) ⟨e,?_⟩
  refine ⟨.non,_,I.lset (its':=its.take i.toNat++u::its.drop i.toNat) hH e ?_ ((r.take _).append (.cons ru (r.drop _))) ?_,rfl,q⟩
  ·have hi:¬ i < 0:=by omega
   simp only [if_neg hi,Jg]
   apply Array.ext'
   rcases Nat.le_total i.toNat its.length with z | z
   ·rw [Nat.min_eq_left z];simp;exact List.take_of_length_le (by simp)
   ·rw [Nat.min_eq_right z];simp [List.take_of_length_le z,List.drop_of_length_le z]
  ·simp only [Qx,Jq,Wi,List.length_drop];omega
theorem Z514{o e e2:Expr}{apos cpos:Pos}{fo fe fe2:EF}(ho:PE X o (lE R ix fo))(he:PE X e (lE R ix fe))(he2:PE X e2 (lE R ix fe2))(hbase:attributeBase o "insert" X.env (eval o X.env)=eval o X.env:=by rfl)
  (hfew:((backTo cpos (starEach [e,e2] X.env)).all (fun x=>!x.1) && (backToKw cpos (keywordEach [] X.env)).all (fun x=>x.1.isSome) && decide ([e,e2].length + ([]:List Keyword).length + (if ([]:List Keyword).isEmpty then 0 else 1) < 30))=true:=by rfl)
  (hline:(apos.endLine == cpos.line)=true:=by rfl) (hs:starEach [e,e2] X.env=(false,eval e X.env)::starEach [e2] X.env:=by rfl) (hs2:starEach [e2] X.env=(false,eval e2 X.env)::starEach [] X.env:=by rfl) (hplain:(backTo cpos (starEach [e2] X.env)).any (·.1)=false:=by rfl) :
  PE X (.Call (.Attribute o "insert" apos) [e,e2] [] cpos) (lE R ix (eIns (aCons (eGuard isLst fo) (aCons fe (aCons fe2 aNil))))) :=
 peM (pe_bm PySem.F.plainAttrs_list PySem.F.slot_list_insert PySem.F.type_list_insert Z373 ho (Z445 he (Z445 he2 Z446 hs2) hs) hbase hfew hline hs hplain) fun σ H Q q=>by
  have q1:=lA_3 (Z294 σ H Q q)
  refine Z299 (fun x H1 q=>?_) (Z298 q1)
  obtain ⟨⟨t0,rfl,t2,t3⟩,q⟩:=q
  obtain ⟨a,m,ch,rfl,hD⟩:=Z351 (K:=X.K) t3 t2
  refine ⟨.inl ⟨rfl,_,hD⟩,Z299 (fun y H2 q=>Z299 (fun z H3 q=>?_) q) q⟩
  obtain ⟨a',i,y',xs,ev,h1,h2,h3,hz,qq⟩:=q
  simp only [Wk.injEq,and_true] at ev
  exact ⟨a',xs,i,y',ev.1,by rw [ev.2.1,ev.2.2],h1,h2,h3,hz,qq⟩
theorem Z145{f:AF}{s:Sd}:eIns f s=(match f s with
 | .ok rs s1=>(match drefs s1 rs with | some ds=>insGo s1 ds rs | none=>.no)
 | .ex C s1=>.ex C s1
 | .no=>.no):=id rfl
theorem Z146{s1:Sd}{k:Nat}{p:List Nat}{r x dx:_}{l:List D}{i:Int}:insGo s1 [.nd (.lst true) l,.at (.int i),dx] [.plc k p,r,.val x]=if ownW s1[k]?=true then insR s1 k p x l i else .no:=id rfl
end
end RM

namespace RM
open PySem PySem.Spec PyProof.Rows L2
theorem Z523{α:Type}(xs:List α):∀ n,n≤xs.length→((List.range n).map fun k=>n - 1 - k).filterMap (fun j=>xs[j]?)=(xs.take n).reverse:=by
 intro n
 induction n with
 | zero=>intro _;simp
 | succ n ih =>
  intro h
  rw [List.range_succ_eq_map,Ql,Jk]
  have e:(fun k=>n + 1 - 1 - k) ∘ Nat.succ=fun k=>n - 1 - k:=by funext k;simp only [Function.comp];omega
  rw [e,Wc]
  have h1:xs[n + 1 - 1 - 0]?=some xs[n]:=by simp [Qh (show n < xs.length by omega)]
  rw [h1]
  simp only
  rw [ih (by omega),Jv,Qh (show n < xs.length by omega)]
  simp only [Option.toList_some,List.reverse_append,List.reverse_cons,List.reverse_nil,Je,Wq]
theorem Z597(its:List Value):slicePick its.toArray none none (some (-1))=its.reverse.toArray:=by
 unfold slicePick
 congr 1
 have hb:sliceBounds none none (some (-1)) its.toArray.size=((its.length:Int) - 1,-1,-1):=by simp [sliceBounds]
 rw [hb]
 have hr:sliceRange ((its.length:Int) - 1) (-1) (-1)=(List.range its.length).map fun k=>its.length - 1 - k:=by
  unfold sliceRange
  simp only [show ¬ ((-1:Int) > 0) by decide,if_false]
  by_cases h0:its.length=0
  ·simp [h0]
  ·have hgt:(its.length:Int) - 1 > -1:=by omega
   simp only [hgt,if_true]
   have hc:((its.length:Int) - 1 - -1 - -1 - 1) / (- -1)=(its.length:Int):=by
    have:- (-1:Int)=1:=by decide
    rw [this,Int.ediv_one];omega
   rw [hc,Int.toNat_natCast]
   refine Wf fun k hk=>?_
   have:=Wv.mp hk
   omega
 rw [hr]
 have:=Z523 its its.length (Qu _)
 rw [Jy] at this
 simpa using this
section
variable {X:Cx}{e st:Expr}{te ts:TE}{p2 pos:Pos}
theorem Z465(he:PE X e te)(hst:PE X st ts):PE X (.Subscript e (.Slice none none (some st) p2) pos) (fun σ H Q=>te σ H fun x H1=>ts σ H1 fun y H2=>y=.int (-1)∧∃ a xs,x=.ref a∧SqL X.K H2 a xs∧∀ p,H2 p=none→Q (.ref p) (upd H2 p (.lst xs.reverse))):=by
 intro pins s σ H Q I h
 refine Subscript_ (thn (he pins s σ H _ I h) fun v s1 ⟨x,H1,I1,r1,q1⟩=>?_)
 refine wpAny_Slice ?_
 rw [evalPart_none]
 refine wpAny_pure (wpAny_pure ?_)
 rw [evalPart_some]
 refine thn (hst pins s1 σ H1 _ I1 q1) fun vy s3 ⟨y,H3,I3,ry,ey,a,xs,ex,hx,q⟩=>?_
 subst ey ex
 obtain ⟨t,rfl⟩:=ry
 cases r1
 have I4:Inv X pins σ H3 { s3 with heap:=s3.heap.push { cls:=.type "slice",data:=.fields #[.none,.none,.int (-1) t] } }:=I3.kept (t':=s3.toks) fun b ob q=>Heap.get?_push_of_some _ q
 obtain ⟨its,r,ht,hz⟩:=I4.list hx
 have hlen:=r.length
 show wpAny (model X.prog X.w) X.A (subscriptTail e (.Slice none none (some st) p2) (.ref a) (.ref s3.heap.objs.size)) (EP X pins σ Q) X.xe { s3 with heap:=s3.heap.push { cls:=.type "slice",data:=.fields #[.none,.none,.int (-1) t] } }
 refine tail_any (ops:=[.ref a,.ref s3.heap.objs.size]) ht.isList.typeIs slot_list_getitem.lookup ?_ (by with_unfolding_all rfl)
 refine wpAny_getItem_list_slice ht.isList (Heap.IsSliceOf.new ..) .none .none (.int _ _) (by decide) ?_ (by rw [Jg] <;> omega)
 rw [Z597]
 refine ⟨.ref _,_,I4.laid (t':=s3.toks) (o:=.lst xs.reverse) (fun b ob q=>Heap.get?_push_of_some _ q) (Qu _) ?_,rfl,q _ (I4.hok.fresh (Qu _))⟩
 exact ⟨by simpa using hz,_,0,r.reverse,Heap.get?_push_size _ rfl⟩
end
section
variable {X:Cx}{R:RC}{ix:List Nat}{e st:Expr}{p2 pos:Pos}
noncomputable def hRev:List D→Option D
 | [.nd (.lst _) l,.at (.int i)]=>if D.imms l=true∧i=-1 then some (.nd (.lst true) l.reverse) else none
 | _=>none
theorem Z522{x y:V}{H:Hp}{Q:VK}(h:gNw hRev [x,y] H Q):∃ (a:Addr) (ch:List T),x=.ref a∧y=.int (-1)∧SqL X.K H a (ch.map T.val)∧∀ p,H p=none→Q (.ref p) (upd H p (.lst (ch.map T.val).reverse)):=by
 obtain ⟨t,u,ht,hu,rfl,rfl,d,hh,q⟩:=gNw2 h
 unfold hRev at hh
 split at hh
 case h_2=>cases hh
 case h_1 m l i e =>
  simp only [Wk.injEq,and_true] at e
  obtain ⟨a,ch,rfl,rfl⟩:=Z350 e.1
  cases Z113 e.2
  split at hh
  case isFalse=>cases hh
  case isTrue hz =>
   cases hh
   refine ⟨a,ch,rfl,by rw [hz.2];rfl,ht.1.sqL,fun p hp=>?_⟩
   have:=q (.nd p (.lst true) ch.reverse) _ (by simp [T.er,T.ers_eq]) (Z397 (o:=.lst (ch.reverse.map T.val)) hp Z647 (.inl rfl) (fun t z=>⟨T.oks_iff.mp ht.2 t (List.mem_reverse.mp z),Z236 hz.1 t (List.mem_reverse.mp z)⟩) fun b hb=>by
     obtain ⟨t,h1,h2⟩:=T.mem_ros.mp hb
     have:b∈T.ros ch:=T.mem_ros.mpr ⟨t,List.mem_reverse.mp h1,h2⟩
     simp [T.ros,T.ro,this])
   rw [List.map_reverse] at this
   exact this
theorem Z517{f g:EF}(he:PE X e (lE R ix f))(hst:PE X st (lE R ix g)):PE X (.Subscript e (.Slice none none (some st) p2) pos) (lE R ix (eNw hRev (aCons f (aCons g aNil)))) :=
 peM (Z465 he hst) fun σ H Q q=>Z299 (fun x H1 z=>Z299 (fun y H2 z=>by
  obtain ⟨a,ch,rfl,rfl,hs,q⟩:=Z522 (X:=X) z
  exact ⟨rfl,a,_,rfl,hs,q⟩) z) (lA_2 (lA_nw σ H Q q))
end
end RM

namespace RM
open PySem PySem.Spec PyProof.Rows L2
noncomputable def asg2(n:Nat):Sd→DV→Option Sd:=tgT (tgC (asgD (n + 1)) (tgC (asgD n) tgN))
noncomputable def compGo2(it:Nat→Sd→Option (Option DV))(n:Nat)(c:BF)(e:EF):Nat→Nat→List D→Sd→ER (List D)
 | 0,_,_,_=>.no
 | m + 1,i,acc,s=>match it i s with
  | none=>.no
  | some none=>.ok acc s
  | some (some r)=>match asg2 n s r with
   | none=>.no
   | some s1=>match c s1 with
    | .ok true s2=>(match e s2 with
     | .ok (.val d) s3=>if acc.length < sizeLine then compGo2 it n c e m (i + 1) (acc++[d]) s3 else .no
     | _=>.no)
    | .ok false s2=>compGo2 it n c e m (i + 1) acc s2
    | _=>.no
noncomputable def compFin3(n:Nat):ER (List D)→ER DV
 | .ok l s=>(match popD (n + 2) s with | some s1=>compFin2 n (.ok l s1) | none=>.no)
 | _=>.no
noncomputable def eComp2(f:EF)(c:Nat→BF)(e:Nat→EF):EF:=fun s=>match f s with
 | .ok (.plc k p) s1=>(match seqOf (dref s1 (.plc k p)) with
  | some (t,m)=>compFin3 s1.length (compGo2 (itP t s1.length k p) (s1.length + 1) (c (s1.length + 1)) (e (s1.length + 1)) (m + 1) 0 [] (s1++[.bor k p,.non,.non]))
  | none=>.no)
 | .ok (.val d) s1=>(match seqOf (some d) with
  | some (t,m)=>compFin3 s1.length (compGo2 (itP t s1.length s1.length []) (s1.length + 1) (c (s1.length + 1)) (e (s1.length + 1)) (m + 1) 0 [] (s1++[.own true d,.non,.non]))
  | none=>.no)
 | .ex C s1=>.ex C s1
 | .no=>.no
section
variable {R:RC}{ix:List Nat}{hd:List (Nat×Addr)}{X:Cx}{H H':Hp}{σ:L2.St}{ts:Ts}{fr:List T}
end
end RM

namespace RM
open PySem PySem.Spec PyProof.Rows L2
section
variable {X:Cx}{R:RC}{ix:List Nat}
theorem Z127{f:EF}{c:Nat→BF}{e:Nat→EF}{s:Sd}:eComp2 f c e s=(match f s with
 | .ok (.plc k p) s1=>(match seqOf (dref s1 (.plc k p)) with
  | some (t,m)=>compFin3 s1.length (compGo2 (itP t s1.length k p) (s1.length + 1) (c (s1.length + 1)) (e (s1.length + 1)) (m + 1) 0 [] (s1++[.bor k p,.non,.non]))
  | none=>.no)
 | .ok (.val d) s1=>(match seqOf (some d) with
  | some (t,m)=>compFin3 s1.length (compGo2 (itP t s1.length s1.length []) (s1.length + 1) (c (s1.length + 1)) (e (s1.length + 1)) (m + 1) 0 [] (s1++[.own true d,.non,.non]))
  | none=>.no)
 | .ex C s1=>.ex C s1
 | .no=>.no):=id rfl
end
end RM

namespace RM
open PySem PySem.Spec PyProof.Rows L2
theorem Z348{it:Nat→Sd→Option (Option DV)}{b:Sd→DV→Option Sd}{body:SF}{P:Nat→Sd→Prop}{Q:SR→Prop}{n:Nat}
  (hs:∀ i s,i < n→P i s→∃ r s1,it i s=some (some r)∧b s r=some s1∧((∃ s2,(body s1=.nx s2∨body s1=.ct s2)∧P (i + 1) s2)∨∃ x s2,body s1=.rt x s2∧Q (.rt x s2))) (he:∀ s,P n s→it n s=some none) :
  ∀ m i s,i + m=n→P i s→(∃ s',loopG it b body (m + 1) i s=.nx s'∧P n s')∨∃ x s',loopG it b body (m + 1) i s=.rt x s'∧Q (.rt x s')
 | 0,i,s,hi,h=>by
  have:i=n:=by omega
  subst this
  exact .inl ⟨s,by simp only [loopG,he s h],h⟩
 | m + 1,i,s,hi,h=>by
  obtain ⟨r,s1,h1,h2,h3⟩:=hs i s (by omega) h
  rcases h3 with ⟨s2,h3,h4⟩ | ⟨x,s2,h3,h4⟩
  ·have e:loopG it b body (m + 1 + 1) i s=loopG it b body (m + 1) (i + 1) s2:=by
    conv=>lhs;unfold loopG
    rw [h1];dsimp only;rw [h2];dsimp only
    rcases h3 with h3 | h3 <;> rw [h3]
   rw [e]
   exact Z348 hs he m (i + 1) s2 (by omega) h4
  ·refine .inr ⟨x,s2,?_,h4⟩
   conv=>lhs;unfold loopG
   rw [h1];dsimp only;rw [h2];dsimp only;rw [h3]
theorem Z344{t:Bool}{n k:Nat}{p:List Nat}{l:List D}{kd:NK}{b:Sd→DV→Option Sd}{body:SF}{s:Sd}(hk:t=false∧(∃ m,kd=.lst m)∨t=true∧kd=.tup)(P:Nat→Sd→Prop)(Q:SR→Prop)(h0:P 0 s)
  (hh:∀ i s,P i s→held n k p s=true∧dref s (.plc k p)=some (.nd kd l))
  (hs:∀ (i:Nat) s c,l[i]?=some c→P i s→∃ s1,b s (mkV k (p++[i]) c)=some s1∧((∃ s2,(body s1=.nx s2∨body s1=.ct s2)∧P (i + 1) s2)∨∃ x s2,body s1=.rt x s2∧Q (.rt x s2))) :
  (∃ s',loopG (itP t n k p) b body (l.length + 1) 0 s=.nx s'∧P l.length s')∨∃ x s',loopG (itP t n k p) b body (l.length + 1) 0 s=.rt x s'∧Q (.rt x s'):=by
 have it:∀ i s,P i s→itP t n k p i s=some ((l[i]?).map (mkV k (p++[i]))):=by
  intro i s h
  obtain ⟨h1,h2⟩:=hh i s h
  unfold itP
  rw [h1,h2]
  rcases hk with ⟨rfl,m,rfl⟩ | ⟨rfl,rfl⟩ <;> rfl
 refine Z348 (P:=P) (fun i s hi h=>?_) (fun s h=>?_) l.length 0 s (by omega) h0
 ·obtain ⟨s1,h1,h2⟩:=hs i s l[i] (Qh hi) h
  exact ⟨_,s1,by rw [it i s h,Qh hi];rfl,h1,h2⟩
 ·rw [it _ s h,Jm (Qu _)];rfl
end RM

namespace RM
open PySem PySem.Spec PyProof.Rows L2
noncomputable def ownT:Option DL→Option D
 | some (.own true d)=>some d
 | _=>none
theorem Z443{o:Option DL}{d:D}(h:ownT o=some d):o=some (.own true d):=by
 unfold ownT at h
 split at h
 ·cases h;rfl
 ·cases h
noncomputable def grA(j:Nat)(s1:Sd)(k:Nat)(p:List Nat):Option D→SR
 | some d=>(match asL d,ownT s1[j]?,ownT s1[k]? with
  | some l,some t,some _=>if k≠j∧t.imm=false∧l.length < sizeLine then .nx (graftS j k p (.nd (.lst true) (l++[t])) l.length s1) else .no
  | _,_,_=>.no)
 | none=>.no
noncomputable def sGrA(j:Nat)(f:EF):SF:=fun s=>match f s with
 | .ok (.plc k p) s1=>grA j s1 k p (dref s1 (.plc k p))
 | .ok _ _=>.no
 | .ex C s1=>.ex C s1
 | .no=>.no
theorem Z142{j:Nat}{f:EF}{s:Sd}:sGrA j f s=(match f s with
 | .ok (.plc k p) s1=>grA j s1 k p (dref s1 (.plc k p))
 | .ok _ _=>.no
 | .ex C s1=>.ex C s1
 | .no=>.no):=id rfl
theorem Z143{j k:Nat}{p:List Nat}{s1:Sd}{l:List D}:grA j s1 k p (some (.nd (.lst true) l))=(match ownT s1[j]?,ownT s1[k]? with
  | some t,some _=>if k≠j∧t.imm=false∧l.length < sizeLine then .nx (graftS j k p (.nd (.lst true) (l++[t])) l.length s1) else .no
  | _,_=>.no):=by
 unfold grA
 dsimp only
 rw [show asL (.nd (.lst true) l)=some l from rfl]
 cases ownT s1[j]? <;> cases ownT s1[k]? <;> rfl
theorem Z208{j k:Nat}{p:List Nat}{s1:Sd}{o:Option D}:grA j s1 k p o=.no∨∃ l t u,o=some (.nd (.lst true) l)∧s1[j]?=some (.own true t)∧s1[k]?=some (.own true u)∧k≠j∧t.imm=false∧l.length < sizeLine∧grA j s1 k p o=.nx (graftS j k p (.nd (.lst true) (l++[t])) l.length s1):=by
 cases o with
 | none=>exact .inl rfl
 | some d =>
  cases h1:asL d with
  | none=>left;unfold grA;dsimp only;rw [h1]
  | some l =>
   cases h2:ownT s1[j]? with
   | none=>left;unfold grA;dsimp only;rw [h1,h2]
   | some t =>
    cases h3:ownT s1[k]? with
    | none=>left;unfold grA;dsimp only;rw [h1,h2,h3]
    | some u =>
     by_cases hz:k≠j∧t.imm=false∧l.length < sizeLine
     ·right
      exact ⟨l,t,u,by rw [Z17 h1],Z443 h2,Z443 h3,hz.1,hz.2.1,hz.2.2,by unfold grA;dsimp only;rw [h1,h2,h3];dsimp only;rw [if_pos hz]⟩
     ·left;unfold grA;dsimp only;rw [h1,h2,h3];dsimp only;rw [if_neg hz]
section
variable {R:RC}{ix:List Nat}{hd:List (Nat×Addr)}{X:Cx}{H H1:Hp}{σ:L2.St}{ts:Ts}{fr:List T}
theorem Z309{f:EF}{i j:Nat}(hix:ix[i]?=some j)(hnd:ix.Nodup)(D:Ends)(σ:L2.St)(H:Hp)(h:lS R ix (sGrA j f) D σ H) :
  lE R ix f σ H fun x H1=>∃ a xs v,x=.ref a∧σ[i]?=some (some v)∧H1 a=some (.lst xs)∧xs.length < sizeLine∧D.nx σ (upd H1 a (.lst (xs++[v]))):=by
 obtain ⟨hd,ts,fr,C,q⟩:=h
 refine ⟨hd,ts,fr,C,?_⟩
 unfold sGrA at q
 cases ef:f (ts.map TL.er) with
 | no=>rw [ef] at q;exact q
 | ex E s1=>rw [ef] at q;intro H1 ts1 e1 C1;exact q H1 σ ts1 e1 C1
 | ok r s1 =>
  rw [ef] at q
  intro H1 ts1 tv v e1 e2 hv C1
  subst e1
  cases r with
  | val d=>exact q.elim
  | plc k p =>
   obtain ⟨a,rfl,rfl,hp⟩:=hv.er_plc e2
   dsimp only at q
   rcases Z208 (j:=j) (k:=k) (p:=p) (s1:=ts1.map TL.er) (o:=dref (ts1.map TL.er) (.plc k p)) with z | ⟨l,td,ud,h1,hj,hk,hkj,him,hz,ez⟩
   ·rw [z] at q;exact q.elim
   ·rw [ez] at q
    obtain ⟨w,t,s,q1,q2,q3⟩:=hp
    have hd1:dref (ts1.map TL.er) (.plc k p)=some s.er:=by simp only [dref,Qa,q1,Option.map_some,TL.er,T.get_er,q2]
    rw [hd1] at h1
    obtain ⟨a',ch,rfl,rfl⟩:=Z350 (Option.some.inj h1)
    cases q3
    rw [Qa,q1] at hk
    simp only [Option.map_some,TL.er,Option.some.injEq,DL.own.injEq] at hk
    obtain ⟨rfl,rfl⟩:=hk
    rw [Qa] at hj
    cases ej1:ts1[j]? with
    | none=>rw [ej1] at hj;cases hj
    | some y1 =>
     rw [ej1] at hj
     cases y1 with
     | non=>cases hj
     | bor _ _ _=>cases hj
     | own w1 tt =>
      simp only [Option.map_some,TL.er,Option.some.injEq,DL.own.injEq] at hj
      obtain ⟨rfl,rfl⟩:=hj
      have hσ:=C1.sl i j _ _ hix ej1 rfl
      obtain ⟨at',hat⟩:=Z677 tt him
      have C0:Cf R ix hd H1 σ ts1 fr:=C1
      have ok0:=C0.ok true tt (Qg ej1)
      have sok:=T.get_ok q2 (C0.ok true t (Qg q1))
      have C2:Cf R ix hd H1 σ ((ts1.set j (.own true (T.put (.at (.ref at')) [] tt))).map (killT j [] fun _=>false)) (tt::fr):=Cf.exch (s:=tt) (x:=[]) C0 ej1 rfl (by rw [hat];rfl) trivial ⟨ok0,C0.fok⟩ (by simp [T.own,T.owns_cons]) (fun x hx=>by
       rcases hx with hx | hx
       ·simp [T.ro] at hx
       ·rw [T.ros_cons] at hx;exact Qe.mp hx)
      have hk2:((ts1.set j (.own true (T.put (.at (.ref at')) [] tt))).map (killT j [] fun _=>false))[k]?=some (.own true t):=by
       rw [Qa,Qm,if_neg (Ne.symm hkj),q1];rfl
      have ho:HoOk (.lst (ch.map T.val++[tt.val])) (.lst true) (ch.map T.val++[tt.val]):=rfl
      have W:=Z0 (tvs:=[.val tt]) (m:=0) (fr:=fr) C2 hk2 q2 rfl rfl ho
      have hkk:((((ts1.set j (.own true (T.put (.at (.ref at')) [] tt))).map (killT j [] fun _=>false)).set k (.own true (T.put (.nd a (.lst true) (ch++[tt])) p t))).map (killT k p fun _=>true))[k]?=some (.own true (T.put (.nd a (.lst true) (ch++[tt])) p t)):=by
       rw [Qa,Qm,if_pos rfl,if_pos (Qc.mp hk2).1];rfl
      have hgt:(T.put (.nd a (.lst true) (ch++[tt])) p t).get (p++[ch.length])=some tt:=by
       rw [Z205 q2]
       simp [T.get]
      have W2:=Cf.slot (i:=i) (j:=j) (y:=.bor k (p++[ch.length]) at') (m:=[]) (v:=.ref at') (fr:=fr) W hix hnd rfl (.inr ⟨rfl,k,_,at',rfl,hkj,true,_,tt,hkk,hgt,hat⟩)
      have hσ2:σ.set i (some (.ref at'))=σ:=by
       refine Jz fun n=>?_
       rw [Qm]
       by_cases hn:i=n
       ·subst hn
        rw [if_pos rfl,if_pos (Qc.mp hσ).1,hσ,hat]
       ·rw [if_neg hn]
      rw [hσ2] at W2
      refine ⟨a,ch.map T.val,tt.val,rfl,hσ,sok.1,by simpa [Z117] using hz,?_⟩
      refine q _ _ _ ?_ W2
      unfold graftS
      have w1:=wr_er (p:=[]) (s':=T.at (.ref at')) (keep:=fun _=>false) ej1
      have w2:=wr_er (p:=p) (s':=.nd a (.lst true) (ch++[tt])) (keep:=fun _=>true) hk2
      rw [w1] at w2
      rw [Wa,Jk]
      have un:∀ l:Ts,l.map (TL.er ∘ unrootT j)=(l.map TL.er).map (unrootD j):=fun l=>by
       rw [Jk];exact Wf fun s _=>Z643 s
      rw [un,w2]
      simp only [T.er,Z116,T.ers,TL.er,Z117,cl,hole]
theorem Z537{o e:Expr}{apos cpos pos:Pos}{fo:EF}{i j:Nat}(ho:PE X o (lE R ix fo))(he:PE X e (tVar i))(hix:ix[i]?=some j)(hnd:ix.Nodup)(hbase:attributeBase o "append" X.env (eval o X.env)=eval o X.env:=by rfl)
  (hfew:((backTo cpos (starEach [e] X.env)).all (fun x=>!x.1) && (backToKw cpos (keywordEach [] X.env)).all (fun x=>x.1.isSome) && decide ([e].length + ([]:List Keyword).length + (if ([]:List Keyword).isEmpty then 0 else 1) < 30))=true:=by rfl)
  (hline:(apos.endLine == cpos.line)=true:=by rfl) (hs:starEach [e] X.env=(false,eval e X.env)::starEach [] X.env:=by rfl) (hplain:(backTo cpos (starEach [] X.env)).any (·.1)=false:=by rfl)
  (hsw:swapsWith (.Call (.Attribute o "append" apos) [e] [] cpos) none pos.line X.env=pure false:=by rfl) :
  PS X (.Expr (.Call (.Attribute o "append" apos) [e] [] cpos) pos) (lS R ix (sGrA j fo)) :=
 psM (Z483 (pe_bm PySem.F.plainAttrs_list PySem.F.slot_list_append PySem.F.type_list_append Z372 ho (Z445 he Z446 hs) hbase hfew hline hs hplain) hsw) fun D σ H h=>by
  refine Z299 (fun x H1 q=>?_) (Z309 hix hnd D σ H h)
  obtain ⟨a,xs,v,rfl,hσ,h1,h2,q⟩:=q
  exact ⟨.inl ⟨rfl,xs,.of h1⟩,v,hσ,a,xs,v,rfl,rfl,h1,h2,q⟩
end
end RM

namespace RM
open PySem PySem.Spec PyProof.Rows L2
noncomputable def del(H:Hp)(a:Addr):Hp:=fun b=>if b=a then none else H b
theorem Z93{H:Hp}{a:Addr}:del H a a=none:=if_pos rfl
theorem Z91{H:Hp}{a b:Addr}(h:b≠a):del H a b=H b:=if_neg h
theorem Z92{H:Hp}{a b:Addr}(h:H b=none):del H a b=none:=by
 unfold del;split
 ·rfl
 ·exact h
theorem Z400{H:Hp}{a b:Addr}{u:HO}(h:del H a b=some u):b≠a∧H b=some u:=by
 by_cases e:b=a
 ·subst e;rw [Z93] at h;cases h
 ·rw [Z91 e] at h;exact ⟨e,h⟩
theorem is_kV{P:Program}{w:World}{k:Key}{u:Value}(h:(mixKind P w).is k u=true):RelV (kV k) u:=by
 rcases Z273 h with ⟨i,t,rfl,rfl⟩ | ⟨x,t,rfl,rfl⟩
 ·exact ⟨t,rfl⟩
 ·exact ⟨t,rfl⟩
theorem Z289{k:Key}{y:V}:∀ {kvs:List (Key×V)} {vs:List (Key×Value)} {i:Nat},KV kvs vs→kvs[i]?=some (k,y)→∃ u,vs[i]?=some (k,u)∧RelV y u
 | _,_,0,.cons (a:=p) (b:=q) h _,e=>by
  cases e
  obtain ⟨k',u⟩:=q
  cases h.1
  exact ⟨u,rfl,h.2⟩
 | _,_,i + 1,.cons _ r,e=>Z289 (i:=i) r (by simpa using e)
section
variable {X:Cx}{pins:List (Addr×Obj)}{σ σ0:L2.St}{H H0:Hp}{s s0:Shared}{a:Addr}{o:Obj}{kvs:List (Key×V)}
theorem Z251(I:Inv X pins σ H s){u:HO}(ha:H a=some u):a∉X.fs:=fun hb=>by
 obtain ⟨_,ob,ho,_⟩:=I.ok.funs.mem hb
 rw [I.base.free a ob ho (I.ok.frf a hb) fun z=>I.ok.exfs a z hb] at ha
 cases ha
theorem Z253(I:Inv X pins σ H s)(ha:H a=some (.dK kvs))(ho:s.heap.get? a=some o)(hd:∀ v,o.data≠.cell v):Inv X (pins++[(a,o)]) σ (del H a) s:=by
 have neL:a≠X.env.locals:=fun z=>by rw [z,I.free] at ha;cases ha
 refine ⟨I.ok,I.os,I.bare,⟨I.base.keep,I.base.slot,fun b ob e n hx=>Z92 (I.base.free b ob e n hx),I.base.there,fun b xs e=>?_,fun b ob u e=>?_,fun b ps e=>?_⟩,I.loc,I.cell,Z92 I.free,fun x c e=>Z92 (I.freeC x c e),fun p hp=>?_,fun b u e=>?_,I.len⟩
 ·have z:=I.base.tups b xs e
  rw [Z91 (by rintro rfl;rw [ha] at z;cases z)];exact z
 ·have z:=I.base.frzs b ob u e
  rw [Z91 (by rintro rfl;rw [ha] at z;cases z)];exact z
 ·obtain ⟨m,z⟩:=I.base.tbls b ps e
  exact ⟨m,by rw [Z91 (by rintro rfl;rw [ha] at z;cases z)];exact z⟩
 ·rw [← Qq] at hp
  rcases Qe.mp hp with hp | hp
  ·obtain ⟨h1,h2,h3⟩:=I.pin p hp
   exact ⟨h1,Z92 h2,h3⟩
  ·have e:p=(a,o):=by simpa using hp
   subst e
   exact ⟨ho,Z93,neL,Z251 I ha,hd⟩
 ·obtain ⟨ne,e⟩:=Z400 e
  refine (I.hok b u e).stay (fun c v _ q=>q) (fun c q=>?_) fun c xs q=>?_
  ·rw [Z91 (by rintro rfl;rw [ha] at q;cases q)];exact q
  ·rw [Z91 (by rintro rfl;rw [ha] at q;cases q)];exact q
theorem Z250(I0:Inv X pins σ0 H0 s0)(ha:H0 a=some (.dK kvs))(ho:s0.heap.get? a=some o)(I:Inv X (pins++[(a,o)]) σ H s):Inv X pins σ (upd H a (.dK kvs)) s:=by
 have pa:=I.pin (a,o) (by simp)
 have hn:H a=none:=pa.2.1
 refine ⟨I.ok,I.os,I.bare,⟨I.base.keep,I.base.slot,fun b ob e n hx=>?_,I.base.there,fun b xs e=>?_,fun b ob u e=>?_,fun b ps e=>?_⟩,I.loc,I.cell,?_,fun x c e=>?_,fun p hp=>?_,fun b u e=>?_,I.len⟩
 ·have z:=I0.base.free b ob e n hx
  rw [Z646 (by rintro rfl;rw [ha] at z;cases z)];exact I.base.free b ob e n hx
 ·have z:=I.base.tups b xs e
  rw [Z646 (by rintro rfl;rw [hn] at z;cases z)];exact z
 ·have z:=I.base.frzs b ob u e
  rw [Z646 (by rintro rfl;rw [hn] at z;cases z)];exact z
 ·obtain ⟨m,z⟩:=I.base.tbls b ps e
  exact ⟨m,by rw [Z646 (by rintro rfl;rw [hn] at z;cases z)];exact z⟩
 ·rw [Z646 (Ne.symm pa.2.2.1)];exact I.free
 ·have z:=I0.freeC x c e
  rw [Z646 (by rintro rfl;rw [ha] at z;cases z)];exact I.freeC x c e
 ·have z:=(I0.pin p hp).2.1
  have q:=I.pin p (by rw [← Qq];exact Qi _ hp)
  exact ⟨q.1,by rw [Z646 (by intro e;rw [e,ha] at z;cases z)];exact q.2.1,q.2.2⟩
 ·by_cases hb:b=a
  ·subst hb
   rw [Z647] at e
   cases e
   obtain ⟨z,hd,vs,rel,ob,es,ep,e1,r⟩:=dk_rd I0.hok (.inl ha)
   rw [ho] at e1
   cases e1
   exact ⟨z,hd,vs,rel,_,es,ep,pa.1,r⟩
  ·rw [Z646 hb] at e
   refine (I.hok b u e).stay (fun c v _ q=>q) (fun c q=>?_) fun c xs q=>?_
   ·rw [Z646 (by rintro rfl;rw [hn] at q;cases q)];exact q
   ·rw [Z646 (by rintro rfl;rw [hn] at q;cases q)];exact q
theorem Z374:MtR X "dict.items" (fun x xs H Q=>∃ a kvs,x=.ref a∧xs=[]∧H a=some (.dK kvs)∧∀ p,H p=none→Q (.ref p) (upd H p (.ext fun h=>h.IsItemsView p a))):=by
 intro pins s σ H x xs v us Q I rx r h
 obtain ⟨a,kvs,rfl,rfl,ha,q⟩:=h
 cases r
 cases rx
 obtain ⟨z,hd,vs,rel,dd⟩:=dk_rd I.hok (.inl ha)
 refine call_meetsIn PySem.F.slot_dict_items dd.typeIs PySem.F.entry_dict_items (PySem.F.args_dict_items_1 _) (meets_dict_items (mixKind X.prog X.w) a hd) ⟨⟨vs,dd⟩,?_⟩
 refine ⟨.ref s.heap.objs.size,_,I.laid (t':=s.toks) (fun b o e=>Heap.get?_push_of_some _ e) (Qu _) ?_,rfl,q _ (I.hok.fresh (Qu _))⟩
 refine ⟨⟨_,Heap.get?_push_size _ rfl,rfl,rfl⟩,⟨_,Heap.get?_push_size _ rfl⟩,fun h1 h2 ⟨o,e,x⟩ k=>⟨o,k o e,x⟩⟩
noncomputable def tForD(K:Qd)(to:TE)(g:TG)(tb:L2.TS):L2.TS:=fun D σ H=>to σ H fun x H1=>tyV K "dict" x H1∧∃ (a:Addr) (kvs:List (Key×V)),x=.ref a∧[]=([]:List V)∧H1 a=some (.dK kvs)∧∀ p,H1 p=none→∃ W:Nat→L2.St→Hp→Prop,W 0 σ (del (upd H1 p (.ext fun h=>h.IsItemsView p a)) a) ∧
 ∀ i σ H,H a=none→W i σ H→(kvs.length≤i→D.nx σ (upd H a (.dK kvs)))∧∀ k y,kvs[i]?=some (k,y)→∀ b,H b=none→g (.ref b) σ (upd H b (.tup [kV k,y])) fun σ2 H2=>tb { nx:=W (i + 1),ct:=W (i + 1),bk:=fun σ H=>H a=none→D.nx σ (upd H a (.dK kvs)),rt:=fun _ _=>False } σ2 H2
noncomputable def ItemsQ(D:Ends)(g:TG)(tb:L2.TS)(σ:L2.St):VK:=fun v H2=>∃ (p a:Addr) (kvs:List (Key×V)) (H1:Hp),v=.ref p∧H1 p=none∧H1 a=some (.dK kvs)∧H2=upd H1 p (.ext fun h=>h.IsItemsView p a)∧∃ W:Nat→L2.St→Hp→Prop,W 0 σ (del H2 a) ∧
 ∀ i σ H,H a=none→W i σ H→(kvs.length≤i→D.nx σ (upd H a (.dK kvs)))∧∀ k y,kvs[i]?=some (k,y)→∀ b,H b=none→g (.ref b) σ (upd H b (.tup [kV k,y])) fun σ2 H2=>tb { nx:=W (i + 1),ct:=W (i + 1),bk:=fun σ H=>H a=none→D.nx σ (upd H a (.dK kvs)),rt:=fun _ _=>False } σ2 H2
theorem Z485{oe:Expr}{to:TE}{elts:List Expr}{x1:Nat}{tpos apos cpos pos:Pos}{body:List Stmt}{g:TG}{tb:L2.TS}(hp:PassesOwn (model X.prog X.w) X.A X.env X.xe)(hc:X.calm=true)(ho:PE X oe to)(hg:PG X (.Tuple elts x1 tpos) g)(hb:PSs X body tb)
  (hmono:∀ σ H (Q Q':VK),(∀ x H1,Q x H1→Q' x H1)→to σ H Q→to σ H Q')
  (hbase:attributeBase oe "items" X.env (eval oe X.env)=eval oe X.env:=by rfl) (hline:(apos.endLine == cpos.line)=true:=by rfl)
  (hs:∀ x,foldedSetIterable (.Call (.Attribute oe "items" apos) [] [] cpos) X.env x=pure x:=by intro _;rfl) :
  PS X (.For (.Tuple elts x1 tpos) (.Call (.Attribute oe "items" apos) [] [] cpos) body [] pos) (tForD X.K to g tb):=by
 intro pins s σ H D I h
 have h':tBM0 X.K "dict" (fun x xs H Q=>∃ a kvs,x=.ref a∧xs=[]∧H a=some (.dK kvs)∧∀ p,H p=none→Q (.ref p) (upd H p (.ext fun h=>h.IsItemsView p a))) to σ H (ItemsQ D g tb σ):=by
  refine hmono _ _ _ _ (fun x H1 q=>?_) h
  obtain ⟨ty,a,kvs,e1,e2,e3,q⟩:=q
  exact ⟨ty,a,kvs,e1,e2,e3,fun p hp=>⟨p,a,kvs,H1,rfl,hp,e3,rfl,q p hp⟩⟩
 refine wpAny_For (thn (Z452 PySem.F.plainAttrs_dict PySem.F.slot_dict_items PySem.F.type_dict_items Z374 ho hbase hline pins s σ H _ I h') fun v s1 ⟨x,H2,I1,r1,q1⟩=>?_) hs
 obtain ⟨p,a,kvs,H1,rfl,hpn,ha1,rfl,W,w0,turn⟩:=q1
 cases r1
 have hpa:a≠p:=by rintro rfl;rw [hpn] at ha1;cases ha1
 have ha2:upd H1 p (.ext fun h=>h.IsItemsView p a) a=some (.dK kvs):=by rw [Z646 hpa];exact ha1
 have hvw:s1.heap.IsItemsView p a:=(I1.hok p _ Z647).1
 obtain ⟨z,hd,vs,rel,dd⟩:=dk_rd I1.hok (.inl ha2)
 obtain ⟨oa,es,ep,e1,e2,e3,e4,e5,e6⟩:=id dd
 have hat:s1.heap.DictAt (mixKind X.prog X.w) a vs ep:=⟨oa,es,e1,e2,e3,e4,e5,e6⟩
 have It:Inv X (pins++[(a,oa)]) σ (del (upd H1 p (.ext fun h=>h.IsItemsView p a)) a) s1:=Z253 I1 ha2 e1 (fun v z=>by rw [e3] at z;cases z)
 have hlen:kvs.length=vs.length:=rel.length
 refine wpAny_pyIter_items hvw hat ?_
 have fp:∀ {H':Hp},H' s1.heap.objs.size=none→FpOk X (pins++[(a,oa)]) H' s1.heap.objs.size:=fun hn=>It.fpOk (Qu _) hn
 have hia:a≠s1.heap.objs.size:=Jo hat.lt_size
 refine codeAny_forLoop_any (fun n s'=>∃ i σ' H',n=kvs.length - i∧i≤kvs.length∧Inv X (pins++[(a,oa)]) σ' H' s'∧(∃ ok ov,IsItemIter s'.heap s1.heap.objs.size a i vs.length ep ok ov)∧H' s1.heap.objs.size=none∧W i σ' H') ?_ kvs.length ⟨0,σ,_,by simp,Nat.zero_le _,It.kept (t':=s1.toks) (fun b o e=>Heap.get?_push_of_some _ e),⟨_,_,Heap.get?_push_size _ rfl⟩,It.hok.fresh (Qu _),w0⟩
 rintro n s3 ⟨i,σ3,H3,rfl,hi,I3,⟨ok,ov,it3⟩,hn3,w3⟩
 have pa:=I3.pin (a,oa) (by simp)
 have hat3:s3.heap.DictAt (mixKind X.prog X.w) a vs ep:=⟨oa,es,pa.1,e2,e3,e4,e5,e6⟩
 obtain ⟨t1,t2⟩:=turn i σ3 H3 pa.2.1 w3
 by_cases hlt:i < kvs.length
 ·obtain ⟨⟨k,y⟩,hk⟩:∃ q,kvs[i]?=some q:=⟨_,Qh hlt⟩
  obtain ⟨u,hu,ru⟩:∃ u,vs[i]?=some (k,u)∧RelV y u:=Z289 rel hk
  refine wpAny_passesOwn hp (wpAny_pyNext_items_item it3 hat3 hu fun key h4 hkey ho4 hT4 hz4 hk4=>?_)
  refine wpAny_passesOwn hp (wpAny_letOwnedTupleGo_items ho4 fun h5 he5 hs5=>?_)
  have hlt3:s1.heap.objs.size < s3.heap.objs.size:=Heap.lt_size it3
  have hT5:h5.get? s3.heap.objs.size=some { cls:=.type "tuple",data:=.seq #[key,u] }:=(hs5.2 _ (Nat.ne_of_gt hlt3)).trans hT4
  have I5:Inv X (pins++[(a,oa)]) σ3 (upd H3 s3.heap.objs.size (.tup [kV k,y])) { s3 with heap:=h5,toks:=s3.toks }:=Z254 I3 (e:=s1.heap.objs.size) (it:=s1.heap.objs.size) (fun b o h1' h2' q=>(hs5.2 b h1').trans (hk4 b o h1' q)) (fp hn3) (fp hn3) (Qu _) (show ObjOk X.prog X.w _ h5 _ (.tup [kV k,y]) from ⟨two_sz,[key,u],.cons (is_kV hkey) (.cons ru .nil),⟨_,hT5,rfl,_,rfl⟩⟩)
  have hn5:upd H3 s3.heap.objs.size (.tup [kV k,y]) s1.heap.objs.size=none:=by rw [Z646 (Jo hlt3)];exact hn3
  have I5':=I5.pinned (fp:=[s1.heap.objs.size]) (fun b hb=>by
   have z:b=s1.heap.objs.size:=by simpa using hb
   subst z
   exact fp hn5) (fun b hb=>by
   have z:b=s1.heap.objs.size:=by simpa using hb
   subst z
   exact ⟨_,he5,fun v z=>by
    have z':Data.fields _=Data.cell v:=z
    cases z'⟩)
  refine wpAny_passesOwn hp (thn (hg _ _ σ3 _ (.ref s3.heap.objs.size) (.ref s3.heap.objs.size) _ I5' rfl (t2 k y hk _ (I3.hok.fresh (Qu _)))) fun _ s6 ⟨σ6,H6,I6,q6⟩=>?_)
  refine wpAny_passesOwn hp (thn (hb _ s6 σ6 H6 _ I6 q6) fun f s7 q7=>?_)
  have again:∀ {σ7:L2.St} {H7:Hp},Inv X (pins++[(a,oa)]++pinsAt [s1.heap.objs.size] h5) σ7 H7 s7→W (i + 1) σ7 H7→∃ m,m < kvs.length - i∧∃ i σ' H',m=kvs.length - i∧i≤kvs.length∧Inv X (pins++[(a,oa)]) σ' H' s7∧(∃ ok ov,IsItemIter s7.heap s1.heap.objs.size a i vs.length ep ok ov)∧H' s1.heap.objs.size=none∧W i σ' H':=fun {σ7 H7} I7 w7=>by
   have pi:=I7.pin (s1.heap.objs.size,_) (Qf _ (Qf _ (Z361 (by simp) he5)))
   exact ⟨kvs.length - (i + 1),by omega,i + 1,σ7,H7,rfl,hlt,I7.unpinned,⟨_,_,pi.1⟩,pi.2.1,w7⟩
  cases f with
  | next=>obtain ⟨σ7,H7,I7,n7⟩:=q7;exact again I7 n7
  | cont=>obtain ⟨σ7,H7,I7,n7⟩:=q7;exact again I7 n7
  | brk=>obtain ⟨σ7,H7,I7,q7⟩:=q7;exact ⟨σ7,_,Z250 I1 ha2 e1 I7.unpinned,q7 (I7.unpinned.pin (a,oa) (by simp)).2.1⟩
  | ret v=>obtain ⟨x7,σ7,H7,I7,r7,q7⟩:=q7;exact q7.elim
 ·have hge:kvs.length≤i:=Nat.le_of_not_lt hlt
  obtain ⟨f0,f1,f2,f3,f4,f5⟩:=fp hn3
  refine wpAny_passesOwn hp (wpAny_pyNext_items_end (I3.ok.hd hc) it3 hat3 (Jm (by omega)) fun h' eb=>?_)
  have I4:Inv X (pins++[(a,oa)]) σ3 H3 { s3 with heap:=h',toks:=s3.toks }:=I3.turned (t':=s3.toks) (fun b o hb q=>eb b o hb q) f0 f1 f3 f4 f5
  exact wpAny_execs_nil ⟨σ3,_,Z250 I1 ha2 e1 I4,t1 hge⟩
end

theorem cl_kV(k:Key):cl (kV k)=kV k:=by cases k <;> rfl
noncomputable def itC(ks:List Key)(l:List D)(i:Nat)(_:Sd):Option (Option DV):=some (match ks[i]?,l[i]? with
 | some k,some d=>some (.val (.nd .tup [.at (kV k),d]))
 | _,_=>none)
noncomputable def isAt:D→Bool
 | .at _=>true | _=>false
noncomputable def backD(n k:Nat)(d:D)(s:Sd):Option Sd:=match s[n]?,s[k]? with
 | some (.bor k' []),some (.own true (.at _))=>if k'=k then popD n (wr s k [] d fun _=>false) else none
 | _,_=>none
noncomputable def sForD(f:EF)(b:Sd→DV→Option Sd)(body:SF):SF:=fun s=>match f s with
 | .ok (.plc k []) s1=>(match s1[k]? with
  | some (.own true (.nd (.dic true ks) l))=>if l.all isAt=true then (match loopG (itC ks l) b body (l.length + 1) 0 (wr s1 k [] hole (fun _=>false)++[.bor k []]) with
   | .nx s2=>(match backD s1.length k (.nd (.dic true ks) l) s2 with | some s3=>.nx s3 | none=>.no)
   | _=>.no) else .no
  | _=>.no)
 | .ex C s1=>.ex C s1
 | _=>.no
theorem Z138{f:EF}{b:Sd→DV→Option Sd}{body:SF}{s:Sd}:sForD f b body s=(match f s with
 | .ok (.plc k []) s1=>(match s1[k]? with
  | some (.own true (.nd (.dic true ks) l))=>if l.all isAt=true then (match loopG (itC ks l) b body (l.length + 1) 0 (wr s1 k [] hole (fun _=>false)++[.bor k []]) with
   | .nx s2=>(match backD s1.length k (.nd (.dic true ks) l) s2 with | some s3=>.nx s3 | none=>.no)
   | _=>.no) else .no
  | _=>.no)
 | .ex C s1=>.ex C s1
 | _=>.no):=id rfl
section
variable {K:Qd}{R:RC}{ix:List Nat}{hd hm:List (Nat×Addr)}{X:Cx}{H H':Hp}{σ:L2.St}{ts:Ts}{fr:List T}{D:Ends}
theorem Cf.reH(C:Cf R ix hd H σ ts fr)(h:∀ b,(b∈ownS ts∨b∈roS ts∨b∈rdS ts∨b∈T.owns fr∨b∈T.ros fr∨R.G b)→H' b=H b):Cf R ix hd H' σ ts fr:=by
 refine ⟨fun w t ht=>T.keep (C.ok w t ht) fun b hb=>h b ?_,T.keeps C.fok fun b hb=>h b ?_,C.nd,C.sep,C.rd,fun b hb=>?_,C.bg,C.bor,C.ixs,C.sl,C.hdi,C.hdx,C.len,C.hdn⟩
 ·rcases hb with hb | hb
  ·cases w with
   | true=>exact .inl (Z360.mpr ⟨t,ht,hb⟩)
   | false=>exact .inr (.inr (.inl (Z362.mpr ⟨t,ht,hb⟩)))
  ·exact .inr (.inl (Z364.mpr ⟨w,t,ht,hb⟩))
 ·rcases hb with hb | hb
  ·exact .inr (.inr (.inr (.inl hb)))
  ·exact .inr (.inr (.inr (.inr (.inl hb))))
 ·rw [h b (.inr (.inr (.inr (.inr (.inr hb)))))]
  exact C.g b hb
theorem Cf.other(C:Cf R ix hd H σ ts fr){p:Addr}{o:HO}(hp:H p=none):Cf R ix hd (upd H p o) σ ts fr:=by
 obtain ⟨f1,f2,f3,f4,f5,f6⟩:=C.fresh hp
 refine C.reH fun b hb=>Z646 ?_
 rintro rfl
 rcases hb with z | z | z | z | z | z
 ·exact f1 z
 ·exact f2 z
 ·exact f3 z
 ·exact f4 z
 ·exact f5 z
 ·exact f6 z
theorem Z24:∀ {ch:List T} {l:List RM.D},l=T.ers ch→l.all isAt=true→∀ t∈ch,∃ v,t=.at v
 | [],_,_,_,t,ht=>nomatch ht
 | t::r,_,rfl,h,u,hu=>by
  simp only [T.ers,List.all_cons,Jt] at h
  rcases Jb.mp hu with rfl | hu
  ·cases u with
   | «at» v=>exact ⟨v,rfl⟩
   | nd a k l=>exact absurd h.1 (by simp [T.er,isAt])
  ·exact Z24 rfl h.2 u hu
theorem Cf.atoms(C:Cf R ix hd H σ ts fr):∀ {ch:List T},(∀ t∈ch,∃ v,t=.at v)→Cf R ix hd H σ ts (ch++fr)
 | [],_=>C
 | t::r,h=>by
  obtain ⟨v,rfl⟩:=h t (by simp)
  exact Cf.at (Cf.atoms C fun u hu=>h u (by simp [hu])) v
noncomputable def PostD(R:RC)(ix:List Nat)(hd:List (Nat×Addr))(fr:List T)(a:Addr)(kvs:List (Key×V))(D:Ends):SR→Prop
 | .nx s'=>∀ H' σ' ts',H' a=none→ts'.map TL.er=s'→Cf R ix hd H' σ' ts' fr→D.nx σ' (upd H' a (.dK kvs))
 | _=>False
theorem zip_get{α β:Type}{x:α}{y:β}:∀ {l:List α} {m:List β} {i:Nat},(l.zip m)[i]?=some (x,y)→l[i]?=some x∧m[i]?=some y
 | [],_,_,h=>by simp at h
 | _::_,[],_,h=>by simp at h
 | a::l,b::m,0,h=>by simp at h;simp [h.1,h.2]
 | a::l,b::m,i + 1,h=>by
  have:=zip_get (l:=l) (m:=m) (i:=i) (by simpa using h)
  simpa using this
theorem Z306{f:EF}{b:Sd→DV→Option Sd}{body:SF}(D:Ends)(σ:L2.St)(H:Hp)(h:lS R ix (sForD f b body) D σ H):tForD K (lE R ix f) (lG R ix b) (lS R ix body) D σ H:=by
 obtain ⟨hd,ts,fr,C,h⟩:=h
 refine ⟨hd,ts,fr,C,?_⟩
 unfold sForD at h
 cases ef:f (ts.map TL.er) with
 | no=>rw [ef] at h;exact h
 | ex E s1=>rw [ef] at h;intro H1 ts1 e1 C1;exact h H1 σ ts1 e1 C1
 | ok r s1 =>
  rw [ef] at h
  intro H1 ts1 tv v e1 e2 hv C1
  subst e1
  have hlen:(ts1.map TL.er).length=ts1.length:=by simp
  cases r with
  | val d=>exact h.elim
  | plc k p =>
   obtain ⟨a,rfl,rfl,hp⟩:=hv.er_plc e2
   cases p with
   | cons _ _=>exact h.elim
   | nil =>
    have hp':=hp
    obtain ⟨w,t,s,h1,h2,h3⟩:=hp
    cases h2
    dsimp only at h
    rw [Qa,h1] at h
    simp only [Option.map_some,TL.er,hlen] at h
    have sok:=C1.ok w t (Qg h1)
    cases w with
    | false=>exact h.elim
    | true =>
    cases t with
    | «at» v=>exact h.elim
    | nd a' kd ch =>
    cases kd with
    | tup=>exact h.elim
    | lst m=>exact h.elim
    | dit m ks=>exact h.elim
    | ins m C ns=>exact h.elim
    | kst K=>exact h.elim
    | dic m ks =>
    cases m with
    | false=>exact h.elim
    | true =>
     cases h3
     simp only [T.er] at h
     obtain ⟨l,el⟩:∃ l,l=T.ers ch:=⟨_,rfl⟩
     rw [← el] at h
     by_cases hl:l.all isAt=true
     case neg=>rw [if_neg hl] at h;exact h.elim
     case pos =>
      rw [if_pos hl] at h
      have hat:=Z24 el hl
      obtain ⟨n1,n2,n3⟩:=sok.1
      have hca:(ch.map T.val).length=ch.length:=by simp
      refine ⟨.inr (.inr (.inl ⟨rfl,.inl ⟨_,n3⟩⟩)),a,_,rfl,rfl,n3,fun p hp=>?_⟩
      have C2:Cf R ix hd (upd H1 p (.ext fun h=>h.IsItemsView p a)) σ ts1 fr:=Cf.other C1 hp
      have hpa:a≠p:=by rintro rfl;rw [hp] at n3;cases n3
      have ok2:=C2.ok true _ (Qg h1)
      have C3:Cf R ix hd (upd H1 p (.ext fun h=>h.IsItemsView p a)) σ ((ts1.set k (.own true (T.put (.at (.ref a)) [] (.nd a (.dic true ks) ch)))).map (killT k [] fun _=>false)) (.nd a (.dic true ks) ch::fr):=Cf.exch (s:=.nd a (.dic true ks) ch) (x:=[]) C2 h1 rfl rfl trivial ⟨ok2,C2.fok⟩ (by simp [T.own,T.owns_cons]) (fun x hx=>by
       rcases hx with hx | hx
       ·simp [T.ro] at hx
       ·rw [T.ros_cons] at hx;exact Qe.mp hx)
      have ha0:a∈T.owns (.nd a (.dic true ks) ch::fr):=by simp [T.owns,T.own,NK.mut]
      have C4:Cf R ix hd (del (upd H1 p (.ext fun h=>h.IsItemsView p a)) a) σ ((ts1.set k (.own true (T.put (.at (.ref a)) [] (.nd a (.dic true ks) ch)))).map (killT k [] fun _=>false)) fr:=by
       refine Cf.reH C3.drop fun b hb=>Z91 ?_
       rintro rfl
       have nd:=C3.nd
       have ndo:=Qj.mp nd
       rcases hb with z | z | z | z | z | z
       ·exact ndo.2.2 _ z _ ha0 rfl
       ·exact (C3.sep _ (.inl z)).2.1 ha0
       ·exact (C3.rd _ z).2 ha0
       ·have q:=ndo.2.1
        rw [T.owns_cons] at q
        exact (Qj.mp q).2.2 _ (by simp [T.own,NK.mut]) _ z rfl
       ·exact (C3.sep _ (.inr (by rw [T.ros_cons];exact Qf _ z))).2.1 ha0
       ·exact (C3.g _ z).2.2.2 ha0
      have hk3:((ts1.set k (.own true (T.put (.at (.ref a)) [] (.nd a (.dic true ks) ch)))).map (killT k [] fun _=>false))[k]?=some (.own true (.at (.ref a))):=by
       rw [Qa,Qm,if_pos rfl,if_pos (Qc.mp h1).1];rfl
      have hl3:((ts1.set k (.own true (T.put (.at (.ref a)) [] (.nd a (.dic true ks) ch)))).map (killT k [] fun _=>false)).length=ts1.length:=by simp
      have w1:((ts1.set k (.own true (T.put (.at (.ref a)) [] (.nd a (.dic true ks) ch)))).map (killT k [] fun _=>false)).map TL.er=wr (ts1.map TL.er) k [] hole (fun _=>false):=wr_er (p:=[]) (s':=T.at (.ref a)) (keep:=fun _=>false) h1
      generalize (ts1.set k (.own true (T.put (.at (.ref a)) [] (.nd a (.dic true ks) ch)))).map (killT k [] fun _=>false)=ts3 at C4 hk3 hl3 w1
      have C5:=Cf.hide (k:=k) (p:=[]) (a:=a) C4 ⟨true,_,_,hk3,rfl,rfl⟩
      rw [hl3] at C5
      rw [← w1] at h
      have w2:ts3.map TL.er++[.bor k []]=(ts3++[TL.bor k [] a]).map TL.er:=by simp [TL.er]
      rw [w2] at h
      have P0:PostD R ix (hd++[(ts1.length,a)]) fr a (ks.zip (ch.map T.val)) D (loopG (itC ks l) b body (l.length + 1) 0 ((ts3++[TL.bor k [] a]).map TL.er)):=by
       cases eL:loopG (itC ks l) b body (l.length + 1) 0 ((ts3++[TL.bor k [] a]).map TL.er) with
       | nx s2 =>
        rw [eL] at h
        dsimp only at h
        intro H' σ' ts' hn e C'
        cases eB:backD ts1.length k (.nd (.dic true ks) l) s2 with
        | none=>rw [eB] at h;exact h.elim
        | some s3 =>
         rw [eB] at h
         unfold backD at eB
         rw [← e,Qa,Qa] at eB
         split at eB
         case h_2=>cases eB
         case h_1 k' v' q1 q2 =>
          split at eB
          case isFalse=>cases eB
          case isTrue hkk =>
           subst hkk
           cases y1:ts'[ts1.length]? with
           | none=>rw [y1] at q1;cases q1
           | some x1 =>
            rw [y1] at q1
            cases x1 with
            | non=>cases q1
            | own _ _=>cases q1
            | bor k2 p2 a2 =>
             simp only [Option.map_some,TL.er,Option.some.injEq,DL.bor.injEq] at q1
             obtain ⟨rfl,rfl⟩:=q1
             have ea:=C'.hdn ts1.length a (by simp) _ _ y1 rfl
             cases ea
             obtain ⟨w4,t4,s4,z1,z2,z3⟩:=C'.bor ts1.length k2 [] a y1
             cases z2
             rw [z1] at q2
             simp only [Option.map_some,TL.er,Option.some.injEq,DL.own.injEq] at q2
             obtain ⟨rfl,q2⟩:=q2
             cases t4 with
             | nd _ _ _=>cases q2
             | «at» v4 =>
              cases z3
              have C6:Cf R ix (hd++[(ts1.length,a)]) (upd H' a (.dK (ks.zip (ch.map T.val)))) σ' ts' (.nd a (.dic true ks) ch::fr):=Cf.wrap (Cf.atoms C' hat) hn ⟨n1,n2,Z647⟩
              have C7:=Cf.exch (s':=.nd a (.dic true ks) ch) (fr':=fr) (x:=[]) C6 z1 (s:=.at (.ref a)) (p:=[]) rfl rfl C6.fok.1 C6.fok.2 (by simp [T.own,T.owns_cons]) (fun x hx=>by
               rcases hx with hx | hx
               ·exact .inr (by rw [T.ros_cons];exact Qi _ hx)
               ·exact .inr (by rw [T.ros_cons];exact Qf _ hx))
              have w5:=wr_er (p:=[]) (s':=.nd a (.dic true ks) ch) (keep:=fun _=>false) z1
              have e9:(T.nd a (.dic true ks) ch).er=.nd (.dic true ks) l:=by rw [T.er,el]
              rw [e9] at w5
              obtain ⟨ts0,x,rfl',hl',e2'⟩:=Z477 eB w5
              rw [rfl'] at C7
              refine h _ _ _ e2' ?_
              have:=C7.popAny (hd:=hd) (hm:=[(ts1.length,a)]) (fun j hj=>by rw [hl'];exact C1.ixs j hj) (fun j a hj=>by rw [hl'];exact C1.hdi j a hj)
              rw [hl'] at this
              exact this
       | rt _ _=>rw [eL] at h;exact h.elim
       | bk _=>rw [eL] at h;exact h.elim
       | ct _=>rw [eL] at h;exact h.elim
       | ex _ _=>rw [eL] at h;exact h.elim
       | no=>rw [eL] at h;exact h.elim
      refine ⟨fun i σ H=>∃ ts' m,Cf R ix (hd++[(ts1.length,a)]) H σ ts' fr∧PostD R ix (hd++[(ts1.length,a)]) fr a (ks.zip (ch.map T.val)) D (loopG (itC ks l) b body m i (ts'.map TL.er)),⟨_,_,C5,P0⟩,?_⟩
      rintro i σ4 H4 hn4 ⟨ts',m,C',P⟩
      cases m with
      | zero=>exact P.elim
      | succ m =>
       unfold loopG itC at P
       refine ⟨fun hi=>?_,fun k0 y hy b' hb'=>?_⟩
       ·have:ks[i]?=none:=Jm (by rw [List.length_zip,n1,Nat.min_self] at hi;rw [n1];exact hi)
        rw [this] at P
        exact P H4 σ4 ts' hn4 rfl C'
       ·obtain ⟨y1,y2⟩:=zip_get hy
        rw [Qa] at y2
        cases y3:ch[i]? with
        | none=>rw [y3] at y2;cases y2
        | some t =>
         rw [y3] at y2
         cases y2
         have y4:l[i]?=some t.er:=by rw [el,T.ers_eq,Qa,y3];rfl
         rw [y1,y4] at P
         dsimp only at P
         obtain ⟨v,rfl⟩:=hat t (Qg y3)
         have Cw:Cf R ix (hd++[(ts1.length,a)]) (upd H4 b' (.tup [kV k0,v])) σ4 ts' (.nd b' .tup [.at (kV k0),.at v]::fr):=Cf.wrap (ch:=[.at (kV k0),.at v]) (Cf.at (Cf.at C' _) _) hb' (show upd H4 b' _ b'=_ from Z647)
         have er:(TV.val (.nd b' .tup [.at (kV k0),.at v])).er=.val (.nd .tup [.at (kV k0),(T.at v).er]):=by simp only [TV.er,T.er,T.ers,cl_kV]
         cases eb:b (ts'.map TL.er) (.val (.nd .tup [.at (kV k0),(T.at v).er])) with
         | none=>rw [eb] at P;exact P.elim
         | some s1' =>
          rw [eb] at P
          refine ⟨hd++[(ts1.length,a)],ts',fr,.val (.nd b' .tup [.at (kV k0),.at v]),Cw,rfl,s1',by rw [er];exact eb,fun σ2 ts2 e2 C2=>⟨_,ts2,fr,C2,?_⟩⟩
          rw [e2]
          dsimp only at P
          cases ed:body s1' with
          | nx s2=>rw [ed] at P;intro H3 σ3 ts3 e3 C3;subst e3;exact ⟨ts3,m,C3,P⟩
          | ct s2=>rw [ed] at P;intro H3 σ3 ts3 e3 C3;subst e3;exact ⟨ts3,m,C3,P⟩
          | bk s2=>rw [ed] at P;intro H3 σ3 ts3 e3 C3 hn3;exact P H3 σ3 ts3 hn3 e3 C3
          | rt r s2=>rw [ed] at P;exact P.elim
          | ex E s2=>rw [ed] at P;exact P.elim
          | no=>rw [ed] at P;exact P.elim
theorem Z534{o:Expr}{elts:List Expr}{x1:Nat}{bs:List Stmt}{f:EF}{b:Sd→DV→Option Sd}{body:SF}{tpos apos cpos fpos:Pos}(hp:PassesOwn (model X.prog X.w) X.A X.env X.xe)(hc:X.calm=true)(ho:PE X o (lE R ix f))(hg:PG X (.Tuple elts x1 tpos) (lG R ix b))(hb:PSs X bs (lS R ix body))
  (hbase:attributeBase o "items" X.env (eval o X.env)=eval o X.env:=by rfl) (hline:(apos.endLine == cpos.line)=true:=by rfl)
  (hs:∀ x,foldedSetIterable (.Call (.Attribute o "items" apos) [] [] cpos) X.env x=pure x:=by intro _;rfl):PS X (.For (.Tuple elts x1 tpos) (.Call (.Attribute o "items" apos) [] [] cpos) bs [] fpos) (lS R ix (sForD f b body)) :=
 psM (Z485 hp hc ho hg hb (fun σ H Q Q' m h=>Z299 m h) hbase hline hs) Z306
theorem Z342{ks:List Key}{l:List RM.D}{b:Sd→DV→Option Sd}{body:SF}{s:Sd}(hl:ks.length=l.length)(P:Nat→Sd→Prop)(h0:P 0 s)
  (hs:∀ (i:Nat) s k d,ks[i]?=some k→l[i]?=some d→P i s→∃ s1 s2,b s (.val (.nd .tup [.at (kV k),d]))=some s1∧(body s1=.nx s2∨body s1=.ct s2)∧P (i + 1) s2) :
  ∃ s',loopG (itC ks l) b body (l.length + 1) 0 s=.nx s'∧P l.length s':=by
 refine Z347 (P:=P) (fun i s hi h=>?_) (fun s h=>?_) l.length 0 s (by omega) h0
 ·obtain ⟨s1,s2,h1,h2,h3⟩:=hs i s (ks[i]'(by omega)) l[i] (Qh _) (Qh hi) h
  refine ⟨_,s1,s2,?_,h1,h2,h3⟩
  unfold itC
  rw [Qh hi,Qh (show i < ks.length by omega)]
 ·unfold itC
  rw [Jm (show ks.length≤l.length by omega)]
end
end RM

namespace RM
open PySem PySem.Spec PyProof.Rows L2
noncomputable def loopW(c:BF)(body:SF):Nat→Sd→SR
 | 0,_=>.no
 | m + 1,s=>match c s with
  | .ok true s1=>(match body s1 with
   | .nx s2=>loopW c body m s2
   | .ct s2=>loopW c body m s2
   | .bk s2=>.nx s2
   | .rt r s2=>.rt r s2
   | .ex C s2=>.ex C s2
   | .no=>.no)
  | .ok false s1=>.nx s1
  | .ex C s1=>.ex C s1
  | .no=>.no
noncomputable def sWhile(n:Nat)(c:BF)(body:SF):SF:=fun s=>loopW c body n s
theorem Z171{n:Nat}{c:BF}{body:SF}{s:Sd}:sWhile n c body s=loopW c body n s:=id rfl
section
variable {R:RC}{ix:List Nat}{hd hm:List (Nat×Addr)}{X:Cx}{H H':Hp}{σ:L2.St}{ts:Ts}{fr:List T}{D:Ends}
end

section
variable {X:Cx}
end
end RM

namespace RM
open PySem PySem.Spec PyProof.Rows L2
noncomputable def tyD:D→Option String
 | .at .non=>some "NoneType"
 | .at (.bl _)=>some "bool"
 | .at (.int _)=>some "int"
 | .at (.str _)=>some "str"
 | .nd (.lst true) _=>some "list"
 | .nd .tup _=>some "tuple"
 | .nd (.dic _ _) _=>some "dict"
 | _=>none
noncomputable def hIs:List D→Option D
 | [d,.at (.ty T)]=>(match tyD d with | some N=>if (kit0 N T).isSome=true then some (.at (.bl (subT N T))) else none | none=>none)
 | _=>none
section
variable {X:Cx}
theorem is_ll{l:List D}:hIs [.nd (.lst true) l,.at (.ty "list")]=some (.at (.bl true)):=by
 have e:kit0 "list" "list"=some true:=by decide +kernel
 unfold hIs;simp only [tyD,e,subT];rfl
theorem is_ii{i:Int}:hIs [.at (.int i),.at (.ty "int")]=some (.at (.bl true)):=by
 have e:kit0 "int" "int"=some true:=by decide +kernel
 unfold hIs;simp only [tyD,e,subT];rfl
theorem is_ib{i:Int}:hIs [.at (.int i),.at (.ty "bool")]=some (.at (.bl false)):=by
 have e:kit0 "int" "bool"=some false:=by decide +kernel
 unfold hIs;simp only [tyD,e,subT];rfl
end

noncomputable def eNot(f:EF):EF:=fun s=>match f s with
 | .ok (.val (.at (.bl b))) s1=>.ok (.val (.at (.bl (!b)))) s1
 | .ok _ _=>.no
 | .ex C s1=>.ex C s1
 | .no=>.no
theorem Z135{f:EF}{s:Sd}:eNot f s=(match f s with
 | .ok (.val (.at (.bl b))) s1=>.ok (.val (.at (.bl (!b)))) s1
 | .ok _ _=>.no
 | .ex C s1=>.ex C s1
 | .no=>.no):=id rfl
section
variable {X:Cx}{R:RC}{ix:List Nat}{a:Expr}{pos:Pos}
end
end RM

namespace RM
open PySem PySem.Spec PyProof.Rows L2
noncomputable def sAugN(j:Nat)(g:Int→Int→Int)(fe:EF):SF:=fun s=>match s[j]? with
 | some (.own _ (.at (.int i)))=>(match fe s with
  | .ok (.val (.at (.int k))) s1=>.nx ((s1.map (unrootD j)).set j (.own true (.at (.int (g i k)))))
  | .ex C s1=>.ex C s1
  | _=>.no)
 | _=>.no
theorem Z123{j:Nat}{g:Int→Int→Int}{fe:EF}{s:Sd}:sAugN j g fe s=(match s[j]? with
 | some (.own _ (.at (.int i)))=>(match fe s with
  | .ok (.val (.at (.int k))) s1=>.nx ((s1.map (unrootD j)).set j (.own true (.at (.int (g i k)))))
  | .ex C s1=>.ex C s1
  | _=>.no)
 | _=>.no):=id rfl
section
variable {R:RC}{ix:List Nat}{hd:List (Nat×Addr)}{X:Cx}{H:Hp}{σ:L2.St}{ts:Ts}{fr:List T}
end
end RM

namespace RM
open PySem PySem.Spec PyProof.Rows L2
noncomputable def moveS(i j k:Nat)(p:List Nat)(d:D)(s:Sd):Sd:=(((((wr s k p hole fun _=>false).map (unrootD i)).set i (.own true d)).map (unrootD j)).set j (.bor i []))
noncomputable def plcOf(j:Nat):Option DL→Option (Nat×List Nat)
 | some (.own _ _)=>some (j,[])
 | some (.bor k p)=>some (k,p)
 | _=>none
noncomputable def moveT(i j k:Nat)(p:List Nat)(s:Sd):SR:=match (s[k]?:Option DL),dref s (.plc k p) with
 | some (DL.own true _),some d=>if d.imm=true∨k=i then .no else .nx (moveS i j k p d s)
 | _,_=>.no
noncomputable def sMove(i j:Nat):SF:=fun s=>match plcOf j s[j]? with
 | some (k,p)=>moveT i j k p s
 | none=>.no
theorem Z154{i j:Nat}{s:Sd}:sMove i j s=(match plcOf j s[j]? with
 | some (k,p)=>moveT i j k p s
 | none=>.no):=id rfl
theorem Z155{i j k:Nat}{p:List Nat}{s:Sd}:moveT i j k p s=(match (s[k]?:Option DL),dref s (.plc k p) with
 | some (DL.own true _),some d=>if d.imm=true∨k=i then .no else .nx (moveS i j k p d s)
 | _,_=>.no):=id rfl
section
variable {R:RC}{ix:List Nat}{hd:List (Nat×Addr)}{X:Cx}{H:Hp}{σ:L2.St}{ts:Ts}{fr:List T}
theorem set_same{σ:L2.St}{i:Nat}{v:V}(h:σ[i]?=some (some v)):σ.set i (some v)=σ:=by
 refine Jz fun n=>?_
 rw [Qm]
 by_cases hn:i=n
 ·subst hn
  rw [if_pos rfl,if_pos (Qc.mp h).1,h]
 ·rw [if_neg hn]
theorem Z310{ia ib i j:Nat}(hia:ix[ia]?=some i)(hib:ix[ib]?=some j)(hne:i≠j)(hnd:ix.Nodup)(D:Ends)(σ:L2.St)(H:Hp)(h:lS R ix (sMove i j) D σ H):tAsg (tVar ib) (gName ia) D σ H:=by
 obtain ⟨hd,ts,fr,C,q⟩:=h
 unfold sMove at q
 have key:∀ (k:Nat) (p:List Nat) (w:Bool) (t u:T),ts[k]?=some (.own w t)→t.get p=some u→(∃ s,ts[j]?=some s∧s.v=some u.val)→plcOf j (ts.map TL.er)[j]?=some (k,p)→tAsg (tVar ib) (gName ia) D σ H:=by
  intro k p w t u hk hp hj hpl
  rw [hpl] at q
  dsimp only at q
  unfold moveT at q
  have hdr:dref (ts.map TL.er) (.plc k p)=some u.er:=by simp only [dref,Qa,hk,Option.map_some,TL.er,T.get_er,hp]
  rw [Qa,hk,hdr] at q
  cases w with
  | false=>exact q.elim
  | true =>
   simp only [Option.map_some,TL.er] at q
   by_cases hc:u.er.imm=true∨k=i
   ·rw [if_pos hc] at q;exact q.elim
   ·rw [if_neg hc] at q
    have him:¬ u.er.imm=true:=fun z=>hc (.inl z)
    have hki:k≠i:=fun z=>hc (.inr z)
    obtain ⟨a,hat⟩:=Z677 u (by simpa using him)
    obtain ⟨sj,hj,hjv⟩:=hj
    have hσ:=C.sl ib j _ _ hib hj hjv
    rw [hat] at hσ
    have iab:ia≠ib:=fun z=>by rw [z,hib] at hia;exact hne (Option.some.inj hia).symm
    refine ⟨.ref a,hσ,?_⟩
    have ok0:=T.get_ok hp (C.ok true t (Qg hk))
    have C2:Cf R ix hd H σ ((ts.set k (.own true (T.put (.at (.ref a)) p t))).map (killT k p fun _=>false)) (u::fr):=Cf.exch (s:=u) (x:=[]) C hk hp (by rw [hat];rfl) trivial ⟨ok0,C.fok⟩ (by simp [T.own,T.owns_cons]) (fun x hx=>by
     rcases hx with hx | hx
     ·simp [T.ro] at hx
     ·rw [T.ros_cons] at hx;exact Qe.mp hx)
    have C3:=Cf.slot (i:=ia) (j:=i) (y:=.own true u) (m:=[u]) (v:=.ref a) (fr:=fr) C2 hia hnd (by rw [TL.v,hat]) (.inl ⟨u,rfl,rfl⟩)
    have hl:i < ts.length:=C.ixs i (Qg hia)
    have hi3:((((ts.set k (.own true (T.put (.at (.ref a)) p t))).map (killT k p fun _=>false)).map (unrootT i)).set i (.own true u))[i]?=some (.own true u):=by
     rw [Qm,if_pos rfl,if_pos (by simpa using hl)]
    have C4:=Cf.slot (i:=ib) (j:=j) (y:=.bor i [] a) (m:=[]) (v:=.ref a) (fr:=fr) C3 hib hnd rfl (.inr ⟨rfl,i,[],a,rfl,hne,true,u,u,hi3,rfl,hat⟩)
    have hσ2:(σ.set ia (some (.ref a))).set ib (some (.ref a))=σ.set ia (some (.ref a)):=set_same (by rw [Wd iab];exact hσ)
    rw [hσ2] at C4
    refine q _ _ _ ?_ C4
    have w1:=wr_er (p:=p) (s':=T.at (.ref a)) (keep:=fun _=>false) hk
    have un:∀ (m:Nat) (l:Ts),l.map (TL.er ∘ unrootT m)=(l.map TL.er).map (unrootD m):=fun m l=>by
     rw [Jk];exact Wf fun s _=>Z643 s
    unfold moveS
    rw [Wa,Jk,un,Wa,Jk,un,w1]
    rfl
 cases ej:ts[j]? with
 | none =>
  rw [Qa,ej] at q
  exact q.elim
 | some y =>
  cases y with
  | non =>
   rw [Qa,ej] at q
   exact q.elim
  | own w t=>exact key j [] w t t ej rfl ⟨_,ej,rfl⟩ (by rw [Qa,ej];rfl)
  | bor k p a =>
   obtain ⟨w,t,u,h1,h2,h3⟩:=C.bor j k p a ej
   exact key k p w t u h1 h2 ⟨_,ej,by rw [h3];rfl⟩ (by rw [Qa,ej];rfl)
theorem Z539{ia ib i j:Nat}{x:Str}{e:Expr}{tpos pos:Pos}(he:PE X e (tVar ib))(hN:X.N.Nodup)(hi:X.N[ia]?=some x)(hx:Loc X.env.scope x)(hia:ix[ia]?=some i)(hib:ix[ib]?=some j)(hne:i≠j)(hnd:ix.Nodup)
  (hf:X.fn x=true∨X.env.scope.names.lookup x=some .local:=by first | exact .inl rfl | exact .inr rfl | assumption)
  (hs:swapsWithSole [.Name x tpos] e pos.line X.env=pure false:=by rfl) (hw:swappedStores [.Name x tpos] e X.env=pure none:=by rfl) (h1:(assignEach [.Name x tpos] X.env).map (·.2)=[assign (.Name x tpos) X.env]:=by rfl) :
  PS X (.Assign [.Name x tpos] e pos) (lS R ix (sMove i j)):=psM (Z481 he (Z470 hN hi hx hf) hs hw h1) (Z310 hia hib hne hnd)
end
end RM
open PySem PySem.Spec PyProof.Rows L2
local macro_rules | `(tactic| walk_at "rd")=>`(tactic| simp only [Z79,cxC_K,tSeq,tIfS,tOr,tAnd,tNot,tTest,tB,tOp,tCB,tCons,tNil,tVar,tC,tRet,tRetN,tNext,tAsg,gName,tDrop,tCall,tCallT,tMetT,tMkT,tFldC,sFldC,tRaise,tRaiseA,tLst,tTup,tBM,tBM0,tAndV,tOrV,tNotV,tIf,tUn,tBreak,tCont,rI0,rI,rU,rEq,rNe,L2.start,hCons,hNil,
 Ql,Wm,Jh,Je,Jl,List.replicate,Jq,List.length_nil,Ws,List.getElem?_cons_succ,List.set_cons_zero,List.set_cons_succ,Nat.reduceAdd,Nat.reduceSub,Nat.reduceLT,Nat.reduceLeDiff,
 Option.some.injEq,exists_eq_left,exists_eq_left',exists_eq_right,exists_eq_right',exists_and_left,exists_and_right,exists_eq,exists_const,V.int.injEq,V.str.injEq,V.bl.injEq,V.ref.injEq,V.ty.injEq,Wk.injEq,and_assoc,and_true,true_and,reduceCtorEq,false_and,and_false,or_false,false_or,exists_false,if_true,if_false,We,decide_eq_true_eq])
local macro_rules | `(tactic| walk_at "sd")=>`(tactic| repeat (refine And.intro ?sd1 ?_;(case sd1=>first | assumption | decide | omega | rfl | (unfold CMul;omega) | (unfold CDiv;omega))))
namespace Pf
open PySem PySem.Spec PyProof.Rows L2 RM
noncomputable def top(i:Nat):Stmt:=PySem.Challenge.pw_papercircle_k10_first_rows_best.main.body.getD i (.Pass ⟨0,0,0,0⟩)
noncomputable abbrev Z569:Stmt:=top 1
noncomputable abbrev Z574:Stmt:=top 3
noncomputable abbrev Z571:Stmt:=top 2
noncomputable abbrev Z570:Stmt:=top 4
noncomputable abbrev Z573:Stmt:=top 5
noncomputable abbrev Z572:Stmt:=top 6
noncomputable abbrev Z561:Stmt:=top 8
noncomputable abbrev Z565:Stmt:=top 9
noncomputable abbrev Z562:Stmt:=top 10
noncomputable abbrev Z566:Stmt:=top 11
noncomputable abbrev Z567:Stmt:=top 12
noncomputable abbrev Z563:Stmt:=top 13
noncomputable abbrev Z560:Stmt:=top 14
noncomputable abbrev Z564:Stmt:=top 15
noncomputable abbrev Z568:Stmt:=top 16
noncomputable abbrev s_law:Stmt:=top 17
structure Adr where
 none_:Unit:=()
noncomputable def adr(A:Adr):Str→Addr:=fun x=>0
structure Txt(K:Qd)(mg:Str→Option Value)(A:Adr):Prop where
 b_all:mg "all"=none
 b_bool:mg "bool"=none
 b_dict:mg "dict"=none
 b_int:mg "int"=none
 b_isinstance:mg "isinstance"=none
 b_len:mg "len"=none
 b_list:mg "list"=none
 b_max:mg "max"=none
 b_min:mg "min"=none
 b_range:mg "range"=none
 b_str:mg "str"=none
 b_tuple:mg "tuple"=none
 a_find_number:At K mg "find_number" Z569 ["rows", "place", "holders", "seen"]
 a_unserved:At K mg "unserved" Z574 ["rows", "holders"]
 a_serve_more:At K mg "serve_more" Z571 ["rows", "holders", "settled"]
 a_hand_over:At K mg "hand_over" Z570 ["rows", "place", "number", "holders", "settled"]
 a_settle_row:At K mg "settle_row" Z573 ["rows", "place", "holders", "settled"]
 a_serve_rows:At K mg "serve_rows" Z572 ["rows"]
 a__law_at:At K mg "_law_at" Z561 ["_law_script", "_law_k"]
 a__law_figures:At K mg "_law_figures" Z565 ["_law_script", "_law_k", "_law_base", "_law_many"]
 a__law_chain:At K mg "_law_chain" Z562 ["_law_many", "_law_spread", "_law_one"]
 a__law_long:At K mg "_law_long" Z566 ["_law_one", "_law_cells", "_law_first"]
 a__law_row_of:At K mg "_law_row_of" Z567 ["_law_figs", "_law_many", "_law_wide", "_law_spread"]
 a__law_drawn_rows:At K mg "_law_drawn_rows" Z563 ["_law_script", "_law_first", "_law_rows", "_law_cells"]
 a__law_all_dealings:At K mg "_law_all_dealings" Z560 ["_law_rows"]
 a__law_due:At K mg "_law_due" Z564 ["_law_rows"]
 a__law_same:At K mg "_law_same" Z568 ["_law_found", "_law_due_here"]
 a_law:At K mg "law" s_law ["_law_script"]
noncomputable def exmT:Str→Str→Option Bool:=fun C x=>none
theorem Z172{C x a b:Str}{v r:Option Bool}{w:Bool}{p:Prop}(h:(if C=a∧x=b then v else r)=some w)(h1:C=a→x=b→v=some w→p)(h2:r=some w→p):p:=by
 by_cases z:C=a∧x=b
 ·rw [if_pos z] at h;exact h1 z.1 z.2 h
 ·rw [if_neg z] at h;exact h2 h
theorem Z173{K:Qd}{mg:Str→Option Value}{A:Adr}(T:Txt K mg A):∀ C x b,exmT C x=some b→PySem.W.exmOne K (.ref (adr A C)) (.ref (adr A x))=some b:=by
 intro C x b h
 cases h
section
variable {P:Program}{w:World}{K:Qd}{mg:Str→Option Value}{base:Heap}{A:Adr}
theorem Z586:FnScope ["rows", "place", "holders", "seen", "number"] ["rows", "place", "holders", "seen"] (defScope Z569):=⟨rfl,rfl,rfl,by decide +kernel,rfl,by decide +kernel,by decide +kernel⟩
theorem Z386:(["rows", "place", "holders", "seen", "number"]:List Str).Nodup:=Z586.nd
noncomputable def Z326(K:Qd)(A:Adr)(g:Fn):SF :=
  (sKill [4] (sIf (bV (eNw (hDIn true) (aCons (eVar 4) (aCons (eVar 3) aNil)))) (sSeq (sE (eMu 1 hPutD (aCons (eC (.bl true)) (aCons (eVar 3) (aCons (eVar 4) aNil)))))
  (sIf (bOr (bV (eNw (hDIn true) (aCons (eVar 4) (aCons (eVar 2) aNil)))) (bV (eCall [false,false,true,true] g (aCons (eVar 0) (aCons (eCh hDGet (aCons (eVar 2) (aCons (eVar 4) aNil))) (aCons (eVar 2) (aCons (eVar 3) aNil))))))) (sSeq (sE (eMu 1 hPutD (aCons (eVar 1) (aCons (eVar 2) (aCons (eVar 4) aNil)))))
  (sRet (eC (.bl true)))) sPass)) sPass))
noncomputable def Z34(K:Qd)(A:Adr)(g:Fn):SF :=
  (sSeq (sForL (eCh (hIx K) (aCons (eVar 0) (aCons (eVar 1) aNil))) (asgD 4)
  (Z326 K A g))
  (sRet (eC (.bl false))))
noncomputable def Z183(K:Qd):Nat→Adr→Fn
 | 0,_=>runDef 5 [false,false,true,true] sNo
 | n + 1,A=>runDef 5 [false,false,true,true] (Z34 K A (Z183 K n A))
set_option maxHeartbeats 0 in
theorem Z413(T:Txt K mg A):∀ n,DefX P w K mg base "find_number" (n + 1) ["rows", "place", "holders", "seen"] (spR (adr A) [false,false,true,true] (Z183 K n A))
 | 0=>okD (k:=0) (N:=["rows", "place", "holders", "seen", "number"]) (ms:=[false,false,true,true]) (body:=sNo) T.a_find_number Z586 rfl (by decide) fun f cdv A' outer s H E R hr hx hE ha=>Z546
 | n + 1=>okD (k:=n + 1) (N:=["rows", "place", "holders", "seen", "number"]) (ms:=[false,false,true,true]) (body:=Z34 K A (Z183 K n A)) T.a_find_number Z586 rfl (by decide) fun f cdv A' outer s H E R hr hx hE ha=>by
  have hu:=hu_of hr
  have ih:=Z413 T n
  refine Z543 ?_ ?_
  ·refine Z535 Z448 rfl ?_ ?_ ?_
   ·refine re_ix ?_ ?_ (fun _ _=>rfl)
    ·exact (Z519 (pv 0) (j:=0) rfl)
    ·exact (Z519 (pv 1) (j:=1) rfl)
   ·exact (Z524 (i:=4) Z386 rfl (Or.inl rfl) rfl (by decide))
   ·refine Z544 (js:=[4]) (by decide) ?_
    ·refine Z547 ?_
     ·refine rs_if ?_ ?_ ?_
      ·refine Z549 ?_
       ·refine Z529 hu ?_ ?_
        ·exact (Z519 (pv 4) (j:=4) rfl)
        ·exact (Z519 (pv 3) (j:=3) rfl)
      ·refine Z543 ?_ ?_
       ·refine Z533 hu ?_ ?_ ?_
        ·exact (Z519 (pv 3) (j:=3) rfl)
        ·exact (Z519 (pv 4) (j:=4) rfl)
        ·exact (re_C pe_bl)
       ·refine Z547 ?_
        ·refine rs_if ?_ ?_ ?_
         ·refine PW.pt ?_
          ·refine rw_or ?_ ?_
           ·refine Z549 ?_
            ·refine Z529 hu ?_ ?_
             ·exact (Z519 (pv 4) (j:=4) rfl)
             ·exact (Z519 (pv 2) (j:=2) rfl)
           ·refine Z557 ?_
            ·refine rt_v ?_
             ·refine rc_fn (ms:=[false,false,true,true]) (by rw [ha];exact ih) (hr.mono (by omega)) hx ?_ (Z1 (Z1 (Z1 (Z1 Z2))))
              ·refine Z502 ?_ ?_
               ·exact (Z519 (pv 0) (j:=0) rfl)
               ·refine Z502 ?_ ?_
                ·refine Z510 hu ?_ ?_ (fun _ _=>rfl)
                 ·exact (Z519 (pv 2) (j:=2) rfl)
                 ·exact (Z519 (pv 4) (j:=4) rfl)
                ·refine Z502 ?_ ?_
                 ·exact (Z519 (pv 2) (j:=2) rfl)
                 ·refine Z502 ?_ ?_
                  ·exact (Z519 (pv 3) (j:=3) rfl)
                  ·exact Z503
         ·refine Z543 ?_ ?_
          ·refine Z533 hu ?_ ?_ ?_
           ·exact (Z519 (pv 2) (j:=2) rfl)
           ·exact (Z519 (pv 4) (j:=4) rfl)
           ·exact (Z519 (pv 1) (j:=1) rfl)
          ·refine Z547 ?_
           ·refine Z540 ?_
            ·exact (re_C pe_bl)
         ·exact Z545
      ·exact Z545
  ·refine Z547 ?_
   ·refine Z540 ?_
    ·exact (re_C pe_bl)
theorem Z592:FnScope ["rows", "holders", "served"] ["rows", "holders"] (defScope Z574):=⟨rfl,rfl,rfl,by decide +kernel,rfl,by decide +kernel,by decide +kernel⟩
theorem Z395:(["rows", "holders", "served"]:List Str).Nodup:=Z592.nd
noncomputable def Z39(K:Qd)(A:Adr):SF :=
  (sSeq (sAsg (eNw hVals (aCons (eVar 1) aNil)) (asgD 2))
  (sRet (eCompR1 (eNw (hLen K) (aCons (eVar 0) aNil)) (fun n1=>(bV (eNw (hIn true) (aCons (eVar n1) (aCons (eVar 2) aNil))))) (fun n1=>(eVar n1)))))
noncomputable def Z188(K:Qd)(A:Adr):Fn:=runDef 3 [false,false] (Z39 K A)
set_option maxHeartbeats 0 in
theorem Z419(T:Txt K mg A):DefX P w K mg base "unserved" 1 ["rows", "holders"] (spR (adr A) [false,false] (Z188 K A)) :=
 okD (k:=0) (N:=["rows", "holders", "served"]) (ms:=[false,false]) (body:=Z39 K A) T.a_unserved Z592 rfl (by decide) fun f cdv A' outer s H E R hr hx hE ha=>by
  have hu:=hu_of hr
  refine Z543 ?_ ?_
  ·refine Z532 ?_ ?_
   ·refine Z518 rfl rfl T.b_list ?_
    ·exact (Z519 (pv 1) (j:=1) rfl)
   ·exact (Z524 (i:=2) Z395 rfl (Or.inr rfl) rfl (by decide))
  ·refine Z547 ?_
   ·refine Z540 ?_
    ·refine Z509 (N:=["place", "rows", "holders", "served"]) rfl (by decide) rfl T.b_range ?_ (CompSc.of (sc:=defScope Z574) (N0:=["rows", "holders", "served"]) rfl rfl (by decide +kernel)) (fun cl C s H fp=>(Z470 (i:=0) (show (["place", "rows", "holders", "served"]:List Str).Nodup from by decide +kernel) rfl (Or.inl rfl))) (fun cl C s H fp=>px_t fun n1 hn1=>?_) (fun cl C s H fp=>px_e fun n1 hn1=>?_)
     ·refine rc_b Z59 (by rfl) T.b_len boot_len ?_
      ·refine Z502 ?_ ?_
       ·exact (Z519 (pv 0) (j:=0) rfl)
       ·exact Z503
     ·refine Z548 Z426 ?_ ?_ rfl
      ·exact (Z519 (pv 0) (j:=n1) rfl)
      ·exact (Z519 (pv 3) (j:=2) rfl)
     ·exact (Z519 (pv 0) (j:=n1) rfl)
theorem Z589:FnScope ["rows", "holders", "settled", "answer", "place"] ["rows", "holders", "settled"] (defScope Z571):=⟨rfl,rfl,rfl,by decide +kernel,rfl,by decide +kernel,by decide +kernel⟩
theorem Z390:(["rows", "holders", "settled", "answer", "place"]:List Str).Nodup:=Z589.nd
noncomputable def Z329(K:Qd)(A:Adr):SF :=
  (sKill [4] (sE (eCall [false,false,true,true] (Z183 K 24 A) (aCons (eVar 0) (aCons (eVar 4) (aCons (eVar 3) (aCons (eNw hDict (aCons (eVar 2) aNil)) aNil)))))))
noncomputable def Z36(K:Qd)(A:Adr):SF :=
  (sSeq (sAsg (eNw hDict (aCons (eVar 1) aNil)) (asgD 3))
  (sSeq (sForL (eCall [false,false] (Z188 K A) (aCons (eVar 0) (aCons (eVar 1) aNil))) (asgD 4)
  (Z329 K A))
  (sRet (eVar 3))))
noncomputable def Z185(K:Qd)(A:Adr):Fn:=runDef 5 [false,false,false] (Z36 K A)
set_option maxHeartbeats 0 in
theorem Z416(T:Txt K mg A):DefX P w K mg base "serve_more" 26 ["rows", "holders", "settled"] (spR (adr A) [false,false,false] (Z185 K A)) :=
 okD (k:=25) (N:=["rows", "holders", "settled", "answer", "place"]) (ms:=[false,false,false]) (body:=Z36 K A) T.a_serve_more Z589 rfl (by decide) fun f cdv A' outer s H E R hr hx hE ha=>by
  have hu:=hu_of hr
  refine Z543 ?_ ?_
  ·refine Z532 ?_ ?_
   ·refine rc_ty Z58 (by rfl) T.b_dict boot_dict ?_
    ·refine Z502 ?_ ?_
     ·exact (Z519 (pv 1) (j:=1) rfl)
     ·exact Z503
   ·exact (Z524 (i:=3) Z390 rfl (Or.inl rfl) rfl (by decide))
  ·refine Z543 ?_ ?_
   ·refine Z535 Z448 rfl ?_ ?_ ?_
    ·refine rc_fn (ms:=[false,false]) (by rw [ha];exact (Z419 T)) (hr.mono (by omega)) hx ?_ (Z1 (Z1 Z2))
     ·refine Z502 ?_ ?_
      ·exact (Z519 (pv 0) (j:=0) rfl)
      ·refine Z502 ?_ ?_
       ·exact (Z519 (pv 1) (j:=1) rfl)
       ·exact Z503
    ·exact (Z524 (i:=4) Z390 rfl (Or.inl rfl) rfl (by decide))
    ·refine Z544 (js:=[4]) (by decide) ?_
     ·refine Z547 ?_
      ·refine rs_e ?_
       ·refine rc_fn (ms:=[false,false,true,true]) (by rw [ha];exact (Z413 T 24)) (hr.mono (by omega)) hx ?_ (Z1 (Z1 (Z1 (Z1 Z2))))
        ·refine Z502 ?_ ?_
         ·exact (Z519 (pv 0) (j:=0) rfl)
         ·refine Z502 ?_ ?_
          ·exact (Z519 (pv 4) (j:=4) rfl)
          ·refine Z502 ?_ ?_
           ·exact (Z519 (pv 3) (j:=3) rfl)
           ·refine Z502 ?_ ?_
            ·refine rc_ty Z58 (by rfl) T.b_dict boot_dict ?_
             ·refine Z502 ?_ ?_
              ·exact (Z519 (pv 2) (j:=2) rfl)
              ·exact Z503
            ·exact Z503
   ·refine Z547 ?_
    ·refine Z540 ?_
     ·exact (Z519 (pv 3) (j:=3) rfl)
theorem Z587:FnScope ["rows", "place", "number", "holders", "settled", "start", "other", "holder", "kept"] ["rows", "place", "number", "holders", "settled"] (defScope Z570):=⟨rfl,rfl,rfl,by decide +kernel,rfl,by decide +kernel,by decide +kernel⟩
theorem Z387:(["rows", "place", "number", "holders", "settled", "start", "other", "holder", "kept"]:List Str).Nodup:=Z587.nd
noncomputable def Z327(K:Qd)(A:Adr):SF :=
  (sKill [6,7] (sIf (bAnd (bV (eNw (hEq true) (aCons (eVar 6) (aCons (eVar 2) aNil)))) (bV (eNw (hEq true) (aCons (eVar 7) (aCons (eVar 1) aNil))))) (sE (eMu 1 hPutD (aCons (eVar 7) (aCons (eVar 5) (aCons (eVar 6) aNil))))) sPass))
noncomputable def Z35(K:Qd)(A:Adr):SF :=
  (sSeq (sAsg (eDict [((eVar 2),(eVar 1))]) (asgD 5))
  (sSeq (sForD (eVar 3) (tgT (tgC (asgD 6) (tgC (asgD 7) tgN)))
  (Z327 K A))
  (sSeq (sAsg (eNw hDict (aCons (eVar 4) aNil)) (asgD 8))
  (sSeq (sE (eMu 1 hPutD (aCons (eVar 1) (aCons (eVar 8) (aCons (eVar 2) aNil)))))
  (sRet (eCall [false,false,false] (Z185 K A) (aCons (eVar 0) (aCons (eVar 5) (aCons (eVar 8) aNil)))))))))
noncomputable def Z184(K:Qd)(A:Adr):Fn:=runDef 9 [false,false,false,true,false] (Z35 K A)
set_option maxHeartbeats 0 in
theorem Z414(T:Txt K mg A):DefX P w K mg base "hand_over" 27 ["rows", "place", "number", "holders", "settled"] (spR (adr A) [false,false,false,true,false] (Z184 K A)) :=
 okD (k:=26) (N:=["rows", "place", "number", "holders", "settled", "start", "other", "holder", "kept"]) (ms:=[false,false,false,true,false]) (body:=Z35 K A) T.a_hand_over Z587 rfl (by decide) fun f cdv A' outer s H E R hr hx hE ha=>by
  have hu:=hu_of hr
  refine Z543 ?_ ?_
  ·refine Z532 ?_ ?_
   ·refine Z512 ?_
    ·refine Z530 ?_ ?_ ?_
     ·exact (Z519 (pv 2) (j:=2) rfl)
     ·exact (Z519 (pv 1) (j:=1) rfl)
     ·exact Z531
   ·exact (Z524 (i:=5) Z387 rfl (Or.inl rfl) rfl (by decide))
  ·refine Z543 ?_ ?_
   ·refine Z534 Z448 rfl ?_ ?_ ?_
    ·exact (Z519 (pv 3) (j:=3) rfl)
    ·refine Z525 rfl ?_ (Z627 (Z627 Z628))
     ·refine Z526 ?_ ?_
      ·exact (Z524 (i:=6) Z387 rfl (Or.inl rfl) rfl (by decide))
      ·refine Z526 ?_ ?_
       ·exact (Z524 (i:=7) Z387 rfl (Or.inl rfl) rfl (by decide))
       ·exact Z527
    ·refine Z544 (js:=[6,7]) (by decide) ?_
     ·refine Z547 ?_
      ·refine rs_if ?_ ?_ ?_
       ·refine PW.pt ?_
        ·refine Z555 ?_ ?_
         ·refine Z548 on_ne ?_ ?_ (nomark _)
          ·exact (Z519 (pv 6) (j:=6) rfl)
          ·exact (Z519 (pv 2) (j:=2) rfl)
         ·refine Z556 ?_
          ·refine Z548 on_ne ?_ ?_ (nomark _)
           ·exact (Z519 (pv 7) (j:=7) rfl)
           ·exact (Z519 (pv 1) (j:=1) rfl)
       ·refine Z547 ?_
        ·refine Z533 hu ?_ ?_ ?_
         ·exact (Z519 (pv 5) (j:=5) rfl)
         ·exact (Z519 (pv 6) (j:=6) rfl)
         ·exact (Z519 (pv 7) (j:=7) rfl)
       ·exact Z545
   ·refine Z543 ?_ ?_
    ·refine Z532 ?_ ?_
     ·refine rc_ty Z58 (by rfl) T.b_dict boot_dict ?_
      ·refine Z502 ?_ ?_
       ·exact (Z519 (pv 4) (j:=4) rfl)
       ·exact Z503
     ·exact (Z524 (i:=8) Z387 rfl (Or.inl rfl) rfl (by decide))
    ·refine Z543 ?_ ?_
     ·refine Z533 hu ?_ ?_ ?_
      ·exact (Z519 (pv 8) (j:=8) rfl)
      ·exact (Z519 (pv 2) (j:=2) rfl)
      ·exact (Z519 (pv 1) (j:=1) rfl)
     ·refine Z547 ?_
      ·refine Z540 ?_
       ·refine rc_fn (ms:=[false,false,false]) (by rw [ha];exact (Z416 T)) (hr.mono (by omega)) hx ?_ (Z1 (Z1 (Z1 Z2)))
        ·refine Z502 ?_ ?_
         ·exact (Z519 (pv 0) (j:=0) rfl)
         ·refine Z502 ?_ ?_
          ·exact (Z519 (pv 5) (j:=5) rfl)
          ·refine Z502 ?_ ?_
           ·exact (Z519 (pv 8) (j:=8) rfl)
           ·exact Z503
theorem Z591:FnScope ["rows", "place", "holders", "settled", "number", "tried"] ["rows", "place", "holders", "settled"] (defScope Z573):=⟨rfl,rfl,rfl,by decide +kernel,rfl,by decide +kernel,by decide +kernel⟩
theorem Z392:(["rows", "place", "holders", "settled", "number", "tried"]:List Str).Nodup:=Z591.nd
noncomputable def Z332(K:Qd)(A:Adr):SF :=
  (sKill [4,5] (sIf (bV (eNw (hDIn true) (aCons (eVar 4) (aCons (eVar 3) aNil)))) (sSeq (sAsg (eCall [false,false,false,true,false] (Z184 K A) (aCons (eVar 0) (aCons (eVar 1) (aCons (eVar 4) (aCons (eVar 2) (aCons (eVar 3) aNil)))))) (asgD 5))
  (sIf (bV (eNw (hEq false) (aCons (eNw (hLen K) (aCons (eVar 5) aNil)) (aCons (eNw (hLen K) (aCons (eVar 2) aNil)) aNil)))) (sSeq (sE (eMu 1 hPutD (aCons (eVar 1) (aCons (eVar 3) (aCons (eVar 4) aNil)))))
  (sRet (eVar 5))) sPass)) sPass))
noncomputable def Z38(K:Qd)(A:Adr):SF :=
  (sSeq (sForL (eCh (hIx K) (aCons (eVar 0) (aCons (eVar 1) aNil))) (asgD 4)
  (Z332 K A))
  (sRet (eVar 2)))
noncomputable def Z187(K:Qd)(A:Adr):Fn:=runDef 6 [false,false,true,true] (Z38 K A)
set_option maxHeartbeats 0 in
theorem Z418(T:Txt K mg A):DefX P w K mg base "settle_row" 28 ["rows", "place", "holders", "settled"] (spR (adr A) [false,false,true,true] (Z187 K A)) :=
 okD (k:=27) (N:=["rows", "place", "holders", "settled", "number", "tried"]) (ms:=[false,false,true,true]) (body:=Z38 K A) T.a_settle_row Z591 rfl (by decide) fun f cdv A' outer s H E R hr hx hE ha=>by
  have hu:=hu_of hr
  refine Z543 ?_ ?_
  ·refine Z535 Z448 rfl ?_ ?_ ?_
   ·refine re_ix ?_ ?_ (fun _ _=>rfl)
    ·exact (Z519 (pv 0) (j:=0) rfl)
    ·exact (Z519 (pv 1) (j:=1) rfl)
   ·exact (Z524 (i:=4) Z392 rfl (Or.inl rfl) rfl (by decide))
   ·refine Z544 (js:=[4,5]) (by decide) ?_
    ·refine Z547 ?_
     ·refine rs_if ?_ ?_ ?_
      ·refine Z549 ?_
       ·refine Z529 hu ?_ ?_
        ·exact (Z519 (pv 4) (j:=4) rfl)
        ·exact (Z519 (pv 3) (j:=3) rfl)
      ·refine Z543 ?_ ?_
       ·refine Z532 ?_ ?_
        ·refine rc_fn (ms:=[false,false,false,true,false]) (by rw [ha];exact (Z414 T)) (hr.mono (by omega)) hx ?_ (Z1 (Z1 (Z1 (Z1 (Z1 Z2)))))
         ·refine Z502 ?_ ?_
          ·exact (Z519 (pv 0) (j:=0) rfl)
          ·refine Z502 ?_ ?_
           ·exact (Z519 (pv 1) (j:=1) rfl)
           ·refine Z502 ?_ ?_
            ·exact (Z519 (pv 4) (j:=4) rfl)
            ·refine Z502 ?_ ?_
             ·exact (Z519 (pv 2) (j:=2) rfl)
             ·refine Z502 ?_ ?_
              ·exact (Z519 (pv 3) (j:=3) rfl)
              ·exact Z503
        ·exact (Z524 (i:=5) Z392 rfl (Or.inl rfl) rfl (by decide))
       ·refine Z547 ?_
        ·refine rs_if ?_ ?_ ?_
         ·refine Z548 on_eq ?_ ?_ (nomark _)
          ·refine rc_b Z59 (by rfl) T.b_len boot_len ?_
           ·refine Z502 ?_ ?_
            ·exact (Z519 (pv 5) (j:=5) rfl)
            ·exact Z503
          ·refine rc_b Z59 (by rfl) T.b_len boot_len ?_
           ·refine Z502 ?_ ?_
            ·exact (Z519 (pv 2) (j:=2) rfl)
            ·exact Z503
         ·refine Z543 ?_ ?_
          ·refine Z533 hu ?_ ?_ ?_
           ·exact (Z519 (pv 3) (j:=3) rfl)
           ·exact (Z519 (pv 4) (j:=4) rfl)
           ·exact (Z519 (pv 1) (j:=1) rfl)
          ·refine Z547 ?_
           ·refine Z540 ?_
            ·exact (Z519 (pv 5) (j:=5) rfl)
         ·exact Z545
      ·exact Z545
  ·refine Z547 ?_
   ·refine Z540 ?_
    ·exact (Z519 (pv 2) (j:=2) rfl)
theorem Z590:FnScope ["rows", "holders", "settled", "place", "answer", "number"] ["rows"] (defScope Z572):=⟨rfl,rfl,rfl,by decide +kernel,rfl,by decide +kernel,by decide +kernel⟩
theorem Z391:(["rows", "holders", "settled", "place", "answer", "number"]:List Str).Nodup:=Z590.nd
noncomputable def Z330(K:Qd)(A:Adr):SF :=
  (sAsg (eCall [false,false,true,true] (Z187 K A) (aCons (eVar 0) (aCons (eVar 3) (aCons (eVar 1) (aCons (eVar 2) aNil))))) (asgD 1))
noncomputable def Z331(K:Qd)(A:Adr):SF :=
  (sKill [5] (sE (eMu 1 hPutL (aCons (eVar 5) (aCons (eVar 4) (aCons (eVar 3) aNil))))))
noncomputable def Z37(K:Qd)(A:Adr):SF :=
  (sSeq (sAsg (eCall [false,false,false] (Z185 K A) (aCons (eVar 0) (aCons (eDisp (.dic true []) aNil) (aCons (eDisp (.dic true []) aNil) aNil)))) (asgD 1))
  (sSeq (sAsg (eDisp (.dic true []) aNil) (asgD 2))
  (sSeq (sForR (aCons (eNw (hLen K) (aCons (eVar 0) aNil)) aNil) (asgD 3)
  (Z330 K A))
  (sSeq (sAsg (eCompL (eVar 0) (fun _=>bYes) (fun n1=>(eC .non))) (asgD 4))
  (sSeq (sForD (eVar 2) (tgT (tgC (asgD 5) (tgC (asgD 3) tgN)))
  (Z331 K A))
  (sRet (eVar 4)))))))
noncomputable def Z186(K:Qd)(A:Adr):Fn:=runDef 6 [false] (Z37 K A)
set_option maxHeartbeats 0 in
theorem Z417(T:Txt K mg A):DefX P w K mg base "serve_rows" 29 ["rows"] (spR (adr A) [false] (Z186 K A)) :=
 okD (k:=28) (N:=["rows", "holders", "settled", "place", "answer", "number"]) (ms:=[false]) (body:=Z37 K A) T.a_serve_rows Z590 rfl (by decide) fun f cdv A' outer s H E R hr hx hE ha=>by
  have hu:=hu_of hr
  refine Z543 ?_ ?_
  ·refine Z532 ?_ ?_
   ·refine rc_fn (ms:=[false,false,false]) (by rw [ha];exact (Z416 T)) (hr.mono (by omega)) hx ?_ (Z1 (Z1 (Z1 Z2)))
    ·refine Z502 ?_ ?_
     ·exact (Z519 (pv 0) (j:=0) rfl)
     ·refine Z502 ?_ ?_
      ·exact Z513
      ·refine Z502 ?_ ?_
       ·exact Z513
       ·exact Z503
   ·exact (Z524 (i:=1) Z391 rfl (Or.inl rfl) rfl (by decide))
  ·refine Z543 ?_ ?_
   ·refine Z532 ?_ ?_
    ·exact Z513
    ·exact (Z524 (i:=2) Z391 rfl (Or.inl rfl) rfl (by decide))
   ·refine Z543 ?_ ?_
    ·refine Z536 Z448 rfl rfl T.b_range ?_ ?_ ?_
     ·refine rc_b Z59 (by rfl) T.b_len boot_len ?_
      ·refine Z502 ?_ ?_
       ·exact (Z519 (pv 0) (j:=0) rfl)
       ·exact Z503
     ·exact (Z524 (i:=3) Z391 rfl (Or.inl rfl) rfl (by decide))
     ·refine Z547 ?_
      ·refine Z532 ?_ ?_
       ·refine rc_fn (ms:=[false,false,true,true]) (by rw [ha];exact (Z418 T)) (hr.mono (by omega)) hx ?_ (Z1 (Z1 (Z1 (Z1 Z2))))
        ·refine Z502 ?_ ?_
         ·exact (Z519 (pv 0) (j:=0) rfl)
         ·refine Z502 ?_ ?_
          ·exact (Z519 (pv 3) (j:=3) rfl)
          ·refine Z502 ?_ ?_
           ·exact (Z519 (pv 1) (j:=1) rfl)
           ·refine Z502 ?_ ?_
            ·exact (Z519 (pv 2) (j:=2) rfl)
            ·exact Z503
       ·exact (Z524 (i:=1) Z391 rfl (Or.inl rfl) rfl (by decide))
    ·refine Z543 ?_ ?_
     ·refine Z541 (N:=["row", "rows", "holders", "settled", "place", "answer", "number"]) rfl (by decide) ?_ (CompSc.of (sc:=defScope Z572) (N0:=["rows", "holders", "settled", "place", "answer", "number"]) rfl rfl (by decide +kernel)) (fun cl C s H fp=>(Z470 (i:=0) (show (["row", "rows", "holders", "settled", "place", "answer", "number"]:List Str).Nodup from by decide +kernel) rfl (Or.inl rfl))) (fun cl C s H fp=>Z501) (fun cl C s H fp=>px_e fun n1 hn1=>?_) Z391 rfl (i:=4) rfl (j:=4) rfl (by rfl)
      ·exact (Z519 (pv 0) (j:=0) rfl)
      ·exact (re_C Z463)
     ·refine Z543 ?_ ?_
      ·refine Z534 Z448 rfl ?_ ?_ ?_
       ·exact (Z519 (pv 2) (j:=2) rfl)
       ·refine Z525 rfl ?_ (Z627 (Z627 Z628))
        ·refine Z526 ?_ ?_
         ·exact (Z524 (i:=5) Z391 rfl (Or.inl rfl) rfl (by decide))
         ·refine Z526 ?_ ?_
          ·exact (Z524 (i:=3) Z391 rfl (Or.inl rfl) rfl (by decide))
          ·exact Z527
       ·refine Z544 (js:=[5]) (by decide) ?_
        ·refine Z547 ?_
         ·refine Z538 ?_ ?_ ?_
          ·exact (Z519 (pv 4) (j:=4) rfl)
          ·exact (Z519 (pv 3) (j:=3) rfl)
          ·exact (Z519 (pv 5) (j:=5) rfl)
      ·refine Z547 ?_
       ·refine Z540 ?_
        ·exact (Z519 (pv 4) (j:=4) rfl)
theorem Z578:FnScope ["_law_script", "_law_k"] ["_law_script", "_law_k"] (defScope Z561):=⟨rfl,rfl,rfl,by decide +kernel,rfl,by decide +kernel,by decide +kernel⟩
theorem Z377:(["_law_script", "_law_k"]:List Str).Nodup:=Z578.nd
noncomputable def Z27(K:Qd)(A:Adr):SF :=
  (sSeq (sIf (bV (eNw hLt (aCons (eVar 1) (aCons (eNw (hLen K) (aCons (eVar 0) aNil)) aNil)))) (sRet (eCh (hIx K) (aCons (eVar 0) (aCons (eVar 1) aNil)))) sPass)
  (sRet (eC (.int (0)))))
noncomputable def Z175(K:Qd)(A:Adr):Fn:=runDef 2 [false,false] (Z27 K A)
set_option maxHeartbeats 0 in
theorem Z405(T:Txt K mg A):DefX P w K mg base "_law_at" 1 ["_law_script", "_law_k"] (spR (adr A) [false,false] (Z175 K A)) :=
 okD (k:=0) (N:=["_law_script", "_law_k"]) (ms:=[false,false]) (body:=Z27 K A) T.a__law_at Z578 rfl (by decide) fun f cdv A' outer s H E R hr hx hE ha=>by
  have hu:=hu_of hr
  refine Z543 ?_ ?_
  ·refine rs_if ?_ ?_ ?_
   ·refine Z548 on_lt ?_ ?_ (nomark _)
    ·exact (Z519 (pv 1) (j:=1) rfl)
    ·refine rc_b Z59 (by rfl) T.b_len boot_len ?_
     ·refine Z502 ?_ ?_
      ·exact (Z519 (pv 0) (j:=0) rfl)
      ·exact Z503
   ·refine Z547 ?_
    ·refine Z540 ?_
     ·refine re_ix ?_ ?_ (fun _ _=>rfl)
      ·exact (Z519 (pv 0) (j:=0) rfl)
      ·exact (Z519 (pv 1) (j:=1) rfl)
   ·exact Z545
  ·refine Z547 ?_
   ·refine Z540 ?_
    ·exact (re_C Z461)
theorem Z582:FnScope ["_law_script", "_law_k", "_law_base", "_law_many", "_law_cell", "_law_found", "_law_j", "_law_once"] ["_law_script", "_law_k", "_law_base", "_law_many"] (defScope Z565):=⟨rfl,rfl,rfl,by decide +kernel,rfl,by decide +kernel,by decide +kernel⟩
theorem Z381:(["_law_script", "_law_k", "_law_base", "_law_many", "_law_cell", "_law_found", "_law_j", "_law_once"]:List Str).Nodup:=Z582.nd
noncomputable def Z324(K:Qd)(A:Adr):SF :=
  (sKill [6,7] (sIf (bV (eNw (hEq false) (aCons (eNw hMod (aCons (eCall [false,false] (Z175 K A) (aCons (eVar 0) (aCons (eC (.int (0))) aNil))) (aCons (eC (.int (2))) aNil))) (aCons (eC (.int (0))) aNil)))) (sSeq (sE (eMu 0 hApp (aCons (eGuard isLst (eVar 5)) (aCons (eNw hMod (aCons (eVar 4) (aCons (eVar 2) aNil))) aNil))))
  (sAsg (eNw hDiv (aCons (eVar 4) (aCons (eVar 2) aNil))) (asgD 4))) (sSeq (sAsg (eNw hMod (aCons (eNw hMul (aCons (eNw hAddI (aCons (eNw hAddI (aCons (eVar 4) (aCons (eNw hMul (aCons (eC (.int (31))) (aCons (eVar 6) aNil))) aNil))) (aCons (eC (.int (1))) aNil))) (aCons (eC (.int (48271))) aNil))) (aCons (eC (.int (2147483647))) aNil))) (asgD 7))
  (sE (eMu 0 hApp (aCons (eGuard isLst (eVar 5)) (aCons (eNw hMod (aCons (eNw hMod (aCons (eNw hMul (aCons (eNw hAddI (aCons (eNw hAddI (aCons (eNw hAddI (aCons (eVar 7) (aCons (eNw hMul (aCons (eC (.int (7919))) (aCons (eVar 1) aNil))) aNil))) (aCons (eVar 6) aNil))) (aCons (eC (.int (1))) aNil))) (aCons (eC (.int (69621))) aNil))) (aCons (eC (.int (2147483647))) aNil))) (aCons (eVar 2) aNil))) aNil)))))))
noncomputable def Z31(K:Qd)(A:Adr):SF :=
  (sSeq (sAsg (eCall [false,false] (Z175 K A) (aCons (eVar 0) (aCons (eVar 1) aNil))) (asgD 4))
  (sSeq (sAsg (eDisp (.lst true) aNil) (asgD 5))
  (sSeq (sForR (aCons (eVar 3) aNil) (asgD 6)
  (Z324 K A))
  (sRet (eVar 5)))))
noncomputable def Z179(K:Qd)(A:Adr):Fn:=runDef 8 [false,false,false,false] (Z31 K A)
set_option maxHeartbeats 0 in
theorem Z409(T:Txt K mg A):DefX P w K mg base "_law_figures" 2 ["_law_script", "_law_k", "_law_base", "_law_many"] (spR (adr A) [false,false,false,false] (Z179 K A)) :=
 okD (k:=1) (N:=["_law_script", "_law_k", "_law_base", "_law_many", "_law_cell", "_law_found", "_law_j", "_law_once"]) (ms:=[false,false,false,false]) (body:=Z31 K A) T.a__law_figures Z582 rfl (by decide) fun f cdv A' outer s H E R hr hx hE ha=>by
  have hu:=hu_of hr
  refine Z543 ?_ ?_
  ·refine Z532 ?_ ?_
   ·refine rc_fn (ms:=[false,false]) (by rw [ha];exact (Z405 T)) (hr.mono (by omega)) hx ?_ (Z1 (Z1 Z2))
    ·refine Z502 ?_ ?_
     ·exact (Z519 (pv 0) (j:=0) rfl)
     ·refine Z502 ?_ ?_
      ·exact (Z519 (pv 1) (j:=1) rfl)
      ·exact Z503
   ·exact (Z524 (i:=4) Z381 rfl (Or.inl rfl) rfl (by decide))
  ·refine Z543 ?_ ?_
   ·refine Z532 ?_ ?_
    ·refine Z515 ?_
     ·exact Z503
    ·exact (Z524 (i:=5) Z381 rfl (Or.inl rfl) rfl (by decide))
   ·refine Z543 ?_ ?_
    ·refine Z536 Z448 rfl rfl T.b_range ?_ ?_ ?_
     ·exact (Z519 (pv 3) (j:=3) rfl)
     ·exact (Z524 (i:=6) Z381 rfl (Or.inl rfl) rfl (by decide))
     ·refine Z544 (js:=[6,7]) (by decide) ?_
      ·refine Z547 ?_
       ·refine rs_if ?_ ?_ ?_
        ·refine Z548 on_eq ?_ ?_ (nomark _)
         ·refine re_op Z424 ?_ ?_
          ·refine rc_fn (ms:=[false,false]) (by rw [ha];exact (Z405 T)) (hr.mono (by omega)) hx ?_ (Z1 (Z1 Z2))
           ·refine Z502 ?_ ?_
            ·exact (Z519 (pv 0) (j:=0) rfl)
            ·refine Z502 ?_ ?_
             ·exact (re_C Z461)
             ·exact Z503
          ·exact (re_C Z461)
         ·exact (re_C Z461)
        ·refine Z543 ?_ ?_
         ·refine rs_e ?_
          ·refine Z506 ?_ ?_
           ·exact (Z519 (pv 5) (j:=5) rfl)
           ·refine re_op Z424 ?_ ?_
            ·exact (Z519 (pv 4) (j:=4) rfl)
            ·exact (Z519 (pv 2) (j:=2) rfl)
         ·refine Z547 ?_
          ·refine Z532 ?_ ?_
           ·refine re_op Z422 ?_ ?_
            ·exact (Z519 (pv 4) (j:=4) rfl)
            ·exact (Z519 (pv 2) (j:=2) rfl)
           ·exact (Z524 (i:=4) Z381 rfl (Or.inl rfl) rfl (by decide))
        ·refine Z543 ?_ ?_
         ·refine Z532 ?_ ?_
          ·refine re_op Z424 ?_ ?_
           ·refine re_op Z425 ?_ ?_
            ·refine re_op Z420 ?_ ?_
             ·refine re_op Z420 ?_ ?_
              ·exact (Z519 (pv 4) (j:=4) rfl)
              ·refine re_op Z425 ?_ ?_
               ·exact (re_C Z461)
               ·exact (Z519 (pv 6) (j:=6) rfl)
             ·exact (re_C Z461)
            ·exact (re_C Z461)
           ·exact (re_C Z461)
          ·exact (Z524 (i:=7) Z381 rfl (Or.inl rfl) rfl (by decide))
         ·refine Z547 ?_
          ·refine rs_e ?_
           ·refine Z506 ?_ ?_
            ·exact (Z519 (pv 5) (j:=5) rfl)
            ·refine re_op Z424 ?_ ?_
             ·refine re_op Z424 ?_ ?_
              ·refine re_op Z425 ?_ ?_
               ·refine re_op Z420 ?_ ?_
                ·refine re_op Z420 ?_ ?_
                 ·refine re_op Z420 ?_ ?_
                  ·exact (Z519 (pv 7) (j:=7) rfl)
                  ·refine re_op Z425 ?_ ?_
                   ·exact (re_C Z461)
                   ·exact (Z519 (pv 1) (j:=1) rfl)
                 ·exact (Z519 (pv 6) (j:=6) rfl)
                ·exact (re_C Z461)
               ·exact (re_C Z461)
              ·exact (re_C Z461)
             ·exact (Z519 (pv 2) (j:=2) rfl)
    ·refine Z547 ?_
     ·refine Z540 ?_
      ·exact (Z519 (pv 5) (j:=5) rfl)
theorem Z579:FnScope ["_law_many", "_law_spread", "_law_one", "_law_made"] ["_law_many", "_law_spread", "_law_one"] (defScope Z562):=⟨rfl,rfl,rfl,by decide +kernel,rfl,by decide +kernel,by decide +kernel⟩
theorem Z378:(["_law_many", "_law_spread", "_law_one", "_law_made"]:List Str).Nodup:=Z579.nd
noncomputable def Z612(K:Qd)(A:Adr):SF :=
  (sSeq (sE (eIns (aCons (eGuard isLst (eVar 3)) (aCons (eNw hMod (aCons (eNw hDiv (aCons (eVar 2) (aCons (eC (.int (2))) aNil))) (aCons (eVar 0) aNil))) (aCons (eDisp (.lst true) (aCons (eC (.int (0))) aNil)) aNil)))))
  (sRet (eVar 3)))
noncomputable def Z611(K:Qd)(A:Adr):SF :=
  (sSeq (sIf (bV (eNw (hEq false) (aCons (eNw hMod (aCons (eVar 2) (aCons (eC (.int (2))) aNil))) (aCons (eC (.int (1))) aNil)))) (sAsg (eCompL (eVar 3) (fun _=>bYes) (fun n1=>(eNw hRev (aCons (eVar n1) (aCons (eNw hNeg (aCons (eC (.int (1))) aNil)) aNil))))) (asgD 3)) sPass)
  (Z612 K A))
noncomputable def Z28(K:Qd)(A:Adr):SF :=
  (sSeq (sAsg (eCompR1 (eNw hSub (aCons (eVar 0) (aCons (eC (.int (1))) aNil))) (fun _=>bYes) (fun n1=>(eDisp (.lst true) (aCons (eNw hMul (aCons (eVar n1) (aCons (eVar 1) aNil))) (aCons (eNw hMul (aCons (eNw hAddI (aCons (eVar n1) (aCons (eC (.int (1))) aNil))) (aCons (eVar 1) aNil))) aNil))))) (asgD 3))
  (Z611 K A))
noncomputable def Z176(K:Qd)(A:Adr):Fn:=runDef 4 [false,false,false] (Z28 K A)
set_option maxHeartbeats 0 in
theorem Z406(T:Txt K mg A):DefX P w K mg base "_law_chain" 1 ["_law_many", "_law_spread", "_law_one"] (spR (adr A) [false,false,false] (Z176 K A)) :=
 okD (k:=0) (N:=["_law_many", "_law_spread", "_law_one", "_law_made"]) (ms:=[false,false,false]) (body:=Z28 K A) T.a__law_chain Z579 rfl (by decide) fun f cdv A' outer s H E R hr hx hE ha=>by
  have hu:=hu_of hr
  refine Z543 ?_ ?_
  ·refine Z542 (N:=["_law_k", "_law_many", "_law_spread", "_law_one", "_law_made"]) rfl (by decide) rfl T.b_range ?_ (CompSc.of (sc:=defScope Z562) (N0:=["_law_many", "_law_spread", "_law_one", "_law_made"]) rfl rfl (by decide +kernel)) (fun cl C s H fp=>(Z470 (i:=0) (show (["_law_k", "_law_many", "_law_spread", "_law_one", "_law_made"]:List Str).Nodup from by decide +kernel) rfl (Or.inl rfl))) (fun cl C s H fp=>Z501) (fun cl C s H fp=>px_e fun n1 hn1=>?_) Z378 rfl (i:=3) rfl (j:=3) rfl (by rfl)
   ·refine re_op Z428 ?_ ?_
    ·exact (Z519 (pv 0) (j:=0) rfl)
    ·exact (re_C Z461)
   ·refine Z515 ?_
    ·refine Z502 ?_ ?_
     ·refine re_op Z425 ?_ ?_
      ·exact (Z519 (pv 0) (j:=n1) rfl)
      ·exact (Z519 (pv 2) (j:=1) rfl)
     ·refine Z502 ?_ ?_
      ·refine re_op Z425 ?_ ?_
       ·refine re_op Z420 ?_ ?_
        ·exact (Z519 (pv 0) (j:=n1) rfl)
        ·exact (re_C Z461)
       ·exact (Z519 (pv 2) (j:=1) rfl)
      ·exact Z503
  ·refine Z543 ?_ ?_
   ·refine rs_if ?_ ?_ ?_
    ·refine Z548 on_eq ?_ ?_ (nomark _)
     ·refine re_op Z424 ?_ ?_
      ·exact (Z519 (pv 2) (j:=2) rfl)
      ·exact (re_C Z461)
     ·exact (re_C Z461)
    ·refine Z547 ?_
     ·refine Z541 (N:=["_law_row", "_law_many", "_law_spread", "_law_one", "_law_made"]) rfl (by decide) ?_ (CompSc.of (sc:=defScope Z562) (N0:=["_law_many", "_law_spread", "_law_one", "_law_made"]) rfl rfl (by decide +kernel)) (fun cl C s H fp=>(Z470 (i:=0) (show (["_law_row", "_law_many", "_law_spread", "_law_one", "_law_made"]:List Str).Nodup from by decide +kernel) rfl (Or.inl rfl))) (fun cl C s H fp=>Z501) (fun cl C s H fp=>px_e fun n1 hn1=>?_) Z378 rfl (i:=3) rfl (j:=3) rfl (by rfl)
      ·exact (Z519 (pv 3) (j:=3) rfl)
      ·refine Z517 ?_ ?_
       ·exact (Z519 (pv 0) (j:=n1) rfl)
       ·refine Z516 ?_
        ·exact (re_C Z461)
    ·exact Z545
   ·refine Z543 ?_ ?_
    ·refine rs_e ?_
     ·refine Z514 ?_ ?_ ?_
      ·exact (Z519 (pv 3) (j:=3) rfl)
      ·refine re_op Z424 ?_ ?_
       ·refine re_op Z422 ?_ ?_
        ·exact (Z519 (pv 2) (j:=2) rfl)
        ·exact (re_C Z461)
       ·exact (Z519 (pv 0) (j:=0) rfl)
      ·refine Z515 ?_
       ·refine Z502 ?_ ?_
        ·exact (re_C Z461)
        ·exact Z503
    ·refine Z547 ?_
     ·refine Z540 ?_
      ·exact (Z519 (pv 3) (j:=3) rfl)
theorem Z583:FnScope ["_law_one", "_law_cells", "_law_first"] ["_law_one", "_law_cells", "_law_first"] (defScope Z566):=⟨rfl,rfl,rfl,by decide +kernel,rfl,by decide +kernel,by decide +kernel⟩
theorem Z382:(["_law_one", "_law_cells", "_law_first"]:List Str).Nodup:=Z583.nd
noncomputable def Z32(K:Qd)(A:Adr):SF :=
  (sSeq (sIf (bV (eNw (hEq false) (aCons (eNw hMod (aCons (eVar 0) (aCons (eC (.int (4))) aNil))) (aCons (eC (.int (0))) aNil)))) (sRet (eNw hMod (aCons (eNw hDiv (aCons (eVar 0) (aCons (eC (.int (4))) aNil))) (aCons (eNw hAddI (aCons (eVar 1) (aCons (eC (.int (1))) aNil))) aNil)))) sPass)
  (sSeq (sIf (bAnd (bV (eNw (hEq false) (aCons (eNw hMod (aCons (eVar 0) (aCons (eC (.int (4))) aNil))) (aCons (eC (.int (1))) aNil)))) (bV (eVar 2))) (sRet (eVar 1)) sPass)
  (sRet (eNw hMod (aCons (eNw hDiv (aCons (eVar 0) (aCons (eC (.int (4))) aNil))) (aCons (eNw hMin (aCons (eC (.int (4))) (aCons (eNw hAddI (aCons (eVar 1) (aCons (eC (.int (1))) aNil))) aNil))) aNil))))))
noncomputable def Z180(K:Qd)(A:Adr):Fn:=runDef 3 [false,false,false] (Z32 K A)
set_option maxHeartbeats 0 in
theorem Z410(T:Txt K mg A):DefX P w K mg base "_law_long" 1 ["_law_one", "_law_cells", "_law_first"] (spR (adr A) [false,false,false] (Z180 K A)) :=
 okD (k:=0) (N:=["_law_one", "_law_cells", "_law_first"]) (ms:=[false,false,false]) (body:=Z32 K A) T.a__law_long Z583 rfl (by decide) fun f cdv A' outer s H E R hr hx hE ha=>by
  have hu:=hu_of hr
  refine Z543 ?_ ?_
  ·refine rs_if ?_ ?_ ?_
   ·refine Z548 on_eq ?_ ?_ (nomark _)
    ·refine re_op Z424 ?_ ?_
     ·exact (Z519 (pv 0) (j:=0) rfl)
     ·exact (re_C Z461)
    ·exact (re_C Z461)
   ·refine Z547 ?_
    ·refine Z540 ?_
     ·refine re_op Z424 ?_ ?_
      ·refine re_op Z422 ?_ ?_
       ·exact (Z519 (pv 0) (j:=0) rfl)
       ·exact (re_C Z461)
      ·refine re_op Z420 ?_ ?_
       ·exact (Z519 (pv 1) (j:=1) rfl)
       ·exact (re_C Z461)
   ·exact Z545
  ·refine Z543 ?_ ?_
   ·refine rs_if ?_ ?_ ?_
    ·refine PW.pt ?_
     ·refine Z555 ?_ ?_
      ·refine Z548 on_eq ?_ ?_ (nomark _)
       ·refine re_op Z424 ?_ ?_
        ·exact (Z519 (pv 0) (j:=0) rfl)
        ·exact (re_C Z461)
       ·exact (re_C Z461)
      ·refine Z556 ?_
       ·refine rt_v ?_
        ·exact (Z519 (pv 2) (j:=2) rfl)
    ·refine Z547 ?_
     ·refine Z540 ?_
      ·exact (Z519 (pv 1) (j:=1) rfl)
    ·exact Z545
   ·refine Z547 ?_
    ·refine Z540 ?_
     ·refine re_op Z424 ?_ ?_
      ·refine re_op Z422 ?_ ?_
       ·exact (Z519 (pv 0) (j:=0) rfl)
       ·exact (re_C Z461)
      ·refine rc_b (Z62 rfl) (by rfl) T.b_min boot_min ?_
       ·refine Z502 ?_ ?_
        ·exact (re_C Z461)
        ·refine Z502 ?_ ?_
         ·refine re_op Z420 ?_ ?_
          ·exact (Z519 (pv 1) (j:=1) rfl)
          ·exact (re_C Z461)
         ·exact Z503
theorem Z584:FnScope ["_law_figs", "_law_many", "_law_wide", "_law_spread", "_law_row", "_law_k", "_law_spot"] ["_law_figs", "_law_many", "_law_wide", "_law_spread"] (defScope Z567):=⟨rfl,rfl,rfl,by decide +kernel,rfl,by decide +kernel,by decide +kernel⟩
theorem Z383:(["_law_figs", "_law_many", "_law_wide", "_law_spread", "_law_row", "_law_k", "_law_spot"]:List Str).Nodup:=Z584.nd
noncomputable def Z325(K:Qd)(A:Adr):SF :=
  (sKill [5,6] (sSeq (sAsg (eNw hMul (aCons (eNw hMod (aCons (eCh (hIx K) (aCons (eVar 0) (aCons (eVar 5) aNil))) (aCons (eVar 2) aNil))) (aCons (eVar 3) aNil))) (asgD 6))
  (sIf (bV (eNw (hIn true) (aCons (eVar 6) (aCons (eVar 4) aNil)))) (sE (eMu 0 hApp (aCons (eGuard isLst (eVar 4)) (aCons (eVar 6) aNil)))) sPass)))
noncomputable def Z33(K:Qd)(A:Adr):SF :=
  (sSeq (sAsg (eDisp (.lst true) aNil) (asgD 4))
  (sSeq (sForR (aCons (eVar 1) aNil) (asgD 5)
  (Z325 K A))
  (sRet (eVar 4))))
noncomputable def Z181(K:Qd)(A:Adr):Fn:=runDef 7 [false,false,false,false] (Z33 K A)
set_option maxHeartbeats 0 in
theorem Z411(T:Txt K mg A):DefX P w K mg base "_law_row_of" 1 ["_law_figs", "_law_many", "_law_wide", "_law_spread"] (spR (adr A) [false,false,false,false] (Z181 K A)) :=
 okD (k:=0) (N:=["_law_figs", "_law_many", "_law_wide", "_law_spread", "_law_row", "_law_k", "_law_spot"]) (ms:=[false,false,false,false]) (body:=Z33 K A) T.a__law_row_of Z584 rfl (by decide) fun f cdv A' outer s H E R hr hx hE ha=>by
  have hu:=hu_of hr
  refine Z543 ?_ ?_
  ·refine Z532 ?_ ?_
   ·refine Z515 ?_
    ·exact Z503
   ·exact (Z524 (i:=4) Z383 rfl (Or.inl rfl) rfl (by decide))
  ·refine Z543 ?_ ?_
   ·refine Z536 Z448 rfl rfl T.b_range ?_ ?_ ?_
    ·exact (Z519 (pv 1) (j:=1) rfl)
    ·exact (Z524 (i:=5) Z383 rfl (Or.inl rfl) rfl (by decide))
    ·refine Z544 (js:=[5,6]) (by decide) ?_
     ·refine Z543 ?_ ?_
      ·refine Z532 ?_ ?_
       ·refine re_op Z425 ?_ ?_
        ·refine re_op Z424 ?_ ?_
         ·refine re_ix ?_ ?_ (fun _ _=>rfl)
          ·exact (Z519 (pv 0) (j:=0) rfl)
          ·exact (Z519 (pv 5) (j:=5) rfl)
         ·exact (Z519 (pv 2) (j:=2) rfl)
        ·exact (Z519 (pv 3) (j:=3) rfl)
       ·exact (Z524 (i:=6) Z383 rfl (Or.inl rfl) rfl (by decide))
      ·refine Z547 ?_
       ·refine rs_if ?_ ?_ ?_
        ·refine Z548 Z426 ?_ ?_ rfl
         ·exact (Z519 (pv 6) (j:=6) rfl)
         ·exact (Z519 (pv 4) (j:=4) rfl)
        ·refine Z547 ?_
         ·refine rs_e ?_
          ·refine Z506 ?_ ?_
           ·exact (Z519 (pv 4) (j:=4) rfl)
           ·exact (Z519 (pv 6) (j:=6) rfl)
        ·exact Z545
   ·refine Z547 ?_
    ·refine Z540 ?_
     ·exact (Z519 (pv 4) (j:=4) rfl)
theorem Z580:FnScope ["_law_script", "_law_first", "_law_rows", "_law_cells", "_law_figs", "_law_many", "_law_wide", "_law_spread", "_law_made", "_law_k", "_law_long_here", "_law_row"] ["_law_script", "_law_first", "_law_rows", "_law_cells"] (defScope Z563):=⟨rfl,rfl,rfl,by decide +kernel,rfl,by decide +kernel,by decide +kernel⟩
theorem Z379:(["_law_script", "_law_first", "_law_rows", "_law_cells", "_law_figs", "_law_many", "_law_wide", "_law_spread", "_law_made", "_law_k", "_law_long_here", "_law_row"]:List Str).Nodup:=Z580.nd
noncomputable def Z616(K:Qd)(A:Adr):SF :=
  (sGrA 11 (eVar 8))
noncomputable def Z615(K:Qd)(A:Adr):SF :=
  (sSeq (sIf (bAnd (bV (eNw hGt (aCons (eVar 9) (aCons (eC (.int (0))) aNil)))) (bV (eNw (hEq false) (aCons (eNw hMod (aCons (eNw hDiv (aCons (eCh (hIx K) (aCons (eVar 4) (aCons (eVar 3) aNil))) (aCons (eC (.int (28))) aNil))) (aCons (eC (.int (6))) aNil))) (aCons (eC (.int (1))) aNil))))) (sAsg (eNw hList (aCons (eCh (hIx K) (aCons (eVar 8) (aCons (eNw hSub (aCons (eVar 9) (aCons (eC (.int (1))) aNil))) aNil))) aNil)) (asgD 11)) sPass)
  (Z616 K A))
noncomputable def Z614(K:Qd)(A:Adr):SF :=
  (sSeq (sAsg (eCall [false,false,false,false] (Z181 K A) (aCons (eVar 4) (aCons (eVar 10) (aCons (eVar 6) (aCons (eVar 7) aNil))))) (asgD 11))
  (Z615 K A))
noncomputable def Z613(K:Qd)(A:Adr):SF :=
  (sSeq (sAsg (eCall [false,false,false] (Z180 K A) (aCons (eCh (hIx K) (aCons (eVar 4) (aCons (eVar 3) aNil))) (aCons (eVar 3) (aCons (eNw hLt (aCons (eVar 9) (aCons (eNw hDiv (aCons (eVar 5) (aCons (eC (.int (2))) aNil))) aNil))) aNil)))) (asgD 10))
  (Z614 K A))
noncomputable def Z322(K:Qd)(A:Adr):SF :=
  (sKill [9,10,11] (sSeq (sAsg (eCall [false,false,false,false] (Z179 K A) (aCons (eVar 0) (aCons (eNw hAddI (aCons (eNw hAddI (aCons (eVar 1) (aCons (eC (.int (1))) aNil))) (aCons (eVar 9) aNil))) (aCons (eC (.int (840))) (aCons (eNw hAddI (aCons (eVar 3) (aCons (eC (.int (1))) aNil))) aNil))))) (asgD 4))
  (Z613 K A)))
noncomputable def Z621(K:Qd)(A:Adr):SF :=
  (sSeq (sAsg (eDisp (.lst true) aNil) (asgD 8))
  (sSeq (sForR (aCons (eVar 5) aNil) (asgD 9)
  (Z322 K A))
  (sRet (eVar 8))))
noncomputable def Z620(K:Qd)(A:Adr):SF :=
  (sSeq (sIf (bAnd (bV (eNw (hEq false) (aCons (eNw hMod (aCons (eCh (hIx K) (aCons (eVar 4) (aCons (eC (.int (3))) aNil))) (aCons (eC (.int (6))) aNil))) (aCons (eC (.int (1))) aNil)))) (bV (eNw hGt (aCons (eVar 5) (aCons (eC (.int (0))) aNil))))) (sRet (eCall [false,false,false] (Z176 K A) (aCons (eVar 5) (aCons (eVar 7) (aCons (eNw hDiv (aCons (eCh (hIx K) (aCons (eVar 4) (aCons (eC (.int (3))) aNil))) (aCons (eC (.int (6))) aNil))) aNil))))) sPass)
  (Z621 K A))
noncomputable def Z619(K:Qd)(A:Adr):SF :=
  (sSeq (sAsg (eCh (hIx K) (aCons (eDisp (.lst true) (aCons (eC (.int (1))) (aCons (eC (.int (1))) (aCons (eC (.int (7))) (aCons (eC (.int (1000003))) aNil))))) (aCons (eNw hMod (aCons (eCh (hIx K) (aCons (eVar 4) (aCons (eC (.int (2))) aNil))) (aCons (eC (.int (4))) aNil))) aNil))) (asgD 7))
  (Z620 K A))
noncomputable def Z618(K:Qd)(A:Adr):SF :=
  (sSeq (sAsg (eCh (hIx K) (aCons (eDisp (.lst true) (aCons (eNw hMax (aCons (eC (.int (1))) (aCons (eNw hSub (aCons (eNw hAddI (aCons (eVar 5) (aCons (eNw hMod (aCons (eNw hDiv (aCons (eCh (hIx K) (aCons (eVar 4) (aCons (eC (.int (1))) aNil))) (aCons (eC (.int (3))) aNil))) (aCons (eC (.int (5))) aNil))) aNil))) (aCons (eC (.int (3))) aNil))) aNil))) (aCons (eNw hAddI (aCons (eC (.int (1))) (aCons (eNw hDiv (aCons (eVar 5) (aCons (eC (.int (2))) aNil))) aNil))) (aCons (eC (.int (30))) aNil)))) (aCons (eCh (hIx K) (aCons (eDisp (.lst true) (aCons (eC (.int (0))) (aCons (eC (.int (0))) (aCons (eC (.int (0))) (aCons (eC (.int (1))) (aCons (eC (.int (1))) (aCons (eC (.int (2))) aNil))))))) (aCons (eNw hMod (aCons (eCh (hIx K) (aCons (eVar 4) (aCons (eC (.int (1))) aNil))) (aCons (eC (.int (6))) aNil))) aNil))) aNil))) (asgD 6))
  (Z619 K A))
noncomputable def Z617(K:Qd)(A:Adr):SF :=
  (sSeq (sAsg (eCh (hIx K) (aCons (eDisp (.lst true) (aCons (eNw hMod (aCons (eNw hDiv (aCons (eCh (hIx K) (aCons (eVar 4) (aCons (eC (.int (0))) aNil))) (aCons (eC (.int (3))) aNil))) (aCons (eNw hAddI (aCons (eVar 2) (aCons (eC (.int (1))) aNil))) aNil))) (aCons (eVar 2) (aCons (eNw hSub (aCons (eVar 2) (aCons (eNw hMod (aCons (eNw hDiv (aCons (eCh (hIx K) (aCons (eVar 4) (aCons (eC (.int (0))) aNil))) (aCons (eC (.int (3))) aNil))) (aCons (eC (.int (3))) aNil))) aNil))) aNil)))) (aCons (eNw hMod (aCons (eCh (hIx K) (aCons (eVar 4) (aCons (eC (.int (0))) aNil))) (aCons (eC (.int (3))) aNil))) aNil))) (asgD 5))
  (Z618 K A))
noncomputable def Z29(K:Qd)(A:Adr):SF :=
  (sSeq (sAsg (eCall [false,false,false,false] (Z179 K A) (aCons (eVar 0) (aCons (eVar 1) (aCons (eC (.int (840))) (aCons (eC (.int (4))) aNil))))) (asgD 4))
  (Z617 K A))
noncomputable def Z177(K:Qd)(A:Adr):Fn:=runDef 12 [false,false,false,false] (Z29 K A)
set_option maxHeartbeats 0 in
theorem Z407(T:Txt K mg A):DefX P w K mg base "_law_drawn_rows" 3 ["_law_script", "_law_first", "_law_rows", "_law_cells"] (spR (adr A) [false,false,false,false] (Z177 K A)) :=
 okD (k:=2) (N:=["_law_script", "_law_first", "_law_rows", "_law_cells", "_law_figs", "_law_many", "_law_wide", "_law_spread", "_law_made", "_law_k", "_law_long_here", "_law_row"]) (ms:=[false,false,false,false]) (body:=Z29 K A) T.a__law_drawn_rows Z580 rfl (by decide) fun f cdv A' outer s H E R hr hx hE ha=>by
  have hu:=hu_of hr
  refine Z543 ?_ ?_
  ·refine Z532 ?_ ?_
   ·refine rc_fn (ms:=[false,false,false,false]) (by rw [ha];exact (Z409 T)) (hr.mono (by omega)) hx ?_ (Z1 (Z1 (Z1 (Z1 Z2))))
    ·refine Z502 ?_ ?_
     ·exact (Z519 (pv 0) (j:=0) rfl)
     ·refine Z502 ?_ ?_
      ·exact (Z519 (pv 1) (j:=1) rfl)
      ·refine Z502 ?_ ?_
       ·exact (re_C Z461)
       ·refine Z502 ?_ ?_
        ·exact (re_C Z461)
        ·exact Z503
   ·exact (Z524 (i:=4) Z379 rfl (Or.inl rfl) rfl (by decide))
  ·refine Z543 ?_ ?_
   ·refine Z532 ?_ ?_
    ·refine re_ix ?_ ?_ (fun _ _=>rfl)
     ·refine Z515 ?_
      ·refine Z502 ?_ ?_
       ·refine re_op Z424 ?_ ?_
        ·refine re_op Z422 ?_ ?_
         ·refine re_ix ?_ ?_ (fun _ _=>rfl)
          ·exact (Z519 (pv 4) (j:=4) rfl)
          ·exact (re_C Z461)
         ·exact (re_C Z461)
        ·refine re_op Z420 ?_ ?_
         ·exact (Z519 (pv 2) (j:=2) rfl)
         ·exact (re_C Z461)
       ·refine Z502 ?_ ?_
        ·exact (Z519 (pv 2) (j:=2) rfl)
        ·refine Z502 ?_ ?_
         ·refine re_op Z428 ?_ ?_
          ·exact (Z519 (pv 2) (j:=2) rfl)
          ·refine re_op Z424 ?_ ?_
           ·refine re_op Z422 ?_ ?_
            ·refine re_ix ?_ ?_ (fun _ _=>rfl)
             ·exact (Z519 (pv 4) (j:=4) rfl)
             ·exact (re_C Z461)
            ·exact (re_C Z461)
           ·exact (re_C Z461)
         ·exact Z503
     ·refine re_op Z424 ?_ ?_
      ·refine re_ix ?_ ?_ (fun _ _=>rfl)
       ·exact (Z519 (pv 4) (j:=4) rfl)
       ·exact (re_C Z461)
      ·exact (re_C Z461)
    ·exact (Z524 (i:=5) Z379 rfl (Or.inl rfl) rfl (by decide))
   ·refine Z543 ?_ ?_
    ·refine Z532 ?_ ?_
     ·refine re_ix ?_ ?_ (fun _ _=>rfl)
      ·refine Z515 ?_
       ·refine Z502 ?_ ?_
        ·refine rc_b (Z61 rfl) (by rfl) T.b_max boot_max ?_
         ·refine Z502 ?_ ?_
          ·exact (re_C Z461)
          ·refine Z502 ?_ ?_
           ·refine re_op Z428 ?_ ?_
            ·refine re_op Z420 ?_ ?_
             ·exact (Z519 (pv 5) (j:=5) rfl)
             ·refine re_op Z424 ?_ ?_
              ·refine re_op Z422 ?_ ?_
               ·refine re_ix ?_ ?_ (fun _ _=>rfl)
                ·exact (Z519 (pv 4) (j:=4) rfl)
                ·exact (re_C Z461)
               ·exact (re_C Z461)
              ·exact (re_C Z461)
            ·exact (re_C Z461)
           ·exact Z503
        ·refine Z502 ?_ ?_
         ·refine re_op Z420 ?_ ?_
          ·exact (re_C Z461)
          ·refine re_op Z422 ?_ ?_
           ·exact (Z519 (pv 5) (j:=5) rfl)
           ·exact (re_C Z461)
         ·refine Z502 ?_ ?_
          ·exact (re_C Z461)
          ·exact Z503
      ·refine re_ix ?_ ?_ (fun _ _=>rfl)
       ·refine Z515 ?_
        ·refine Z502 ?_ ?_
         ·exact (re_C Z461)
         ·refine Z502 ?_ ?_
          ·exact (re_C Z461)
          ·refine Z502 ?_ ?_
           ·exact (re_C Z461)
           ·refine Z502 ?_ ?_
            ·exact (re_C Z461)
            ·refine Z502 ?_ ?_
             ·exact (re_C Z461)
             ·refine Z502 ?_ ?_
              ·exact (re_C Z461)
              ·exact Z503
       ·refine re_op Z424 ?_ ?_
        ·refine re_ix ?_ ?_ (fun _ _=>rfl)
         ·exact (Z519 (pv 4) (j:=4) rfl)
         ·exact (re_C Z461)
        ·exact (re_C Z461)
     ·exact (Z524 (i:=6) Z379 rfl (Or.inl rfl) rfl (by decide))
    ·refine Z543 ?_ ?_
     ·refine Z532 ?_ ?_
      ·refine re_ix ?_ ?_ (fun _ _=>rfl)
       ·refine Z515 ?_
        ·refine Z502 ?_ ?_
         ·exact (re_C Z461)
         ·refine Z502 ?_ ?_
          ·exact (re_C Z461)
          ·refine Z502 ?_ ?_
           ·exact (re_C Z461)
           ·refine Z502 ?_ ?_
            ·exact (re_C Z461)
            ·exact Z503
       ·refine re_op Z424 ?_ ?_
        ·refine re_ix ?_ ?_ (fun _ _=>rfl)
         ·exact (Z519 (pv 4) (j:=4) rfl)
         ·exact (re_C Z461)
        ·exact (re_C Z461)
      ·exact (Z524 (i:=7) Z379 rfl (Or.inl rfl) rfl (by decide))
     ·refine Z543 ?_ ?_
      ·refine rs_if ?_ ?_ ?_
       ·refine PW.pt ?_
        ·refine Z555 ?_ ?_
         ·refine Z548 on_eq ?_ ?_ (nomark _)
          ·refine re_op Z424 ?_ ?_
           ·refine re_ix ?_ ?_ (fun _ _=>rfl)
            ·exact (Z519 (pv 4) (j:=4) rfl)
            ·exact (re_C Z461)
           ·exact (re_C Z461)
          ·exact (re_C Z461)
         ·refine Z556 ?_
          ·refine Z548 on_gt ?_ ?_ (nomark _)
           ·exact (Z519 (pv 5) (j:=5) rfl)
           ·exact (re_C Z461)
       ·refine Z547 ?_
        ·refine Z540 ?_
         ·refine rc_fn (ms:=[false,false,false]) (by rw [ha];exact (Z406 T)) (hr.mono (by omega)) hx ?_ (Z1 (Z1 (Z1 Z2)))
          ·refine Z502 ?_ ?_
           ·exact (Z519 (pv 5) (j:=5) rfl)
           ·refine Z502 ?_ ?_
            ·exact (Z519 (pv 7) (j:=7) rfl)
            ·refine Z502 ?_ ?_
             ·refine re_op Z422 ?_ ?_
              ·refine re_ix ?_ ?_ (fun _ _=>rfl)
               ·exact (Z519 (pv 4) (j:=4) rfl)
               ·exact (re_C Z461)
              ·exact (re_C Z461)
             ·exact Z503
       ·exact Z545
      ·refine Z543 ?_ ?_
       ·refine Z532 ?_ ?_
        ·refine Z515 ?_
         ·exact Z503
        ·exact (Z524 (i:=8) Z379 rfl (Or.inl rfl) rfl (by decide))
       ·refine Z543 ?_ ?_
        ·refine Z536 Z448 rfl rfl T.b_range ?_ ?_ ?_
         ·exact (Z519 (pv 5) (j:=5) rfl)
         ·exact (Z524 (i:=9) Z379 rfl (Or.inl rfl) rfl (by decide))
         ·refine Z544 (js:=[9,10,11]) (by decide) ?_
          ·refine Z543 ?_ ?_
           ·refine Z532 ?_ ?_
            ·refine rc_fn (ms:=[false,false,false,false]) (by rw [ha];exact (Z409 T)) (hr.mono (by omega)) hx ?_ (Z1 (Z1 (Z1 (Z1 Z2))))
             ·refine Z502 ?_ ?_
              ·exact (Z519 (pv 0) (j:=0) rfl)
              ·refine Z502 ?_ ?_
               ·refine re_op Z420 ?_ ?_
                ·refine re_op Z420 ?_ ?_
                 ·exact (Z519 (pv 1) (j:=1) rfl)
                 ·exact (re_C Z461)
                ·exact (Z519 (pv 9) (j:=9) rfl)
               ·refine Z502 ?_ ?_
                ·exact (re_C Z461)
                ·refine Z502 ?_ ?_
                 ·refine re_op Z420 ?_ ?_
                  ·exact (Z519 (pv 3) (j:=3) rfl)
                  ·exact (re_C Z461)
                 ·exact Z503
            ·exact (Z524 (i:=4) Z379 rfl (Or.inl rfl) rfl (by decide))
           ·refine Z543 ?_ ?_
            ·refine Z532 ?_ ?_
             ·refine rc_fn (ms:=[false,false,false]) (by rw [ha];exact (Z410 T)) (hr.mono (by omega)) hx ?_ (Z1 (Z1 (Z1 Z2)))
              ·refine Z502 ?_ ?_
               ·refine re_ix ?_ ?_ (fun _ _=>rfl)
                ·exact (Z519 (pv 4) (j:=4) rfl)
                ·exact (Z519 (pv 3) (j:=3) rfl)
               ·refine Z502 ?_ ?_
                ·exact (Z519 (pv 3) (j:=3) rfl)
                ·refine Z502 ?_ ?_
                 ·refine Z507 on_lt ?_ ?_ (nomark _)
                  ·exact (Z519 (pv 9) (j:=9) rfl)
                  ·refine re_op Z422 ?_ ?_
                   ·exact (Z519 (pv 5) (j:=5) rfl)
                   ·exact (re_C Z461)
                 ·exact Z503
             ·exact (Z524 (i:=10) Z379 rfl (Or.inl rfl) rfl (by decide))
            ·refine Z543 ?_ ?_
             ·refine Z532 ?_ ?_
              ·refine rc_fn (ms:=[false,false,false,false]) (by rw [ha];exact (Z411 T)) (hr.mono (by omega)) hx ?_ (Z1 (Z1 (Z1 (Z1 Z2))))
               ·refine Z502 ?_ ?_
                ·exact (Z519 (pv 4) (j:=4) rfl)
                ·refine Z502 ?_ ?_
                 ·exact (Z519 (pv 10) (j:=10) rfl)
                 ·refine Z502 ?_ ?_
                  ·exact (Z519 (pv 6) (j:=6) rfl)
                  ·refine Z502 ?_ ?_
                   ·exact (Z519 (pv 7) (j:=7) rfl)
                   ·exact Z503
              ·exact (Z524 (i:=11) Z379 rfl (Or.inl rfl) rfl (by decide))
             ·refine Z543 ?_ ?_
              ·refine rs_if ?_ ?_ ?_
               ·refine PW.pt ?_
                ·refine Z555 ?_ ?_
                 ·refine Z548 on_gt ?_ ?_ (nomark _)
                  ·exact (Z519 (pv 9) (j:=9) rfl)
                  ·exact (re_C Z461)
                 ·refine Z556 ?_
                  ·refine Z548 on_eq ?_ ?_ (nomark _)
                   ·refine re_op Z424 ?_ ?_
                    ·refine re_op Z422 ?_ ?_
                     ·refine re_ix ?_ ?_ (fun _ _=>rfl)
                      ·exact (Z519 (pv 4) (j:=4) rfl)
                      ·exact (Z519 (pv 3) (j:=3) rfl)
                     ·exact (re_C Z461)
                    ·exact (re_C Z461)
                   ·exact (re_C Z461)
               ·refine Z547 ?_
                ·refine Z532 ?_ ?_
                 ·refine rc_ty Z60 (by rfl) T.b_list boot_list ?_
                  ·refine Z502 ?_ ?_
                   ·refine re_ix ?_ ?_ (fun _ _=>rfl)
                    ·exact (Z519 (pv 8) (j:=8) rfl)
                    ·refine re_op Z428 ?_ ?_
                     ·exact (Z519 (pv 9) (j:=9) rfl)
                     ·exact (re_C Z461)
                   ·exact Z503
                 ·exact (Z524 (i:=11) Z379 rfl (Or.inl rfl) rfl (by decide))
               ·exact Z545
              ·refine Z547 ?_
               ·refine Z537 ?_ (pv 11) (j:=11) rfl (by decide)
                ·exact (Z519 (pv 8) (j:=8) rfl)
        ·refine Z547 ?_
         ·refine Z540 ?_
          ·exact (Z519 (pv 8) (j:=8) rfl)
theorem Z577:FnScope ["_law_rows", "_law_made", "_law_row", "_law_longer", "_law_one", "_law_spot"] ["_law_rows"] (defScope Z560):=⟨rfl,rfl,rfl,by decide +kernel,rfl,by decide +kernel,by decide +kernel⟩
theorem Z376:(["_law_rows", "_law_made", "_law_row", "_law_longer", "_law_one", "_law_spot"]:List Str).Nodup:=Z577.nd
noncomputable def Z319(K:Qd)(A:Adr):SF :=
  (sKill [5] (sIf (bV (eNw (hIn true) (aCons (eVar 5) (aCons (eVar 4) aNil)))) (sE (eMu 0 hApp (aCons (eGuard isLst (eVar 3)) (aCons (eNw hCat (aCons (eVar 4) (aCons (eDisp (.lst true) (aCons (eVar 5) aNil)) aNil))) aNil)))) sPass))
noncomputable def Z320(K:Qd)(A:Adr):SF :=
  (sKill [4,5] (sSeq (sForL (eVar 2) (asgD 5)
  (Z319 K A))
  (sE (eMu 0 hApp (aCons (eGuard isLst (eVar 3)) (aCons (eNw hCat (aCons (eVar 4) (aCons (eDisp (.lst true) (aCons (eC .non) aNil)) aNil))) aNil))))))
noncomputable def Z321(K:Qd)(A:Adr):SF :=
  (sKill [2,3,4,5] (sSeq (sAsg (eDisp (.lst true) aNil) (asgD 3))
  (sSeq (sForL (eVar 1) (asgD 4)
  (Z320 K A))
  (sMove 1 3))))
noncomputable def Z26(K:Qd)(A:Adr):SF :=
  (sSeq (sAsg (eDisp (.lst true) (aCons (eDisp (.lst true) aNil) aNil)) (asgD 1))
  (sSeq (sForL (eVar 0) (asgD 2)
  (Z321 K A))
  (sRet (eVar 1))))
noncomputable def Z174(K:Qd)(A:Adr):Fn:=runDef 6 [false] (Z26 K A)
set_option maxHeartbeats 0 in
theorem Z404(T:Txt K mg A):DefX P w K mg base "_law_all_dealings" 1 ["_law_rows"] (spR (adr A) [false] (Z174 K A)) :=
 okD (k:=0) (N:=["_law_rows", "_law_made", "_law_row", "_law_longer", "_law_one", "_law_spot"]) (ms:=[false]) (body:=Z26 K A) T.a__law_all_dealings Z577 rfl (by decide) fun f cdv A' outer s H E R hr hx hE ha=>by
  have hu:=hu_of hr
  refine Z543 ?_ ?_
  ·refine Z532 ?_ ?_
   ·refine Z515 ?_
    ·refine Z502 ?_ ?_
     ·refine Z515 ?_
      ·exact Z503
     ·exact Z503
   ·exact (Z524 (i:=1) Z376 rfl (Or.inl rfl) rfl (by decide))
  ·refine Z543 ?_ ?_
   ·refine Z535 Z448 rfl ?_ ?_ ?_
    ·exact (Z519 (pv 0) (j:=0) rfl)
    ·exact (Z524 (i:=2) Z376 rfl (Or.inl rfl) rfl (by decide))
    ·refine Z544 (js:=[2,3,4,5]) (by decide) ?_
     ·refine Z543 ?_ ?_
      ·refine Z532 ?_ ?_
       ·refine Z515 ?_
        ·exact Z503
       ·exact (Z524 (i:=3) Z376 rfl (Or.inl rfl) rfl (by decide))
      ·refine Z543 ?_ ?_
       ·refine Z535 Z448 rfl ?_ ?_ ?_
        ·exact (Z519 (pv 1) (j:=1) rfl)
        ·exact (Z524 (i:=4) Z376 rfl (Or.inl rfl) rfl (by decide))
        ·refine Z544 (js:=[4,5]) (by decide) ?_
         ·refine Z543 ?_ ?_
          ·refine Z535 Z448 rfl ?_ ?_ ?_
           ·exact (Z519 (pv 2) (j:=2) rfl)
           ·exact (Z524 (i:=5) Z376 rfl (Or.inl rfl) rfl (by decide))
           ·refine Z544 (js:=[5]) (by decide) ?_
            ·refine Z547 ?_
             ·refine rs_if ?_ ?_ ?_
              ·refine Z548 Z426 ?_ ?_ rfl
               ·exact (Z519 (pv 5) (j:=5) rfl)
               ·exact (Z519 (pv 4) (j:=4) rfl)
              ·refine Z547 ?_
               ·refine rs_e ?_
                ·refine Z506 ?_ ?_
                 ·exact (Z519 (pv 3) (j:=3) rfl)
                 ·refine re_op Z421 ?_ ?_
                  ·exact (Z519 (pv 4) (j:=4) rfl)
                  ·refine Z515 ?_
                   ·refine Z502 ?_ ?_
                    ·exact (Z519 (pv 5) (j:=5) rfl)
                    ·exact Z503
              ·exact Z545
          ·refine Z547 ?_
           ·refine rs_e ?_
            ·refine Z506 ?_ ?_
             ·exact (Z519 (pv 3) (j:=3) rfl)
             ·refine re_op Z421 ?_ ?_
              ·exact (Z519 (pv 4) (j:=4) rfl)
              ·refine Z515 ?_
               ·refine Z502 ?_ ?_
                ·exact (re_C Z463)
                ·exact Z503
       ·refine Z547 ?_
        ·exact (Z539 (ia:=1) (ib:=3) (i:=1) (j:=3) (pv 3) Z376 rfl (Or.inl rfl) rfl rfl (by decide) (by decide))
   ·refine Z547 ?_
    ·refine Z540 ?_
     ·exact (Z519 (pv 1) (j:=1) rfl)
theorem Z581:FnScope ["_law_rows", "_law_due_here", "_law_most", "_law_one", "_law_served"] ["_law_rows"] (defScope Z564):=⟨rfl,rfl,rfl,by decide +kernel,rfl,by decide +kernel,by decide +kernel⟩
theorem Z380:(["_law_rows", "_law_due_here", "_law_most", "_law_one", "_law_served"]:List Str).Nodup:=Z581.nd
noncomputable def Z323(K:Qd)(A:Adr):SF :=
  (sKill [3,4] (sSeq (sAsg (eNw (hLen K) (aCons (eCompL (eVar 3) (fun n1=>(bV (eNw (hIsN true) (aCons (eVar n1) (aCons (eC .non) aNil))))) (fun n1=>(eVar n1))) aNil)) (asgD 4))
  (sIf (bV (eNw hGt (aCons (eVar 4) (aCons (eVar 2) aNil)))) (sSeq (sAsg (eVar 4) (asgD 2))
  (sMove 1 3)) sPass)))
noncomputable def Z30(K:Qd)(A:Adr):SF :=
  (sSeq (sAsg (eDisp (.lst true) aNil) (asgD 1))
  (sSeq (sAsg (eNw hNeg (aCons (eC (.int (1))) aNil)) (asgD 2))
  (sSeq (sForL (eCall [false] (Z174 K A) (aCons (eVar 0) aNil)) (asgD 3)
  (Z323 K A))
  (sRet (eVar 1)))))
noncomputable def Z178(K:Qd)(A:Adr):Fn:=runDef 5 [false] (Z30 K A)
set_option maxHeartbeats 0 in
theorem Z408(T:Txt K mg A):DefX P w K mg base "_law_due" 2 ["_law_rows"] (spR (adr A) [false] (Z178 K A)) :=
 okD (k:=1) (N:=["_law_rows", "_law_due_here", "_law_most", "_law_one", "_law_served"]) (ms:=[false]) (body:=Z30 K A) T.a__law_due Z581 rfl (by decide) fun f cdv A' outer s H E R hr hx hE ha=>by
  have hu:=hu_of hr
  refine Z543 ?_ ?_
  ·refine Z532 ?_ ?_
   ·refine Z515 ?_
    ·exact Z503
   ·exact (Z524 (i:=1) Z380 rfl (Or.inl rfl) rfl (by decide))
  ·refine Z543 ?_ ?_
   ·refine Z532 ?_ ?_
    ·refine Z516 ?_
     ·exact (re_C Z461)
    ·exact (Z524 (i:=2) Z380 rfl (Or.inl rfl) rfl (by decide))
   ·refine Z543 ?_ ?_
    ·refine Z535 Z448 rfl ?_ ?_ ?_
     ·refine rc_fn (ms:=[false]) (by rw [ha];exact (Z404 T)) (hr.mono (by omega)) hx ?_ (Z1 Z2)
      ·refine Z502 ?_ ?_
       ·exact (Z519 (pv 0) (j:=0) rfl)
       ·exact Z503
     ·exact (Z524 (i:=3) Z380 rfl (Or.inl rfl) rfl (by decide))
     ·refine Z544 (js:=[3,4]) (by decide) ?_
      ·refine Z543 ?_ ?_
       ·refine Z532 ?_ ?_
        ·refine rc_b Z59 (by rfl) T.b_len boot_len ?_
         ·refine Z502 ?_ ?_
          ·refine Z508 (N:=["_law_spot", "_law_rows", "_law_due_here", "_law_most", "_law_one", "_law_served"]) rfl (by decide) ?_ (CompSc.of (sc:=defScope Z564) (N0:=["_law_rows", "_law_due_here", "_law_most", "_law_one", "_law_served"]) rfl rfl (by decide +kernel)) (fun cl C s H fp=>(Z470 (i:=0) (show (["_law_spot", "_law_rows", "_law_due_here", "_law_most", "_law_one", "_law_served"]:List Str).Nodup from by decide +kernel) rfl (Or.inl rfl))) (fun cl C s H fp=>px_t fun n1 hn1=>?_) (fun cl C s H fp=>px_e fun n1 hn1=>?_)
           ·exact (Z519 (pv 3) (j:=3) rfl)
           ·refine Z548 Z427 ?_ ?_ (nomark _)
            ·exact (Z519 (pv 0) (j:=n1) rfl)
            ·exact (re_C Z463)
           ·exact (Z519 (pv 0) (j:=n1) rfl)
          ·exact Z503
        ·exact (Z524 (i:=4) Z380 rfl (Or.inl rfl) rfl (by decide))
       ·refine Z547 ?_
        ·refine rs_if ?_ ?_ ?_
         ·refine Z548 on_gt ?_ ?_ (nomark _)
          ·exact (Z519 (pv 4) (j:=4) rfl)
          ·exact (Z519 (pv 2) (j:=2) rfl)
         ·refine Z543 ?_ ?_
          ·refine Z532 ?_ ?_
           ·exact (Z519 (pv 4) (j:=4) rfl)
           ·exact (Z524 (i:=2) Z380 rfl (Or.inl rfl) rfl (by decide))
          ·refine Z547 ?_
           ·exact (Z539 (ia:=1) (ib:=3) (i:=1) (j:=3) (pv 3) Z380 rfl (Or.inl rfl) rfl rfl (by decide) (by decide))
         ·exact Z545
    ·refine Z547 ?_
     ·refine Z540 ?_
      ·exact (Z519 (pv 1) (j:=1) rfl)
theorem Z585:FnScope ["_law_found", "_law_due_here"] ["_law_found", "_law_due_here"] (defScope Z568):=⟨rfl,rfl,rfl,by decide +kernel,rfl,by decide +kernel,by decide +kernel⟩
theorem Z384:(["_law_found", "_law_due_here"]:List Str).Nodup:=Z585.nd
noncomputable def Z600(n:Nat)(K:Qd)(A:Adr):Sp:=fun vs H Q _=>∃ (x y:V) (d d':Dt),vs=[x,y]∧RelD H d x∧RelD H d' y∧d'.dep≤n∧∀ H',Same H H'→Q (.bl (Dt.eq d d')) H'
theorem Z336{n:Nat}{vs:List V}{H:Hp}{Q:VK}{E:XK}(h:Z600 n K A vs H Q E):vs.length=2:=by obtain ⟨_,_,_,_,rfl,_⟩:=h;rfl
theorem Z685{vs:List V}{H:Hp}{Q:VK}{E:XK}(h:Z600 0 K A vs H Q E):False:=by
 obtain ⟨_,_,_,d',_,_,_,h,_⟩:=h
 have:=d'.dep_pos
 omega
set_option maxHeartbeats 0 in
theorem Z403(T:Txt K mg A):∀ n,DefX P w K mg base "_law_same" (n + 1) ["_law_found", "_law_due_here"] (Z600 n K A)
 | 0=>T.a__law_same.okX (k:=0) Z585 (fun vs H Q E h=>Z336 h) (fun f cdv A outer s H vs Q E hr h=>(Z685 h).elim)
 | n + 1=>by
  have ih:DefX P w K mg base "_law_same" (n + 1) ["_law_found", "_law_due_here"] (Z600 n K A):=Z403 T n
  refine T.a__law_same.okX (k:=n + 1) Z585 (fun vs H Q E h=>Z336 h) (fun f cdv A' outer s H vs Q E hr h=>?_)
  have hu:=hu_of hr
  refine ⟨_,(Z488 (ps_if (Z494 (Z453 Z47 (by rfl) T.b_isinstance boot_isinstance (Z445 (pv 1) (Z445 (Z466 (Z445 (Z451 (v:=.ty "list") rfl T.b_list boot_list rfl) (Z445 (Z451 (v:=.ty "tuple") rfl T.b_tuple boot_tuple rfl) Z446))) Z446)))) (Z488 (ps_if (PW.pt (pw_or (Z492 op_ne (Z453 Z46 (by rfl) T.b_isinstance boot_isinstance (Z445 (pv 0) (Z445 (Z451 (v:=.ty "list") rfl T.b_list boot_list rfl) Z446))) (Z453 Z46 (by rfl) T.b_isinstance boot_isinstance (Z445 (pv 1) (Z445 (Z451 (v:=.ty "list") rfl T.b_list boot_list rfl) Z446))) (nomark _)) (Z500 (Z492 op_ne (Z453 Z46 (by rfl) T.b_isinstance boot_isinstance (Z445 (pv 0) (Z445 (Z451 (v:=.ty "tuple") rfl T.b_tuple boot_tuple rfl) Z446))) (Z453 Z46 (by rfl) T.b_isinstance boot_isinstance (Z445 (pv 1) (Z445 (Z451 (v:=.ty "tuple") rfl T.b_tuple boot_tuple rfl) Z446))) (nomark _))))) (Z490 (Z486 pe_bl)) Z489)
   (Z490 (Z486 (Z450 (Z455 op_eq (Z453 (KQ.call_len K) (by rfl) T.b_len boot_len (Z445 (pv 0) Z446)) (Z453 (KQ.call_len K) (by rfl) T.b_len boot_len (Z445 (pv 1) Z446)) (nomark _)) (Z464 (Z453 (KQ.call_all K rfl) (by rfl) T.b_all boot_all (Z445 (Z456 (t:=1) (N:=["_law_k", "_law_found", "_law_due_here"]) rfl (Z475 rfl T.b_range (Z445 (Z453 (KQ.call_len K) (by rfl) T.b_len boot_len (Z445 (pv 1) Z446)) Z446)) (CompSc.of (sc:=defScope Z568) (N0:=["_law_found", "_law_due_here"]) rfl rfl (by decide +kernel)) (fun cl C s H fp=>(Z470 (i:=0) (show (["_law_k", "_law_found", "_law_due_here"]:List Str).Nodup from by decide +kernel) rfl (Or.inl rfl))) (fun cl C s H fp=>Z468) (fun cl C s H fp=>(Z460 ih (hr.mono (by omega)) passT0 (Z445 (pe_ix (KQ.ix_seq K) (pv 1) (pv 0) (fun _ _=>rfl)) (Z445 (pe_ix (KQ.ix_seq K) (pv 2) (pv 0) (fun _ _=>rfl)) Z446))))) Z446))))))) Z489)
   (Z488 (ps_if (PW.pt (pw_or (Z492 Z432 (pv 1) Z463 (nomark _)) (Z500 (Z492 Z432 (pv 0) Z463 (nomark _))))) (Z490 (Z486 (Z450 (Z455 Z432 (pv 1) Z463 (nomark _)) (Z464 (Z455 Z432 (pv 0) Z463 (nomark _)))))) Z489)
   (Z488 (ps_if (PW.pt (pw_or (Z492 op_ne (Z453 Z46 (by rfl) T.b_isinstance boot_isinstance (Z445 (pv 0) (Z445 (Z451 (v:=.ty "bool") rfl T.b_bool boot_bool rfl) Z446))) (Z453 Z46 (by rfl) T.b_isinstance boot_isinstance (Z445 (pv 1) (Z445 (Z451 (v:=.ty "bool") rfl T.b_bool boot_bool rfl) Z446))) (nomark _)) (Z500 (Z492 op_ne (Z453 Z46 (by rfl) T.b_isinstance boot_isinstance (Z445 (pv 0) (Z445 (Z451 (v:=.ty "str") rfl T.b_str boot_str rfl) Z446))) (Z453 Z46 (by rfl) T.b_isinstance boot_isinstance (Z445 (pv 1) (Z445 (Z451 (v:=.ty "str") rfl T.b_str boot_str rfl) Z446))) (nomark _))))) (Z490 (Z486 pe_bl)) Z489)
   (Z490 (Z486 (Z450 (Z453 Z47 (by rfl) T.b_isinstance boot_isinstance (Z445 (pv 0) (Z445 (Z466 (Z445 (Z451 (v:=.ty "int") rfl T.b_int boot_int rfl) (Z445 (Z451 (v:=.ty "str") rfl T.b_str boot_str rfl) Z446))) Z446))) (Z464 (Z455 op_eq (pv 0) (pv 1) (nomark _))))))))),?_⟩
  obtain ⟨x,y,d,d',rfl,hx,hy,hd,k⟩:=h
  walk_at "rd"
  refine ⟨by decide,fun p hp=>?_⟩
  have sm:Same H (upd H p (.tup [V.ty "list",V.ty "tuple"])):=fun c o e=>by rw [Z646 (Z396 e hp)];exact e
  generalize hH1:upd H p (.tup [V.ty "list",V.ty "tuple"])=H1 at sm ⊢
  have hp1:H1 p=some (.tup (["list", "tuple"].map V.ty)):=by rw [← hH1];exact Z647
  have hx1:=hx.same sm
  have hy1:=hy.same sm
  have kd:∀ e:Dt,kitAll e.ty ["list", "tuple"]=true:=fun e=>by simp [kitAll,e.kit (T := "list") (by simp),e.kit (T := "tuple") (by simp)]
  have kd2:∀ e:Dt,kitAll e.ty ["int", "str"]=true:=fun e=>by simp [kitAll,e.kit (T := "int") (by simp),e.kit (T := "str") (by simp)]
  refine ⟨y,p,_,d'.ty,rfl,hp1,hy1.ty,kd d',_,rfl,?_⟩
  have e0:["list", "tuple"].any (subT d'.ty)=(d'.isL || d'.isT):=by simp [d'.sub_list,d'.sub_tuple]
  rw [e0]
  have core:∀ (px py:Addr) (xs ys:List V) (l l':List Dt),(SqL K H1 px xs∨SqT K H1 px xs)→(SqL K H1 py ys∨SqT K H1 py ys)→RelDs H1 l xs→RelDs H1 l' ys→ys.length≤sizeLine→Dt.deps l'≤n→(∀ H',Same H H'→Q (V.bl (Dt.eqs l l')) H') →
    ∃ x_4,LenV K (V.ref px) H1 x_4∧∃ x_5,LenV K (V.ref py) H1 x_5∧scal (V.int x_4) (V.int x_5)=true ∧
     if (x_4:Int)=(x_5:Int) then
      tComp 1 (iRng1 (tCons (tCB (fun xs H Q=>∃ x,xs=[x]∧∃ x_6,LenV K x H x_6∧Q (V.int x_6) H) (tCons (tVar 1) tNil)) tNil)) (gName 0) tYes
       (tCallT (Z600 n K A) (fun x=>E0) (tCons (tOp (rIx K) (tVar 1) (tVar 0)) (tCons (tOp (rIx K) (tVar 2) (tVar 0)) tNil)))
       [some (V.ref px),some (V.ref py)] H1 fun x H1=>∃ p,x=V.ref p∧∃ x,SqL K H1 p (List.map V.bl x)∧Q (V.bl (x.all id)) H1
     else Q (V.bl false) H1:=by
   intro px py xs ys l l' hpx hpy rl rl' sz hdl k2
   have len1:=rl.length
   have len2:=rl'.length
   have lv:∀ {q:Addr} {zs:List V},(SqL K H1 q zs∨SqT K H1 q zs)→LenV K (V.ref q) H1 zs.length:=fun h=>by
    rcases h with h | h
    ·exact .inl ⟨_,h,rfl⟩
    ·exact .inr ⟨_,h,rfl⟩
   refine ⟨xs.length,lv hpx,ys.length,lv hpy,rfl,?_⟩
   by_cases hl:(xs.length:Int)=(ys.length:Int)
   ·rw [if_pos hl]
    refine ⟨_,rfl,_,rfl,_,lv hpy,_,rfl,by have:=sizeLine_eq;omega,by have:=sizeLine_eq;omega,?_⟩
    rw [Int.toNat_natCast]
    refine Z71 sz (fun i=>V.bl (Dt.eq (l[i]?.getD .non) (l'[i]?.getD .non))) ?_ ?_
    ·intro i H4 Q4 hi sm4 k4
     obtain ⟨e,he⟩:∃ e,l[i]?=some e:=⟨l[i]'(by omega),by simp⟩
     obtain ⟨e',he'⟩:∃ e,l'[i]?=some e:=⟨l'[i]'(by omega),by simp⟩
     obtain ⟨v,hv,rv⟩:=rl.get he
     obtain ⟨v',hv',rv'⟩:=rl'.get he'
     have ix:∀ {q:Addr} {zs:List V} {u:V} {QQ:VK},(SqL K H1 q zs∨SqT K H1 q zs)→zs[i]?=some u→QQ u H4→rIx K (V.ref q) (V.int (0 + (i:Int))) H4 QQ:=fun h hu q=>by
      rw [Int.zero_add]
      rcases h with h | h
      ·exact .inl ⟨_,_,_,_,rfl,rfl,sm4.seq h,Z21 hu,q⟩
      ·exact .inr (.inl ⟨_,_,_,_,rfl,rfl,sm4.seqT h,Z21 hu,q⟩)
     refine ⟨_,rfl,_,rfl,ix hpx hv ⟨_,rfl,_,rfl,ix hpy hv' ?_⟩⟩
     refine ⟨v,v',e,e',rfl,rv.same sm4,rv'.same sm4,Wt (Dt.deps_le he') hdl,fun H5 s5=>?_⟩
     have k5:=k4 H5 s5
     rw [he,he'] at k5
     exact k5
    ·intro D H4 hD sm4 hD4
     refine ⟨D,rfl,_,.of (by rw [hD4,Jk];rfl),?_⟩
     rw [show ys.length=l'.length by omega,← Dt.eqs_all (by omega)]
     exact k2 H4 (sm.trans sm4)
   ·rw [if_neg hl]
    have:Dt.eqs l l'=false:=by
     cases q:Dt.eqs l l' with
     | false=>rfl
     | true =>
      have:=(Dt.eqs_iff l l').mp q
      subst this
      omega
    rw [this] at k2
    exact k2 H1 sm
  have no:d≠d'→∀ H',Same H H'→Q (V.bl false) H':=fun ne H' s'=>by
   have:=k H' s'
   rwa [Dt.eq_false ne] at this
  cases hLT:(d'.isL || d'.isT) with
  | true =>
   refine iteT ?_
   refine ⟨x, "list",d.ty,rfl,hx1.ty,d.kit (by simp),y, "list",d'.ty,rfl,hy1.ty,d'.kit (by simp),rfl,?_⟩
   rw [Z44,d.sub_list,d'.sub_list]
   by_cases hL:d.isL=d'.isL
   ·rw [show (!(d.isL == d'.isL))=false by simp [hL]]
    refine iteF ?_
    refine ⟨x, "tuple",d.ty,rfl,hx1.ty,d.kit (by simp),y, "tuple",d'.ty,rfl,hy1.ty,d'.kit (by simp),rfl,?_⟩
    rw [Z44,d.sub_tuple,d'.sub_tuple]
    by_cases hT:d.isT=d'.isT
    ·rw [show (!(d.isT == d'.isT))=false by simp [hT]]
     refine iteF ?_
     cases d' with
     | lst l' =>
      cases d with
      | lst l =>
       obtain ⟨px,xs,rfl,h1,z1,r1⟩:=hx1
       obtain ⟨py,ys,rfl,h2,z2,r2⟩:=hy1
       exact core px py xs ys l l' (.inl (.of h1)) (.inl (.of h2)) r1 r2 (Nat.le_of_lt z2) (by unfold Dt.dep at hd;omega) fun H' s'=>by have:=k H' s';simpa [Dt.eq] using this
      | _=>cases hL
     | tup l' =>
      cases d with
      | tup l =>
       obtain ⟨px,xs,rfl,h1,z1,r1⟩:=hx1
       obtain ⟨py,ys,rfl,h2,z2,r2⟩:=hy1
       exact core px py xs ys l l' (.inr (.inl (.inl h1))) (.inr (.inl (.inl h2))) r1 r2 (Nat.le_of_lt z2) (by unfold Dt.dep at hd;omega) fun H' s'=>by have:=k H' s';simpa [Dt.eq] using this
      | _=>first | cases hT | cases hL
     | _=>cases hLT
    ·rw [show (!(d.isT == d'.isT))=true by simp [hT]]
     refine iteT ?_
     exact no (fun z=>hT (by rw [z])) H1 sm
   ·rw [show (!(d.isL == d'.isL))=true by simp [hL]]
    refine iteT ?_
    exact no (fun z=>hL (by rw [z])) H1 sm
  | false =>
   refine iteF ?_
   have scalar:∀ (hyn:y≠V.non),(d.isB=d'.isB→d.isS=d'.isS→(d.isI || d.isB || d.isS)=true→scal x y=true∧decide (x=y)=Dt.eq d d')→(d'.isI || d'.isB || d'.isS)=true →
     (if y=V.non then if y=V.non then Q (V.bl (decide (x=V.non))) H1 else Q (V.bl false) H1
     else if x=V.non then if y=V.non then Q (V.bl (decide (x=V.non))) H1 else Q (V.bl false) H1
     else rIs1 [x,V.ty "bool"] H1 fun x_2 H1=>rIs1 [y,V.ty "bool"] H1 fun y_1 H2=>scal x_2 y_1=true ∧
      if (!decide (x_2=y_1))=true then Q (V.bl false) H2
      else rIs1 [x,V.ty "str"] H2 fun x_3 H1=>rIs1 [y,V.ty "str"] H1 fun y_2 H2=>scal x_3 y_2=true ∧
       if (!decide (x_3=y_2))=true then Q (V.bl false) H2
       else 2≤sizeLine∧∀ (p:Addr),H2 p=none→rIsT [x,V.ref p] (upd H2 p (HO.tup [V.ty "int",V.ty "str"])) fun x_4 H1=>∃ c,x_4=V.bl c ∧
        if c=true then scal x y=true∧Q (V.bl (decide (x=y))) H1 else Q (V.bl false) H1):=by
    intro hyn hsc hk'
    rw [if_neg hyn]
    by_cases hxn:x=V.non
    ·rw [if_pos hxn,if_neg hyn]
     refine no (fun z=>?_) H1 sm
     have h1:=hx1.isNon
     rw [decide_eq_true hxn,z] at h1
     have h2:=hy1.isNon
     rw [decide_eq_false hyn] at h2
     rw [← h1] at h2
     cases h2
    ·rw [if_neg hxn]
     refine ⟨x, "bool",d.ty,rfl,hx1.ty,d.kit (by simp),y, "bool",d'.ty,rfl,hy1.ty,d'.kit (by simp),rfl,?_⟩
     rw [Z44,d.sub_bool,d'.sub_bool]
     by_cases hB:d.isB=d'.isB
     ·rw [show (!(d.isB == d'.isB))=false by simp [hB]]
      refine iteF ?_
      refine ⟨x, "str",d.ty,rfl,hx1.ty,d.kit (by simp),y, "str",d'.ty,rfl,hy1.ty,d'.kit (by simp),rfl,?_⟩
      rw [Z44,d.sub_str,d'.sub_str]
      by_cases hS:d.isS=d'.isS
      ·rw [show (!(d.isS == d'.isS))=false by simp [hS]]
       refine iteF ⟨by decide,fun q hq=>?_⟩
       have sm2:Same H1 (upd H1 q (.tup [V.ty "int",V.ty "str"])):=fun c o e=>by rw [Z646 (Z396 e hq)];exact e
       refine ⟨x,q,["int", "str"],d.ty,rfl,Z647,(hx1.same sm2).ty,kd2 d,_,rfl,?_⟩
       have e2:["int", "str"].any (subT d.ty)=(d.isI || d.isB || d.isS):=by simp [d.sub_int,d.sub_str,Bool.or_assoc]
       rw [e2]
       cases hI:(d.isI || d.isB || d.isS) with
       | true =>
        obtain ⟨h1,h2⟩:=hsc hB hS hI
        refine iteT ⟨h1,?_⟩
        rw [h2]
        exact k _ (sm.trans sm2)
       | false =>
        refine iteF ?_
        exact no (fun z=>by rw [z,hk'] at hI;cases hI) _ (sm.trans sm2)
      ·rw [show (!(d.isS == d'.isS))=true by simp [hS]]
       exact iteT (no (fun z=>hS (by rw [z])) H1 sm)
     ·rw [show (!(d.isB == d'.isB))=true by simp [hB]]
      exact iteT (no (fun z=>hB (by rw [z])) H1 sm)
   cases d' with
   | non =>
    cases (show y=V.non from hy1)
    rw [if_pos rfl,if_pos rfl,hx1.isNon,← Dt.eq_non]
    exact k H1 sm
   | bl b =>
    cases (show y=V.bl b from hy1)
    refine scalar (by intro z;cases z) (fun hB hS hI=>?_) rfl
    cases d with
    | bl c=>cases (show x=V.bl c from hx1);exact ⟨rfl,by rw [Z44];rfl⟩
    | _=>cases hB
   | int i =>
    cases (show y=V.int i from hy1)
    refine scalar (by intro z;cases z) (fun hB hS hI=>?_) rfl
    cases d with
    | int j=>cases (show x=V.int j from hx1);exact ⟨rfl,by simp [Dt.eq,Bool.beq_eq_decide_eq]⟩
    | bl c=>cases hB
    | str c=>cases hS
    | _=>cases hI
   | str u =>
    cases (show y=V.str u from hy1)
    refine scalar (by intro z;cases z) (fun hB hS hI=>?_) rfl
    cases d with
    | str v=>cases (show x=V.str v from hx1);exact ⟨rfl,by simp [Dt.eq,Bool.beq_eq_decide_eq]⟩
    | _=>cases hS
   | lst l=>cases hLT
   | tup l=>cases hLT
noncomputable def Z182(A:Adr):Fn:=sameF 3
theorem Z412(T:Txt K mg A):DefX P w K mg base "_law_same" 4 ["_law_found", "_law_due_here"] (spR (adr A) [false,false] (Z182 A)):=DefX.imp (Z403 T 3) fun vs H Q E h=>Z575 h
theorem Z588:FnScope ["_law_script", "_law_turn", "_law_rows", "_law_handed", "_law_found", "_law_due_here"] ["_law_script"] (defScope s_law):=⟨rfl,rfl,rfl,by decide +kernel,rfl,by decide +kernel,by decide +kernel⟩
theorem Z388:(["_law_script", "_law_turn", "_law_rows", "_law_handed", "_law_found", "_law_due_here"]:List Str).Nodup:=Z588.nd
noncomputable def Z625(K:Qd)(A:Adr):SF :=
  (sRet (eC (.bl false)))
noncomputable def Z626(K:Qd)(A:Adr):SF :=
  (sSeq (sE (eMu 0 hApp (aCons (eGuard isLst (eVar 4)) (aCons (eC (.int (7))) aNil))))
  (sIf (bNot (bV (eCall [false,false] (Z182 A) (aCons (eCall [false] (Z186 K A) (aCons (eVar 3) aNil)) (aCons (eVar 5) aNil))))) (sRet (eC (.bl false))) sPass))
noncomputable def Z624(K:Qd)(A:Adr):SF :=
  (sSeq (sAsg (eCall [false] (Z178 K A) (aCons (eVar 2) aNil)) (asgD 5))
  (sSeq (sIf (bOr (bNot (bV (eCall [false,false] (Z182 A) (aCons (eVar 3) (aCons (eVar 2) aNil))))) (bNot (bV (eCall [false,false] (Z182 A) (aCons (eVar 4) (aCons (eVar 5) aNil)))))) (Z625 K A) sPass)
  (Z626 K A)))
noncomputable def Z623(K:Qd)(A:Adr):SF :=
  (sSeq (sAsg (eCall [false] (Z186 K A) (aCons (eVar 3) aNil)) (asgD 4))
  (Z624 K A))
noncomputable def Z622(K:Qd)(A:Adr):SF :=
  (sSeq (sAsg (eCompL (eVar 2) (fun _=>bYes) (fun n1=>(eNw hList (aCons (eVar n1) aNil)))) (asgD 3))
  (Z623 K A))
noncomputable def Z328(K:Qd)(A:Adr):SF :=
  (sKill [1,2,3,4,5] (sSeq (sAsg (eCall [false,false,false,false] (Z177 K A) (aCons (eVar 0) (aCons (eNw hAddI (aCons (eC (.int (1))) (aCons (eNw hMul (aCons (eC (.int (7))) (aCons (eVar 1) aNil))) aNil))) (aCons (eC (.int (5))) (aCons (eC (.int (4))) aNil))))) (asgD 2))
  (Z622 K A)))
noncomputable def b_law(K:Qd)(A:Adr):SF :=
  (sSeq (sForR (aCons (eC (.int (6))) aNil) (asgD 1)
  (Z328 K A))
  (sRet (eC (.bl true))))
noncomputable def f_law(K:Qd)(A:Adr):Fn:=runDef 6 [false] (b_law K A)
set_option maxHeartbeats 0 in
theorem Z415(T:Txt K mg A):DefX P w K mg base "law" 30 ["_law_script"] (spR (adr A) [false] (f_law K A)) :=
 okD (k:=29) (N:=["_law_script", "_law_turn", "_law_rows", "_law_handed", "_law_found", "_law_due_here"]) (ms:=[false]) (body:=b_law K A) T.a_law Z588 rfl (by decide) fun f cdv A' outer s H E R hr hx hE ha=>by
  have hu:=hu_of hr
  refine Z543 ?_ ?_
  ·refine Z536 Z448 rfl rfl T.b_range ?_ ?_ ?_
   ·exact (re_C Z461)
   ·exact (Z524 (i:=1) Z388 rfl (Or.inl rfl) rfl (by decide))
   ·refine Z544 (js:=[1,2,3,4,5]) (by decide) ?_
    ·refine Z543 ?_ ?_
     ·refine Z532 ?_ ?_
      ·refine rc_fn (ms:=[false,false,false,false]) (by rw [ha];exact (Z407 T)) (hr.mono (by omega)) hx ?_ (Z1 (Z1 (Z1 (Z1 Z2))))
       ·refine Z502 ?_ ?_
        ·exact (Z519 (pv 0) (j:=0) rfl)
        ·refine Z502 ?_ ?_
         ·refine re_op Z420 ?_ ?_
          ·exact (re_C Z461)
          ·refine re_op Z425 ?_ ?_
           ·exact (re_C Z461)
           ·exact (Z519 (pv 1) (j:=1) rfl)
         ·refine Z502 ?_ ?_
          ·exact (re_C Z461)
          ·refine Z502 ?_ ?_
           ·exact (re_C Z461)
           ·exact Z503
      ·exact (Z524 (i:=2) Z388 rfl (Or.inl rfl) rfl (by decide))
     ·refine Z543 ?_ ?_
      ·refine Z541 (N:=["_law_row", "_law_script", "_law_turn", "_law_rows", "_law_handed", "_law_found", "_law_due_here"]) rfl (by decide) ?_ (CompSc.of (sc:=defScope s_law) (N0:=["_law_script", "_law_turn", "_law_rows", "_law_handed", "_law_found", "_law_due_here"]) rfl rfl (by decide +kernel)) (fun cl C s H fp=>(Z470 (i:=0) (show (["_law_row", "_law_script", "_law_turn", "_law_rows", "_law_handed", "_law_found", "_law_due_here"]:List Str).Nodup from by decide +kernel) rfl (Or.inl rfl))) (fun cl C s H fp=>Z501) (fun cl C s H fp=>px_e fun n1 hn1=>?_) Z388 rfl (i:=3) rfl (j:=3) rfl (by rfl)
       ·exact (Z519 (pv 2) (j:=2) rfl)
       ·refine rc_ty Z60 (by rfl) T.b_list boot_list ?_
        ·refine Z502 ?_ ?_
         ·exact (Z519 (pv 0) (j:=n1) rfl)
         ·exact Z503
      ·refine Z543 ?_ ?_
       ·refine Z532 ?_ ?_
        ·refine rc_fn (ms:=[false]) (by rw [ha];exact (Z417 T)) (hr.mono (by omega)) hx ?_ (Z1 Z2)
         ·refine Z502 ?_ ?_
          ·exact (Z519 (pv 3) (j:=3) rfl)
          ·exact Z503
        ·exact (Z524 (i:=4) Z388 rfl (Or.inl rfl) rfl (by decide))
       ·refine Z543 ?_ ?_
        ·refine Z532 ?_ ?_
         ·refine rc_fn (ms:=[false]) (by rw [ha];exact (Z408 T)) (hr.mono (by omega)) hx ?_ (Z1 Z2)
          ·refine Z502 ?_ ?_
           ·exact (Z519 (pv 2) (j:=2) rfl)
           ·exact Z503
         ·exact (Z524 (i:=5) Z388 rfl (Or.inl rfl) rfl (by decide))
        ·refine Z543 ?_ ?_
         ·refine rs_if ?_ ?_ ?_
          ·refine PW.pt ?_
           ·refine rw_or ?_ ?_
            ·refine Z550 ?_
             ·refine rt_v ?_
              ·refine rc_fn (ms:=[false,false]) (by rw [ha];exact (Z412 T)) (hr.mono (by omega)) hx ?_ (Z1 (Z1 Z2))
               ·refine Z502 ?_ ?_
                ·exact (Z519 (pv 3) (j:=3) rfl)
                ·refine Z502 ?_ ?_
                 ·exact (Z519 (pv 2) (j:=2) rfl)
                 ·exact Z503
            ·refine Z557 ?_
             ·refine Z550 ?_
              ·refine rt_v ?_
               ·refine rc_fn (ms:=[false,false]) (by rw [ha];exact (Z412 T)) (hr.mono (by omega)) hx ?_ (Z1 (Z1 Z2))
                ·refine Z502 ?_ ?_
                 ·exact (Z519 (pv 4) (j:=4) rfl)
                 ·refine Z502 ?_ ?_
                  ·exact (Z519 (pv 5) (j:=5) rfl)
                  ·exact Z503
          ·refine Z547 ?_
           ·refine Z540 ?_
            ·exact (re_C pe_bl)
          ·exact Z545
         ·refine Z543 ?_ ?_
          ·refine rs_e ?_
           ·refine Z506 ?_ ?_
            ·exact (Z519 (pv 4) (j:=4) rfl)
            ·exact (re_C Z461)
          ·refine Z547 ?_
           ·refine rs_if ?_ ?_ ?_
            ·refine Z550 ?_
             ·refine rt_v ?_
              ·refine rc_fn (ms:=[false,false]) (by rw [ha];exact (Z412 T)) (hr.mono (by omega)) hx ?_ (Z1 (Z1 Z2))
               ·refine Z502 ?_ ?_
                ·refine rc_fn (ms:=[false]) (by rw [ha];exact (Z417 T)) (hr.mono (by omega)) hx ?_ (Z1 Z2)
                 ·refine Z502 ?_ ?_
                  ·exact (Z519 (pv 3) (j:=3) rfl)
                  ·exact Z503
                ·refine Z502 ?_ ?_
                 ·exact (Z519 (pv 5) (j:=5) rfl)
                 ·exact Z503
            ·refine Z547 ?_
             ·refine Z540 ?_
              ·exact (re_C pe_bl)
            ·exact Z545
  ·refine Z547 ?_
   ·refine Z540 ?_
    ·exact (re_C pe_bl)
end
end Pf
open PySem PySem.Spec PyProof.Rows L2 RM
local macro_rules | `(tactic| walk_at "ev")=>`(tactic| simp only [Z164,ev_if,ev_e,Z160,Z161,Z158,Z124,ev_ct,Z120,Z134,ev_v,Z157,Z118,ev_or,ev_C,Z170,Z156,Z130,ev_nw,ev_ch,Z132,Z131,ev_mu,Z119,Z144,Z125,ev_mk,Z121,Z122,Z153,Z141,Z140,seqOf,fin,popD,Z169,tryH,Z152,Z151,Z165,Z168,Z166,Z167,Z159,Z162,ini,outs,ends,augGo,selF,selI,hFld,hPutF,hPutD,hApp,Z149,Z147,Z148,Z150,hI,hEq,hIsN,hAdd,Z224,Z223,Z225,Z221,Z222,Z218,Z220,Z217,Z219,hDGet,hDIn,hGet2,findD,hList,hFmt,hNeg,hInt,hStrI,hMax,hMin,pick,drefs,dref,vals,pairsA,kvD,keyD,mkV,D.imm,D.imms,NK.mut,D.get,D.put,wr,Z270,Z269,Z268,Z650,Z649,Z648,Z606,Z605,sub_cn,Z604,unh,unx,asgD,tgT,tgC,tgN,takes,fills,gives,apart,disj,retV,kills,killN,hole,
 Wb,List.foldl_nil,List.mapIdx_cons,List.mapIdx_nil,List.zipWith_cons_cons,List.zipWith_nil_left,List.zipWith_nil_right,List.replicate,Ql,Wm,Jh,Je,Jl,Jq,List.length_nil,Ws,List.getElem?_cons_succ,List.getElem?_nil,List.set_cons_zero,List.set_cons_succ,List.getLast?_cons_cons,List.getLast?_singleton,List.dropLast_cons_cons,List.dropLast_singleton,Nat.reduceAdd,Nat.reduceSub,Nat.reduceLT,Nat.reduceLeDiff,Nat.reduceEqDiff,Nat.zero_add,Nat.add_zero,Nat.sub_self,Nat.sub_zero,
 Option.map_some,Option.map_none,Option.some.injEq,if_true,if_false,ite_true,ite_false,Bool.not_true,Bool.not_false,Bool.and_true,Bool.true_and,Bool.and_false,Bool.false_and,Bool.true_or,Bool.false_or,Bool.or_true,Bool.or_false,decide_true,decide_false,decide_not,ne_eq,not_true,not_false_eq_true,We,reduceIte,reduceCtorEq,and_self,and_true,true_and,false_and,and_false,bne_self_eq_false,Bool.bne_false,Bool.bne_true,Qn,Qx,Int.reduceLT,Int.reduceLE,Int.reduceNeg,Int.reduceToNat,Int.cast_ofNat_Int,Int.natCast_zero,Int.natCast_one,Int.toNat_natCast,Int.reduceEq,Int.reducePow,Int.reduceAdd,Int.reduceMul,Int.reduceSub,Int.reduceMod,Int.reduceDiv,Nat.reduceBNe,Nat.reduceBEq,ixN_0,ixN_1,ixN_2,ixN_3,ixN_4,ixN_5,ixN_6,ixN_7,ixN_8,ixN_9,Z261,Z262,Z263,sz,flatV,scal,decide_eq_true_eq,V.int.injEq,V.str.injEq,V.bl.injEq,Option.isSome_some,Option.isSome_none,Z139,lenOf,Z128,Z129,Z136,Z137,Z126,hRng,hPutL,compFin1,compFin2,keysD,hAddI,Z163,Z133,hCut,hCat,hDict,hVals,hIn,hRev,Z145,Z146,insR,Z127,compFin3,ev_fz,fzS,ownW,flatV,D.fz,D.fzs,NK.fz,Z142,Z143,ownT,graftS,Z138,Z171,Z123,Z135,Z154,Z155,moveS,plcOf,or_self,isAt,backD,is_ll,is_ii,is_ib])
local macro_rules | `(tactic| walk_at "evs")=>`(tactic| simp only [Z164,ev_if,ev_e,Z160,Z161,Z158,Z124,ev_ct,Z120,Z134,ev_v,Z157,Z118,ev_or,ev_C,Z170,Z156,Z130,ev_nw,ev_ch,Z132,Z131,ev_mu,Z119,Z144,Z125,ev_mk,Z121,Z122,Z153,Z141,Z140,seqOf,fin,popD,Z169,tryH,Z152,Z151,Z165,Z168,Z166,Z167,Z159,Z162,ini,outs,ends,augGo,selF,selI,hFld,hPutF,hPutD,hApp,Z149,Z147,Z148,Z150,hI,hEq,hIsN,hAdd,Z224,Z223,Z225,Z221,Z222,Z218,Z220,Z217,Z219,hDGet,hDIn,hGet2,findD,hList,hFmt,hNeg,hInt,hStrI,hMax,hMin,pick,drefs,dref,vals,pairsA,kvD,keyD,mkV,D.imm,D.imms,NK.mut,D.get,D.put,wr,Z270,Z269,Z268,Z650,Z649,Z648,Z606,Z605,sub_cn,Z604,unh,unx,asgD,tgT,tgC,tgN,takes,fills,gives,apart,disj,retV,kills,killN,hole,
 Wb,List.foldl_nil,List.mapIdx_cons,List.mapIdx_nil,List.zipWith_cons_cons,List.zipWith_nil_left,List.zipWith_nil_right,List.replicate,Ql,Wm,Jh,Je,Jl,Jq,List.length_nil,Ws,List.getElem?_cons_succ,List.getElem?_nil,List.set_cons_zero,List.set_cons_succ,List.getLast?_cons_cons,List.getLast?_singleton,List.dropLast_cons_cons,List.dropLast_singleton,Nat.reduceAdd,Nat.reduceSub,Nat.reduceLT,Nat.reduceLeDiff,Nat.reduceEqDiff,Nat.zero_add,Nat.add_zero,Nat.sub_self,Nat.sub_zero,
 Option.map_some,Option.map_none,Option.some.injEq,if_true,if_false,ite_true,ite_false,Bool.not_true,Bool.not_false,Bool.and_true,Bool.true_and,Bool.and_false,Bool.false_and,Bool.true_or,Bool.false_or,Bool.or_true,Bool.or_false,decide_true,decide_false,decide_not,ne_eq,not_true,not_false_eq_true,We,reduceIte,reduceCtorEq,and_self,and_true,true_and,false_and,and_false,bne_self_eq_false,Bool.bne_false,Bool.bne_true,Qn,Qx,Int.reduceLT,Int.reduceLE,Int.reduceNeg,Int.reduceToNat,Int.cast_ofNat_Int,Int.natCast_zero,Int.natCast_one,Int.toNat_natCast,Int.reduceEq,Int.reducePow,Int.reduceAdd,Int.reduceMul,Int.reduceSub,Int.reduceMod,Int.reduceDiv,Nat.reduceBNe,Nat.reduceBEq,ixN_0,ixN_1,ixN_2,ixN_3,ixN_4,ixN_5,ixN_6,ixN_7,ixN_8,ixN_9,Z261,Z262,Z263,sz,flatV,scal,decide_eq_true_eq,V.int.injEq,V.str.injEq,V.bl.injEq,Option.isSome_some,Option.isSome_none,Z139,lenOf,Z128,Z129,Z136,Z137,Z126,hRng,hPutL,compFin1,compFin2,keysD,hAddI,Z163,Z133,hCut,hCat,hDict,hVals,hIn,hRev,Z145,Z146,insR,Z127,compFin3,ev_fz,fzS,ownW,flatV,D.fz,D.fzs,NK.fz,Z142,Z143,ownT,graftS,Z138,Z171,Z123,Z135,Z154,Z155,moveS,plcOf,or_self,isAt,backD,is_ll,is_ii,is_ib, *])
namespace Pf
open PySem PySem.Spec PyProof.Rows L2 RM
variable {K:Qd}{A:Adr}

noncomputable abbrev Hd:=List (Int×Nat)
noncomputable abbrev hK(h:Hd):List Int:=h.map (·.1)
noncomputable abbrev hV(h:Hd):List Nat:=h.map (·.2)
noncomputable abbrev rowAt(rows:List (List Int))(p:Nat):List Int:=rows.getD p []
noncomputable def outK(rows:List (List Int))(S:List Int)(k:Nat):List Nat:=(List.range k).filter fun i=>!(rowAt rows i).all fun x=>S.contains x
theorem Z394{α:Type}[DecidableEq α]:∀ {l m:List α},l.Nodup→(∀ x∈l,x∈m)→l.length≤m.length
 | [],m,_,_=>Nat.zero_le _
 | x::l,m,hn,hs=>by
  have hx:x∈m:=hs x Qs
  have h1:=Z394 (l:=l) (m:=m.erase x) (Ji.mp hn).2 fun y hy=>by
   refine (List.mem_erase_of_ne ?_).mpr (hs y (Qp _ hy))
   rintro rfl
   exact (Ji.mp hn).1 hy
  have h2:0 < m.length:=List.length_pos_of_mem hx
  rw [List.length_erase_of_mem hx] at h1
  rw [Jq];omega
theorem Z358{rows:List (List Int)}{S:List Int}{k i:Nat}:i∈outK rows S k↔i < k∧∃ x∈rowAt rows i,x∉S:=by
 unfold outK
 rw [Ja,Wv]
 simp
theorem Z389{rows:List (List Int)}{S:List Int}{k:Nat}:(outK rows S k).Nodup:=List.Nodup.sublist Jf List.nodup_range
theorem Z438{rows:List (List Int)}{S:List Int}{k:Nat}(h:∀ x∈rowAt rows k,x∈S):outK rows S (k + 1)=outK rows S k:=by
 unfold outK
 rw [List.range_succ,Jx]
 have:(rowAt rows k).all (fun x=>S.contains x)=true:=by
  rw [List.all_eq_true];intro x hx;simpa using h x hx
 simp only [Wl,this,Bool.not_true,We,if_false,List.filter_nil,Jl]
theorem Z439{rows:List (List Int)}{S:List Int}{k:Nat}:(outK rows S (k + 1)).length≤(outK rows S k).length + 1:=by
 unfold outK
 rw [List.range_succ,Jx,Qx]
 have:=Js (fun i=>!(rowAt rows i).all fun x=>S.contains x) [k]
 simp only [Jq,List.length_nil] at this
 omega
structure Mat(rows:List (List Int))(k:Nat)(h:Hd):Prop where
 kn:(hK h).Nodup
 vn:(hV h).Nodup
 ed:∀ e∈h,e.2 < k∧e.1∈rowAt rows e.2
theorem weak{rows:List (List Int)}{k:Nat}{h:Hd}(M:Mat rows k h)(S:List Int):h.length≤(outK rows S k).length + S.length:=by
 have e:h.length=(h.filter fun e=>S.contains e.1).length + (h.filter fun e=>!S.contains e.1).length:=by
  have:=List.length_eq_countP_add_countP (fun e:Int×Nat=>S.contains e.1) (l:=h)
  rw [← List.countP_eq_length_filter,← List.countP_eq_length_filter]
  simpa using this
 have h1:(h.filter fun e=>S.contains e.1).length≤S.length:=by
  have:=Z394 (l:=(h.filter fun e=>S.contains e.1).map (·.1)) (m:=S) (M.kn.sublist (Jf.map _)) fun x hx=>by
   obtain ⟨e,he,rfl⟩:=Qk.mp hx
   simpa using (Ja.mp he).2
  simpa using this
 have h2:(h.filter fun e=>!S.contains e.1).length≤(outK rows S k).length:=by
  have:=Z394 (l:=(h.filter fun e=>!S.contains e.1).map (·.2)) (m:=outK rows S k) (M.vn.sublist (Jf.map _)) fun x hx=>by
   obtain ⟨e,he,rfl⟩:=Qk.mp hx
   obtain ⟨h3,h4⟩:=Ja.mp he
   exact Z358.mpr ⟨(M.ed e h3).1,e.1,(M.ed e h3).2,by simpa using h4⟩
  simpa using this
 omega
theorem Z76{rows:List (List Int)}{k:Nat}{h:Hd}{S s2:List Int}(M:Mat rows k h)(hS:(outK rows S k).length + S.length≤h.length)(h1:∀ y∈rowAt rows k,y∈s2)
  (h2:∀ x∈s2,x∈hK h∧∀ e∈h,e.1=x→∀ y∈rowAt rows e.2,y∈s2):∃ S':List Int,(outK rows S' (k + 1)).length + S'.length≤h.length:=by
 let hT:=h.filter fun e=>s2.contains e.1 && !S.contains e.1
 have mT:∀ e,e∈hT↔e∈h∧e.1∈s2∧e.1∉S:=fun e=>by
  show e∈h.filter _↔_
  rw [Ja];simp
 let S':=S++hT.map (·.1)
 have sub:∀ x∈s2,x∈S':=fun x hx=>by
  by_cases hs:x∈S
  ·exact Qi _ hs
  ·obtain ⟨e,he,rfl⟩:=Qk.mp (h2 x hx).1
   exact Qf _ (Qk.mpr ⟨e,(mT e).mpr ⟨he,hx,hs⟩,rfl⟩)
 refine ⟨S',?_⟩
 rw [Z438 fun x hx=>sub x (h1 x hx)]
 have key:(hT.map (·.2)++outK rows S' k).length≤(outK rows S k).length:=by
  refine Z394 ?_ fun i hi=>?_
  ·rw [Qj]
   refine ⟨M.vn.sublist (Jf.map _),Z389,fun i hi j hj=>?_⟩
   rintro rfl
   obtain ⟨e,he,rfl⟩:=Qk.mp hi
   obtain ⟨g1,g2,g3⟩:=(mT e).mp he
   obtain ⟨_,x,q1,q2⟩:=Z358.mp hj
   exact q2 (sub x ((h2 e.1 g2).2 e g1 rfl x q1))
  ·rcases Qe.mp hi with hi | hi
   ·obtain ⟨e,he,rfl⟩:=Qk.mp hi
    obtain ⟨g1,g2,g3⟩:=(mT e).mp he
    exact Z358.mpr ⟨(M.ed e g1).1,e.1,(M.ed e g1).2,g3⟩
   ·obtain ⟨q0,x,q1,q2⟩:=Z358.mp hi
    exact Z358.mpr ⟨q0,x,q1,fun z=>q2 (Qi _ z)⟩
 have e1:S'.length=S.length + hT.length:=by show (S++hT.map (·.1)).length=_;simp
 rw [Qx,Qn] at key
 omega
noncomputable abbrev aI(i:Int):D:=.at (.int i)
theorem imI(ns:List Int):D.imms (ns.map aI)=true:=Z237 (fun _=>rfl) ns
noncomputable def atL(ns:List Int)(i:Int):Int:=if 0≤i then (if i < ns.length then ns.getD i.toNat 0 else 0) else 0
theorem v_at(k:NK)(hk:Scr K k)(ns:List Int)(i:Int)(h0:0≤i):Z175 K A [scD k ns,aI i]=.ok (.val (aI (atL ns i))) [scD k ns,aI i]:=by
 unfold Z175 Z27 atL scD
 have him:=imI ns
 by_cases h:i < (ns.length:Int)
 ·have hj:i.toNat < ns.length:=by omega
  have e1:ns.getD i.toNat 0=ns[i.toNat]:=by rw [Jp,Qh hj];rfl
  have e2:(ns.map aI)[i.toNat]?=some (aI ns[i.toNat]):=by rw [Qa,Qh hj];rfl
  have e3:ixN ns.length i=some i.toNat:=by unfold ixN;rw [if_pos h0,if_pos h]
  rw [e1];clear e1
  rcases hk with rfl | rfl <;> walk_at "evs"
 ·rcases hk with rfl | rfl <;> walk_at "evs"
theorem Z593{k:NK}(hk:Scr K k)(ns:List Int):(scD k ns).imm=true:=by
 unfold scD
 rcases hk with rfl | rfl <;> simp only [D.imm,NK.mut,imI,Bool.not_false,Bool.true_and]
noncomputable abbrev figS(k:NK)(ns:List Int)(i base:Int)(m:Nat)(cell:Int)(xs:List Int)(x6:DL):Sd:=[.own true (scD k ns),.own true (aI i),.own true (aI base),.own true (aI m),.own true (aI cell),.own true (.nd (.lst true) (xs.map aI)),x6,.non,.non,.non,.non,.non]
theorem Z655(k:NK)(hk:Scr K k)(ns:List Int)(i base:Int)(m j:Nat)(cell:Int)(xs:List Int)(hb:0 < base)(hb':base < 1073741824)(hx:xs.length < 16777216)(hz:atL ns 0 % 2=0) :
  Z324 K A (figS k ns i base m cell xs (.own true (aI (0 + j))))=.nx (figS k ns i base m (cell / base) (xs++[cell % base]) .non):=by
 have hki:=Z593 hk ns
 have hat0:=v_at (A:=A) k hk ns 0 (by omega)
 unfold Z324
 walk_at "evs"
 simp only [figS,Qv,Ql,Wm]
theorem Z656(k:NK)(hk:Scr K k)(ns:List Int)(i base:Int)(m j:Nat)(cell:Int)(xs:List Int)(hb:0 < base)(hx:xs.length < 16777216)(hz:¬ atL ns 0 % 2=0) :
  ∃ y,Z324 K A (figS k ns i base m cell xs (.own true (aI (0 + j))))=.nx (figS k ns i base m cell (xs++[y % base]) .non):=by
 have hki:=Z593 hk ns
 have hat0:=v_at (A:=A) k hk ns 0 (by omega)
 unfold Z324
 refine ⟨((cell + 31 * (0 + j) + 1) * 48271 % 2147483647 + 7919 * i + (0 + j) + 1) * 69621 % 2147483647,?_⟩
 walk_at "evs"
 simp only [figS,Qv,Ql,Wm]
theorem Z657(k:NK)(hk:Scr K k)(ns:List Int)(i base:Int)(m:Nat)(h0:0≤i)(hm:m < 1000)(cell:Int)(xs:List Int)
  (h1:loopG (itR 0 m) (asgD 6) (Z324 K A) (m + 1) 0 (figS k ns i base m (atL ns i) [] .non)=.nx (figS k ns i base m cell xs .non)) :
  Z179 K A [scD k ns,aI i,aI base,aI m]=.ok (.val (.nd (.lst true) (xs.map aI))) [scD k ns,aI i,aI base,aI m]:=by
 have hki:=Z593 hk ns
 have hat:=v_at (A:=A) k hk ns i h0
 have hm1:(m:Int) < 4611686018427387904:=by omega
 have hm2:-4611686018427387904≤(m:Int):=by omega
 simp only [figS,Wm] at h1
 unfold Z179 Z31
 walk_at "evs"
theorem Z658(k:NK)(hk:Scr K k)(ns:List Int)(i base:Int)(m:Nat)(h0:0≤i)(hb:0 < base)(hb':base < 1073741824)(hm:m < 1000):∃ xs:List Int,xs.length=m∧(∀ x∈xs,0≤x∧x < base) ∧
  Z179 K A [scD k ns,aI i,aI base,aI m]=.ok (.val (.nd (.lst true) (xs.map aI))) [scD k ns,aI i,aI base,aI m]:=by
 have hmod:∀ y:Int,0≤y % base∧y % base < base:=fun y=>⟨Int.emod_nonneg _ (by omega),Int.emod_lt_of_pos _ hb⟩
 obtain ⟨s',h1,cell,xs,h2,h3,rfl⟩:=Z345 (lo:=0) (n:=m) (b:=asgD 6) (body:=Z324 K A) (s:=figS k ns i base m (atL ns i) [] .non)
  (fun j s=>∃ (cell:Int) (xs:List Int),xs.length=j∧(∀ x∈xs,0≤x∧x < base)∧s=figS k ns i base m cell xs .non) ⟨atL ns i,[],rfl,by simp,rfl⟩ (by
  rintro j s hj ⟨cell,xs,h1,h2,rfl⟩
  by_cases hz:atL ns 0 % 2=0
  ·refine ⟨_,_,rfl,.inl (Z655 k hk ns i base m j cell xs hb hb' (by omega) hz),_,_,?_,fun x hx=>?_,rfl⟩
   ·rw [Qx,h1];rfl
   rcases Qe.mp hx with hx | hx
   ·exact h2 x hx
   ·rw [Qy.mp hx];exact hmod _
  ·obtain ⟨y,e⟩:=Z656 (A:=A) k hk ns i base m j cell xs hb (by omega) hz
   refine ⟨_,_,rfl,.inl e,_,_,?_,fun x hx=>?_,rfl⟩
   ·rw [Qx,h1];rfl
   rcases Qe.mp hx with hx | hx
   ·exact h2 x hx
   ·rw [Qy.mp hx];exact hmod _)
 exact ⟨xs,h2,h3,Z657 k hk ns i base m h0 hm cell xs h1⟩
theorem Z664{a:D}(h:DtN 3 a):Z182 A [a,a]=.ok (.val (.at (.bl true))) [a,a]:=Z576 h
noncomputable abbrev nD(l:List Int):D:=.nd (.lst true) (l.map aI)
noncomputable abbrev rwD(rows:List (List Int)):D:=.nd (.lst true) (rows.map nD)
noncomputable abbrev kG(x:Int):Key:=.inl x
noncomputable abbrev bT:D:=.at (.bl true)
noncomputable abbrev hD(h:Hd):D:=.nd (.dic true (h.map fun e=>kG e.1)) (h.map fun e=>aI e.2)
noncomputable abbrev sD(s:List (Int×V)):D:=.nd (.dic true (s.map fun e=>kG e.1)) (s.map fun e=>D.at e.2)
noncomputable abbrev kH(h:Hd):List Key:=h.map fun e=>kG e.1
noncomputable abbrev kS(s:List (Int×V)):List Key:=s.map fun e=>kG e.1
noncomputable abbrev fnS(rows:List (List Int))(p:Nat)(h:Hd)(s:List (Int×V))(y:DL):Sd:=[.bor 5 [],.own true (aI p),.bor 7 [],.bor 8 [],y,.own false (rwD rows),.non,.own true (hD h),.own true (sD s),.bor 5 [p]]
theorem Z210(h:Hd)(x:Int)(p:Nat):hD (h++[(x,p)])=.nd (.dic true (List.map (fun e=>kG e.fst) h++[Sum.inl x])) (List.map (fun e=>aI e.snd) h++[aI p]):=by
 show D.nd (.dic true ((h++[(x,p)]).map fun e=>kG e.1)) ((h++[(x,p)]).map fun e=>aI e.2)=_
 rw [Qv,Qv];rfl
theorem Z558(s:List (Int×V))(x:Int)(v:V):sD (s++[(x,v)])=.nd (.dic true (List.map (fun e=>kG e.fst) s++[Sum.inl x])) (List.map (fun e=>D.at e.snd) s++[D.at v]):=by
 show D.nd (.dic true ((s++[(x,v)]).map fun e=>kG e.1)) ((s++[(x,v)]).map fun e=>D.at e.2)=_
 rw [Qv,Qv];rfl
theorem Z211(h:Hd)(x:Int)(p q j:Nat)(hj:h[j]?=some (x,q)):hD (h.set j (x,p))=.nd (.dic true (List.map (fun e=>kG e.fst) h)) ((List.map (fun e=>aI e.snd) h).set j (aI p)):=by
 show D.nd (.dic true ((h.set j (x,p)).map fun e=>kG e.1)) ((h.set j (x,p)).map fun e=>aI e.2)=_
 rw [Wa,Wa]
 have:(h.map fun e=>kG e.1).set j (kG x)=h.map fun e=>kG e.1:=by
  refine Jz fun i=>?_
  rw [Qm]
  by_cases e:j=i
  ·subst e
   rw [if_pos rfl,Qa,hj,if_pos (by simpa using (Qc.mp hj).1)];rfl
  ·rw [if_neg e]
 rw [this]
theorem v_fn1(g:Fn)(rows:List (List Int))(p:Nat)(h:Hd)(s:List (Int×V))(x:Int)(j:Nat)(hs:idk (kG x) (kS s)=some j) :
  Z326 K A g (fnS rows p h s (.own true (aI x)))=.nx (fnS rows p h s .non):=by
 unfold Z326
 walk_at "evs"
theorem v_fn2(g:Fn)(rows:List (List Int))(p:Nat)(h:Hd)(s:List (Int×V))(x:Int)(hs:idk (kG x) (kS s)=none)(hh:idk (kG x) (kH h)=none)(z1:s.length < 16777216)(z2:h.length < 16777216) :
  Z326 K A g (fnS rows p h s (.own true (aI x)))=.rt (.val bT) (fnS rows p (h++[(x,p)]) (s++[(x,.bl true)]) (.own true (aI x))):=by
 unfold Z326
 walk_at "evs"
 show _=SR.rt (DV.val bT) [.bor 5 [],.own true (aI p),.bor 7 [],.bor 8 [],.own true (aI x),.own false (rwD rows),.non,.own true (hD (h++[(x,p)])),.own true (sD (s++[(x,.bl true)])),.bor 5 [p]]
 rw [Z210,Z558]
theorem v_fn3(g:Fn)(rows:List (List Int))(p q j:Nat)(h h2:Hd)(s s2:List (Int×V))(x:Int)(hs:idk (kG x) (kS s)=none)(hh:idk (kG x) (kH h)=some j)(hj:h[j]?=some (x,q))(z1:s.length < 16777216)
  (hg:g [rwD rows,aI q,hD h,sD (s++[(x,.bl true)])]=.ok (.val (.at (.bl false))) [rwD rows,aI q,hD h2,sD s2]) :
  Z326 K A g (fnS rows p h s (.own true (aI x)))=.nx (fnS rows p h2 s2 .non):=by
 have hj2:(h.map fun e=>aI e.2)[j]?=some (aI q):=by rw [Qa,hj];rfl
 rw [Z558] at hg
 unfold Z326
 walk_at "evs"
theorem v_fn4(g:Fn)(rows:List (List Int))(p q j:Nat)(h h2:Hd)(s s2:List (Int×V))(x:Int)(hs:idk (kG x) (kS s)=none)(hh:idk (kG x) (kH h)=some j)(hj:h[j]?=some (x,q))(z1:s.length < 16777216)
  (hg:g [rwD rows,aI q,hD h,sD (s++[(x,.bl true)])]=.ok (.val (.at (.bl true))) [rwD rows,aI q,hD h2,sD s2]) (hh2:idk (kG x) (kH h2)=some j) (hj2:h2[j]?=some (x,q)) (z2:h2.length < 16777216) :
  Z326 K A g (fnS rows p h s (.own true (aI x)))=.rt (.val bT) (fnS rows p (h2.set j (x,p)) s2 (.own true (aI x))):=by
 have hj3:(h.map fun e=>aI e.2)[j]?=some (aI q):=by rw [Qa,hj];rfl
 have hj4:j < h2.length:=(Qc.mp hj2).1
 rw [Z558] at hg
 unfold Z326
 walk_at "evs"
 show _=SR.rt (DV.val bT) [.bor 5 [],.own true (aI p),.bor 7 [],.bor 8 [],.own true (aI x),.own false (rwD rows),.non,.own true (hD (h2.set j (x,p))),.own true (sD s2),.bor 5 [p]]
 rw [Z211 h2 x p q j hj2]
noncomputable abbrev sK(s:List (Int×V)):List Int:=s.map (·.1)
theorem Z233{α:Type}{l:List (Int×α)}{x:Int}(h:x∉l.map (·.1)):idk (kG x) (l.map fun e=>kG e.1)=none:=by
 unfold idk
 rw [List.findIdx?_eq_none_iff]
 intro k hk
 obtain ⟨e,he,rfl⟩:=Qk.mp hk
 have:¬ e.1=x:=fun z=>h (z ▸ Qk.mpr ⟨e,he,rfl⟩)
 simpa using this
theorem Z235{α:Type}:∀ {l:List (Int×α)} {x:Int},x∈l.map (·.1)→∃ j v,idk (kG x) (l.map fun e=>kG e.1)=some j∧l[j]?=some (x,v)
 | [],x,h=>by cases h
 | e::l,x,h=>by
  unfold idk
  rw [Ql,List.findIdx?_cons]
  by_cases hx:e.1=x
  ·subst hx
   exact ⟨0,e.2,by simp,rfl⟩
  ·have hm:x∈l.map (·.1):=by
    rcases Jb.mp h with z | z
    ·exact (hx z.symm).elim
    ·exact z
   obtain ⟨j,v,h1,h2⟩:=Z235 hm
   refine ⟨j + 1,v,?_,h2⟩
   have:decide (kG e.1=kG x)=false:=by simpa using hx
   rw [this]
   unfold idk at h1
   rw [h1];rfl
theorem Z232{α:Type}{l:List (Int×α)}{x:Int}{j:Nat}{v:α}(hn:(l.map (·.1)).Nodup)(h:l[j]?=some (x,v)):idk (kG x) (l.map fun e=>kG e.1)=some j:=by
 obtain ⟨i,w,h1,h2⟩:=Z235 (x:=x) (l:=l) (Qk.mpr ⟨_,Qg h,rfl⟩)
 rw [h1]
 have e1:(l.map (·.1))[i]?=some x:=by rw [Qa,h2];rfl
 have e2:(l.map (·.1))[j]?=some x:=by rw [Qa,h];rfl
 obtain ⟨q1,r1⟩:=Qc.mp e1
 obtain ⟨q2,r2⟩:=Qc.mp e2
 rw [(Wu hn).mp (r1.trans r2.symm)]
noncomputable def free(h:Hd)(s:List Int):Nat:=((hK h).filter fun y=>!s.contains y).length
theorem Z356{h:Hd}{s:List Int}{y:Int}:y∈(hK h).filter (fun y=>!s.contains y)↔y∈hK h∧y∉s:=by
 rw [Ja];simp
theorem Z202{h:Hd}{s s':List Int}(hn:(hK h).Nodup)(hs:∀ x∈s,x∈s'):free h s'≤free h s :=
 Z394 (hn.sublist Jf) fun y hy=>by
  obtain ⟨h1,h2⟩:=Z356.mp hy
  exact Z356.mpr ⟨h1,fun z=>h2 (hs y z)⟩
theorem Z201{h:Hd}{s:List Int}{x:Int}(hn:(hK h).Nodup)(h1:x∈hK h)(h2:x∉s):free h (s++[x]) + 1≤free h s:=by
 have:=Z394 (l:=x::(hK h).filter fun y=>!(s++[x]).contains y) (m:=(hK h).filter fun y=>!s.contains y) (Ji.mpr ⟨fun z=>(Z356.mp z).2 (by simp),hn.sublist Jf⟩) fun y hy=>by
  rcases Jb.mp hy with rfl | hy
  ·exact Z356.mpr ⟨h1,h2⟩
  ·obtain ⟨g1,g2⟩:=Z356.mp hy
   exact Z356.mpr ⟨g1,fun z=>g2 (Qi _ z)⟩
 simpa [free] using this
structure Won(rows:List (List Int))(p:Nat)(h:Hd)(s:List Int)(h':Hd):Prop where
 ks:∃ z,z∉hK h∧hK h'=hK h++[z]
 vs:(hV h').Perm (p::hV h)
 ed:∀ e∈h',e.1∈rowAt rows e.2
 st:∀ (i:Nat) e,h[i]?=some e→e.1∈s→h'[i]?=some e
structure Lost(rows:List (List Int))(l:List Int)(h:Hd)(s s':List Int):Prop where
 gr:∀ x∈s,x∈s'
 row:∀ y∈l,y∈s'
 cl:∀ x∈s',x∈s∨(x∈hK h∧∀ e∈h,e.1=x→∀ y∈rowAt rows e.2,y∈s')
theorem Z596{l:List Nat}{j p q:Nat}(hj:l[j]?=some q):l.Perm (q::l.eraseIdx j)∧(l.set j p).Perm (p::l.eraseIdx j):=by
 obtain ⟨hl,rfl⟩:=Qc.mp hj
 rw [List.eraseIdx_eq_take_drop_succ]
 constructor
 ·have:l=l.take j++l[j]::l.drop (j + 1):=by rw [← List.drop_eq_getElem_cons hl,List.take_append_drop]
  conv=>lhs;rw [this]
  exact List.perm_middle
 ·rw [List.set_eq_take_append_cons_drop,if_pos hl]
  exact List.perm_middle
theorem Z682{rows:List (List Int)}{p:Nat}{h:Hd}{s:List Int}{x:Int}(hx:x∈rowAt rows p)(hh:x∉hK h)(he:∀ e∈h,e.1∈rowAt rows e.2):Won rows p h s (h++[(x,p)]):=by
 refine ⟨⟨x,hh,by simp [hK]⟩,?_,fun e z=>?_,fun i e z _=>?_⟩
 ·show ((h++[(x,p)]).map (·.2)).Perm _
  rw [Qv]
  exact Wh
 ·rcases Qe.mp z with z | z
  ·exact he e z
  ·rw [Qy.mp z];exact hx
 ·rw [Qo (Qc.mp z).1];exact z
theorem Z684{rows:List (List Int)}{p q j:Nat}{h h2:Hd}{s:List Int}{x:Int}(hx:x∈rowAt rows p)(hs:x∉s)(hj:h[j]?=some (x,q))(w:Won rows q h (s++[x]) h2):h2[j]?=some (x,q)∧Won rows p h s (h2.set j (x,p)):=by
 have hj2:h2[j]?=some (x,q):=w.st j _ hj (by simp)
 refine ⟨hj2,?_,?_,fun e z=>?_,fun i e z hz=>?_⟩
 ·obtain ⟨z,z1,z2⟩:=w.ks
  refine ⟨z,z1,?_⟩
  rw [← z2]
  show (h2.set j (x,p)).map (·.1)=_
  rw [Wa]
  refine Jz fun i=>?_
  rw [Qm]
  by_cases e:j=i
  ·subst e
   rw [if_pos rfl,Qa,hj2,if_pos (by simpa using (Qc.mp hj2).1)];rfl
  ·rw [if_neg e]
 ·show ((h2.set j (x,p)).map (·.2)).Perm _
  rw [Wa]
  have e:(hV h2)[j]?=some q:=by rw [Qa,hj2];rfl
  obtain ⟨p1,p2⟩:=Z596 (p:=p) e
  have p3:=(p1.symm.trans w.vs).cons_inv
  exact p2.trans (p3.cons p)
 ·rcases List.mem_or_eq_of_mem_set z with z | rfl
  ·exact w.ed e z
  ·exact hx
 ·have hij:j≠i:=by
   rintro rfl
   rw [hj] at z
   cases z
   exact hs hz
  rw [Wd hij]
  exact w.st i e z (Qi _ hz)
theorem v_fnA(n:Nat)(rows:List (List Int))(p:Nat)(h h':Hd)(s s':List (Int×V))(hp:p < rows.length)
  (lp:loopG (itP false 9 5 [p]) (asgD 4) (Z326 K A (Z183 K n A)) ((rowAt rows p).length + 1) 0 (fnS rows p h s .non)=.nx (fnS rows p h' s' .non)) :
  Z183 K (n + 1) A [rwD rows,aI p,hD h,sD s]=.ok (.val (.at (.bl false))) [rwD rows,aI p,hD h',sD s']:=by
 have e1:(rows.map nD)[p]?=some (nD (rowAt rows p)):=by
  rw [Qa,Qh hp];simp [rowAt,Jp,Qh hp]
 have e2:ixN rows.length (p:Int)=some p:=by unfold ixN;rw [if_pos (by omega),if_pos (by omega)];simp
 unfold Z183 Z34
 walk_at "evs"
theorem v_fnB(n:Nat)(rows:List (List Int))(p:Nat)(h h':Hd)(s s':List (Int×V))(y:Int)(hp:p < rows.length)
  (lp:loopG (itP false 9 5 [p]) (asgD 4) (Z326 K A (Z183 K n A)) ((rowAt rows p).length + 1) 0 (fnS rows p h s .non)=.rt (.val bT) (fnS rows p h' s' (.own true (aI y)))) :
  Z183 K (n + 1) A [rwD rows,aI p,hD h,sD s]=.ok (.val bT) [rwD rows,aI p,hD h',sD s']:=by
 have e1:(rows.map nD)[p]?=some (nD (rowAt rows p)):=by
  rw [Qa,Qh hp];simp [rowAt,Jp,Qh hp]
 have e2:ixN rows.length (p:Int)=some p:=by unfold ixN;rw [if_pos (by omega),if_pos (by omega)];simp
 unfold Z183 Z34
 walk_at "evs"
theorem Z559(s:List (Int×V))(x:Int)(v:V):sK (s++[(x,v)])=sK s++[x]:=by simp [sK]
theorem asg4(rows:List (List Int))(p:Nat)(h:Hd)(s:List (Int×V))(x:Int)(i:Nat):asgD 4 (fnS rows p h s .non) (mkV 5 ([p]++[i]) (aI x))=some (fnS rows p h s (.own true (aI x))):=by
 unfold fnS
 walk_at "ev"
theorem Z659(rows:List (List Int)):∀ (n p:Nat) (h:Hd) (s:List (Int×V)),p < rows.length→(hK h).Nodup→(∀ e∈h,e.2 < rows.length∧e.1∈rowAt rows e.2)→free h (sK s) < n→s.length + free h (sK s) + 1 < 16777216→h.length + 1 < 16777216 →
  (∃ h' s',Z183 K n A [rwD rows,aI p,hD h,sD s]=.ok (.val bT) [rwD rows,aI p,hD h',sD s']∧Won rows p h (sK s) h') ∨
  ∃ s',Z183 K n A [rwD rows,aI p,hD h,sD s]=.ok (.val (.at (.bl false))) [rwD rows,aI p,hD h,sD s']∧Lost rows (rowAt rows p) h (sK s) (sK s')∧s'.length + free h (sK s')≤s.length + free h (sK s)
 | 0,p,h,s,_,_,_,hf,_,_=>(Nat.not_lt_zero _ hf).elim
 | n + 1,p,h,s,hp,hn,he,hf,hz,hl=>by
  have lp:=Z344 (t:=false) (n:=9) (k:=5) (p:=[p]) (l:=(rowAt rows p).map aI) (kd:=.lst true) (b:=asgD 4) (body:=Z326 K A (Z183 K n A)) (s:=fnS rows p h s .non) (.inl ⟨rfl,true,rfl⟩)
   (fun i st=>∃ s',st=fnS rows p h s' .non∧Lost rows ((rowAt rows p).take i) h (sK s) (sK s')∧s'.length + free h (sK s')≤s.length + free h (sK s))
   (fun r=>∃ h' s' y,r=.rt (.val bT) (fnS rows p h' s' (.own true (aI y)))∧Won rows p h (sK s) h')
   ⟨s,rfl,⟨fun x z=>z,by simp,fun x z=>.inl z⟩,Qu _⟩
   (by
    rintro i st ⟨s',rfl,_⟩
    refine ⟨by simp [held,fnS],?_⟩
    have e1:(rows.map nD)[p]?=some (nD (rowAt rows p)):=by
     rw [Qa,Qh hp];simp [rowAt,Jp,Qh hp]
    walk_at "evs")
   (by
    rintro i st c hc ⟨s',rfl,lo,me⟩
    rw [Qa] at hc
    cases ex:(rowAt rows p)[i]? with
    | none=>rw [ex] at hc;cases hc
    | some x =>
     rw [ex] at hc
     simp only [Option.map_some,Option.some.injEq] at hc
     subst hc
     have hxr:x∈rowAt rows p:=Qg ex
     have tk:(rowAt rows p).take (i + 1)=(rowAt rows p).take i++[x]:=by rw [Jv,ex];rfl
     refine ⟨_,asg4 rows p h s' x i,?_⟩
     have fm:free h (sK s')≤free h (sK s):=Z202 hn lo.gr
     by_cases hs:x∈sK s'
     ·obtain ⟨j,v,h1,h2⟩:=Z235 hs
      refine .inl ⟨_,.inl (v_fn1 _ rows p h s' x j h1),s',rfl,⟨lo.gr,fun y hy=>?_,lo.cl⟩,me⟩
      rw [tk] at hy
      rcases Qe.mp hy with hy | hy
      ·exact lo.row y hy
      ·rw [Qy.mp hy];exact hs
     ·have i1:=Z233 hs
      by_cases hh:x∈hK h
      ·obtain ⟨j,q,h1,h2⟩:=Z235 hh
       have hq:=he _ (Qg h2)
       have fl:=Z201 hn hh hs
       rcases Z659 rows n q h (s'++[(x,.bl true)]) hq.1 hn he (by rw [Z559];omega) (by rw [Z559,Qx,Wg];omega) hl with ⟨h2',s2,e,w⟩ | ⟨s2,e,w,me2⟩
       ·rw [Z559] at w
        obtain ⟨w1,w2⟩:=Z684 hxr hs h2 w
        obtain ⟨zz,z1,z2⟩:=w.ks
        have hn2:(hK h2').Nodup:=by
         rw [z2,Qj]
         refine ⟨hn,by simp,fun a ha b hb=>?_⟩
         rw [Qy.mp hb]
         rintro rfl
         exact z1 ha
        have hl2:h2'.length=h.length + 1:=by
         have:=congrArg List.length z2
         simpa [hK] using this
        refine .inr ⟨_,_,v_fn4 _ rows p q j h h2' s' s2 x i1 h1 h2 (by omega) e (Z232 hn2 w1) w1 (by omega),_,_,_,rfl,w2.ks,w2.vs,w2.ed,fun i e z hz=>w2.st i e z (lo.gr _ hz)⟩
       ·rw [Z559] at w me2
        rw [Qx,Wg] at me2
        refine .inl ⟨_,.inl (v_fn3 _ rows p q j h h s' s2 x i1 h1 h2 (by omega) e),s2,rfl,⟨fun y hy=>w.gr y (Qi _ (lo.gr y hy)),fun y hy=>?_,fun y hy=>?_⟩,by omega⟩
        ·rw [tk] at hy
         rcases Qe.mp hy with hy | hy
         ·exact w.gr y (Qi _ (lo.row y hy))
         ·exact w.gr y (Qf _ hy)
        ·rcases w.cl y hy with z | z
         ·rcases Qe.mp z with z | z
          ·rcases lo.cl y z with z | ⟨z1,z2⟩
           ·exact .inl z
           ·exact .inr ⟨z1,fun e he' hey u hu=>w.gr u (Qi _ (z2 e he' hey u hu))⟩
          ·rw [Qy.mp z]
           refine .inr ⟨hh,fun e he' hey u hu=>?_⟩
           have:e=(x,q):=by
            obtain ⟨k,hk⟩:=Qz.mp he'
            have q1:(hK h)[k]?=some x:=by rw [Qa,hk,Option.map_some,hey]
            have q2:(hK h)[j]?=some x:=by rw [Qa,h2];rfl
            obtain ⟨b1,r1⟩:=Qc.mp q1
            obtain ⟨b2,r2⟩:=Qc.mp q2
            have:=(Wu hn).mp (r1.trans r2.symm)
            subst this
            rw [hk] at h2
            exact Option.some.inj h2
           subst this
           exact w.row u hu
         ·exact .inr z
      ·have i2:=Z233 hh
       have w:=Z682 (s:=sK s) (p:=p) hxr hh fun e z=>(he e z).2
       exact .inr ⟨_,_,v_fn2 _ rows p h s' x i1 i2 (by omega) (by omega),_,_,_,rfl,w⟩)
  rw [Qn] at lp
  rcases lp with ⟨st,e,s',rfl,lo,me⟩ | ⟨r,st,e,h',s',y,e2,w⟩
  ·rw [Jy] at lo
   exact .inr ⟨s',v_fnA n rows p h h s s' hp e,lo,me⟩
  ·cases e2
   exact .inl ⟨h',s',v_fnB n rows p h h' s s' y hp e,w⟩
noncomputable def hI(h:Hd):List Int:=h.map fun e=>(e.2:Int)
theorem Z213(h:Hd):(h.map fun e=>aI e.2)=(hI h).map aI:=by unfold hI;rw [Jk];rfl
theorem Z214{h:Hd}{p:Nat}:(p:Int)∈hI h↔p∈hV h:=by
 unfold hI hV
 simp only [Qk]
 constructor
 ·rintro ⟨e,h1,h2⟩;exact ⟨e,h1,by omega⟩
 ·rintro ⟨e,h1,h2⟩;exact ⟨e,h1,by omega⟩
noncomputable abbrev unS(rows:List (List Int))(h:Hd)(y:DL):Sd:=[.bor 3 [],.bor 4 [],.own true (.nd (.lst true) (h.map fun e=>aI e.2)),.own false (rwD rows),.own false (hD h),y]
theorem imH(h:Hd):D.imms (h.map fun e=>aI e.2)=true:=Z237 (fun _=>rfl) h
noncomputable abbrev unT:BF:=bV (eNw (hIn true) (aCons (eVar 5) (aCons (eVar 2) aNil)))
theorem Z670(rows:List (List Int))(h:Hd)(p:Int):unT (unS rows h (.own true (aI p)))=.ok (!decide (p∈hI h)) (unS rows h (.own true (aI p))):=by
 have ha:atomsD (h.map fun e=>aI e.2)=some ((hI h).map V.int):=by rw [Z213];exact Z22 _
 have hv:=Z238 p (hI h)
 unfold unT
 walk_at "evs"
noncomputable abbrev left(rows:List (List Int))(h:Hd):List Nat:=(List.range rows.length).filter fun p=>!decide (p∈hV h)
noncomputable abbrev lfD(l:List Nat):D:=.nd (.lst true) (l.map fun p:Nat=>aI p)
theorem Z671(rows:List (List Int))(h:Hd)(hz:rows.length < 10000):Z188 K A [rwD rows,hD h]=.ok (.val (lfD (left rows h))) [rwD rows,hD h]:=by
 have im:=imH h
 obtain ⟨acc,s',h1,y,hy,rfl,rfl⟩:=Z68 (it:=itR 0 rows.length) (n:=5) (c:=unT) (e:=eVar 5) (N:=rows.length)
  (P:=fun i acc s=>∃ y,(y=.non∨∃ x,y=.own true (aI x))∧acc=(((List.range i).filter fun p=>!decide (p∈hV h)).map fun p:Nat=>aI p)∧s=unS rows h y)
  (by
   rintro i acc s hi ⟨y,hy,rfl,rfl⟩
   refine ⟨.val (aI (0 + i)),unS rows h (.own true (aI (0 + i))),?_,?_,?_⟩
   ·unfold itR;rw [if_pos hi]
   ·rcases hy with rfl | ⟨n,rfl⟩ <;> rfl
   ·have ht:=Z670 rows h (0 + i)
    have e0:(0 + (i:Int))=(i:Int):=by omega
    by_cases hm:i∈hV h
    ·have ht':unT (unS rows h (.own true (aI (0 + i))))=.ok false (unS rows h (.own true (aI (0 + i)))):=by rw [ht,e0,decide_eq_true (Z214.mpr hm)];rfl
     refine .inr ⟨_,ht',_,.inr ⟨_,rfl⟩,?_,rfl⟩
     ·rw [List.range_succ,Jx]
      simp [hm]
    ·have ht':unT (unS rows h (.own true (aI (0 + i))))=.ok true (unS rows h (.own true (aI (0 + i)))):=by rw [ht,e0,decide_eq_false (fun z=>hm (Z214.mp z))];rfl
     refine .inl ⟨_,aI (0 + i),_,ht',rfl,?_,_,.inr ⟨_,rfl⟩,?_,rfl⟩
     ·have:=Js (fun p=>!decide (p∈hV h)) (List.range i)
      rw [Qn,sz]
      simp only [List.length_range] at this
      omega
     ·rw [List.range_succ,Jx,Qv,e0]
      simp [hm])
  (by
   rintro acc s ⟨y,hy,rfl,rfl⟩
   unfold itR;rw [if_neg (Jw _)])
  rows.length 0 [] (unS rows h .non) (by omega) ⟨.non,.inl rfl,rfl,rfl⟩
 have b1:(rows.length:Int) < 4611686018427387904:=by omega
 have b2:-4611686018427387904≤(rows.length:Int):=by omega
 have uy:unrootD 5 y=y:=by rcases hy with rfl | ⟨n,rfl⟩ <;> rfl
 clear hy
 unfold Z188 Z39
 walk_at "evs"
noncomputable abbrev smS(rows:List (List Int))(h0:Hd)(st:List (Int×V))(h:Hd)(y:DL):Sd:=[.bor 5 [],.bor 6 [],.bor 7 [],.own true (hD h),y,.own false (rwD rows),.own false (hD h0),.own false (sD st)]
theorem imS(s:List (Int×V)):D.imms (s.map fun e=>D.at e.2)=true:=Z237 (fun _=>rfl) s
theorem v_smb(rows:List (List Int))(h0 h h':Hd)(st s':List (Int×V))(p:Int)(b:Bool)(l:List Nat)
  (e:Z183 K 24 A [rwD rows,aI p,hD h,sD st]=.ok (.val (.at (.bl b))) [rwD rows,aI p,hD h',sD s']) :
  Z329 K A (smS rows h0 st h (.own true (aI p))++[.own true (lfD l)])=.nx (smS rows h0 st h' .non++[.own true (lfD l)]):=by
 have im:=imS st
 unfold Z329
 walk_at "evs"
theorem v_sme(rows:List (List Int))(h0 h':Hd)(st:List (Int×V))(hz:rows.length < 10000)
  (lp:loopG (itP false 8 8 []) (asgD 4) (Z329 K A) ((left rows h0).length + 1) 0 (smS rows h0 st h0 .non++[.own true (lfD (left rows h0))])=.nx (smS rows h0 st h' .non++[.own true (lfD (left rows h0))])) :
  Z185 K A [rwD rows,hD h0,sD st]=.ok (.val (hD h')) [rwD rows,hD h0,sD st]:=by
 have im:=imH h0
 have un:=Z671 (K:=K) (A:=A) rows h0 hz
 generalize left rows h0=l at *
 have lp':loopG (itP false 8 8 []) (asgD 4) (Z329 K A) (l.length + 1) 0 [.bor 5 [],.bor 6 [],.bor 7 [],.own true (.nd (.dic true (List.map (fun e=>kG e.fst) h0)) (List.map (fun e=>aI e.snd) h0)),.non,.own false (rwD rows),.own false (hD h0),.own false (sD st),.own true (lfD l)] =
   .nx [.bor 5 [],.bor 6 [],.bor 7 [],.own true (hD h'),.non,.own false (rwD rows),.own false (hD h0),.own false (sD st),.own true (lfD l)]:=lp
 clear lp hz
 unfold Z185 Z36
 walk_at "evs"
theorem Z665(rows:List (List Int))(h0:Hd)(st:List (Int×V))(hz:rows.length < 10000)(hst:st.length < 10000)(P:Nat→Hd→Prop)(p0:P 0 h0)
  (hP:∀ i h,P i h→(hK h).Nodup∧(∀ e∈h,e.2 < rows.length∧e.1∈rowAt rows e.2)∧h.length < 24)
  (hs:∀ i p h,(left rows h0)[i]?=some p→P i h→(∀ h',Won rows p h (sK st) h'→P (i + 1) h')∧(∀ s',Lost rows (rowAt rows p) h (sK st) s'→P (i + 1) h)) :
  ∃ h',Z185 K A [rwD rows,hD h0,sD st]=.ok (.val (hD h')) [rwD rows,hD h0,sD st]∧P (left rows h0).length h':=by
 obtain ⟨s',lp,h',rfl,hp⟩:=Z343 (t:=false) (n:=8) (k:=8) (p:=[]) (l:=(left rows h0).map fun p:Nat=>aI p) (kd:=.lst true) (b:=asgD 4) (body:=Z329 K A) (s:=smS rows h0 st h0 .non++[.own true (lfD (left rows h0))]) (.inl ⟨rfl,true,rfl⟩)
  (fun i s=>∃ h,s=smS rows h0 st h .non++[.own true (lfD (left rows h0))]∧P i h) ⟨h0,rfl,p0⟩ (by rintro i s ⟨h,rfl,_⟩;exact ⟨rfl,rfl⟩) (by
  rintro i s c hc ⟨h,rfl,ph⟩
  rw [Qa] at hc
  cases ep:(left rows h0)[i]? with
  | none=>rw [ep] at hc;cases hc
  | some p =>
   rw [ep] at hc
   simp only [Option.map_some,Option.some.injEq] at hc
   subst hc
   have hpl:p < rows.length:=Wv.mp (Ja.mp (Qg ep)).1
   obtain ⟨g1,g2,g3⟩:=hP i h ph
   obtain ⟨q1,q2⟩:=hs i p h ep ph
   have hf:free h (sK st)≤h.length:=by
    have:=Js (fun y=>!(sK st).contains y) (hK h)
    simpa [free,hK] using this
   rcases Z659 (K:=K) (A:=A) rows 24 p h st hpl g1 g2 (by omega) (by omega) (by omega) with ⟨h',s',e,w⟩ | ⟨s',e,w,_⟩
   ·exact ⟨_,_,rfl,.inl (v_smb rows h0 h h' st s' p true _ e),h',rfl,q1 h' w⟩
   ·exact ⟨_,_,rfl,.inl (v_smb rows h0 h h st s' p false _ e),h,rfl,q2 _ w⟩)
 rw [Qn] at lp hp
 exact ⟨h',v_sme rows h0 h' st hz lp,hp⟩
theorem v_sm0(rows:List (List Int))(hz:rows.length≤20):∃ (h:Hd) (S:List Int),Mat rows rows.length h∧(outK rows S rows.length).length + S.length≤h.length ∧
  Z185 K A [rwD rows,.nd (.dic true []) [],.nd (.dic true []) []]=.ok (.val (hD h)) [rwD rows,.nd (.dic true []) [],.nd (.dic true []) []]:=by
 have hl:left rows []=List.range rows.length:=by
  unfold left
  rw [List.filter_eq_self]
  intro p _
  simp [hV]
 obtain ⟨h,e,M,hlen,_,S,hS⟩:=Z665 (K:=K) (A:=A) rows [] [] (by omega) (by simp) (fun i h=>Mat rows i h∧h.length≤i∧i≤rows.length∧∃ S,(outK rows S i).length + S.length≤h.length)
  ⟨⟨Wo,Wo,by simp⟩,by simp,Nat.zero_le _,[],by simp [outK]⟩
  (fun i h ⟨M,h1,h2,_⟩=>⟨M.kn,fun e he=>⟨by have:=(M.ed e he).1;omega,(M.ed e he).2⟩,by omega⟩)
  (fun i p h hp ⟨M,h1,h2,S,hS⟩=>by
   rw [hl] at hp
   obtain ⟨hi,rfl⟩:=Qc.mp hp
   rw [List.length_range] at hi
   rw [List.getElem_range]
   refine ⟨fun h' w=>?_,fun s' w=>?_⟩
   ·obtain ⟨z,z1,z2⟩:=w.ks
    have l2:h'.length=h.length + 1:=by
     have:=congrArg List.length z2
     simpa [hK] using this
    refine ⟨⟨?_,?_,fun e he=>⟨?_,w.ed e he⟩⟩,by omega,by omega,S,?_⟩
    ·rw [z2,Qj]
     refine ⟨M.kn,by simp,fun a ha b hb=>?_⟩
     rw [Qy.mp hb]
     rintro rfl
     exact z1 ha
    ·refine w.vs.nodup_iff.mpr (Ji.mpr ⟨fun z=>?_,M.vn⟩)
     obtain ⟨e,he,h3⟩:=Qk.mp z
     have:=(M.ed e he).1
     omega
    ·have:=w.vs.mem_iff.mp (Qk.mpr ⟨e,he,rfl⟩)
     rcases Jb.mp this with z | z
     ·omega
     ·obtain ⟨e2,he2,h3⟩:=Qk.mp z
      have:=(M.ed e2 he2).1
      omega
    ·have:=Z439 (rows:=rows) (S:=S) (k:=i)
     omega
   ·obtain ⟨S',hS'⟩:=Z76 M hS w.row fun x hx=>(w.cl x hx).resolve_left (by simp [sK])
    exact ⟨⟨M.kn,M.vn,fun e he=>⟨by have:=(M.ed e he).1;omega,(M.ed e he).2⟩⟩,by omega,by omega,S',hS'⟩)
 rw [hl,List.length_range] at M hS
 refine ⟨h,S,M,hS,?_⟩
 have e0:hD []=D.nd (.dic true []) []:=rfl
 have e1:sD []=D.nd (.dic true []) []:=rfl
 rw [e0,e1] at e
 exact e
noncomputable def Ow(y:DL):Prop:=y=.non∨∃ d,y=.own true d
theorem Ow.u{y:DL}(h:Ow y)(j:Nat):unrootD j y=y:=by rcases h with rfl | ⟨d,rfl⟩ <;> rfl
theorem Ow.k{y:DL}(h:Ow y)(j:Nat)(p:List Nat)(f:Nat→Bool):killD j p f y=y:=by rcases h with rfl | ⟨d,rfl⟩ <;> rfl
theorem Z661(one:Int)(first:Bool):∃ r:Int,0≤r∧r≤4∧Z180 K A [aI one,aI 4,.at (.bl first)]=.ok (.val (aI r)) [aI one,aI 4,.at (.bl first)]:=by
 by_cases h1:one % 4=0
 ·refine ⟨one / 4 % 5,by omega,by omega,?_⟩
  unfold Z180 Z32
  walk_at "evs"
 ·have hm:min (4:Int) (4 + 1)=4:=by decide
  by_cases h2:one % 4=1
  ·cases first with
   | true =>
    refine ⟨4,by omega,by omega,?_⟩
    unfold Z180 Z32
    walk_at "evs"
   | false =>
    refine ⟨one / 4 % 4,by omega,by omega,?_⟩
    unfold Z180 Z32
    walk_at "evs"
  ·refine ⟨one / 4 % 4,by omega,by omega,?_⟩
   unfold Z180 Z32
   walk_at "evs"
noncomputable abbrev roS(figs:List Int)(many:Nat)(wide spread:Int)(row:List Int)(y5:DL):Sd:=[.bor 7 [],.own true (aI many),.own true (aI wide),.own true (aI spread),.own true (nD row),y5,.non,.own false (nD figs),.non,.non,.non]
theorem v_ro1(figs:List Int)(many:Nat)(wide spread:Int)(row:List Int)(k:Nat)(x:Int)(hk:figs[k]?=some x)(hw:0 < wide)(hb1:-18446744073709551616 < spread)(hb2:spread < 18446744073709551616)(hz:row.length < 16777216) :
  Z325 K A (roS figs many wide spread row (.own true (aI (0 + k))))=.nx (roS figs many wide spread (if x % wide * spread∈row then row else row++[x % wide * spread]) .non):=by
 have e1:(figs.map aI)[k]?=some (aI x):=by rw [Qa,hk];rfl
 have hl:=(Qc.mp hk).1
 have e2:ixN figs.length (0 + (k:Int))=some k:=by unfold ixN;rw [if_pos (by omega),if_pos (by omega)];congr 1;omega
 have ha:atomsD (row.map aI)=some (row.map V.int):=Z22 _
 have hv:=Z238 (x % wide * spread) row
 have hw0:¬ wide=0:=by omega
 by_cases hm:x % wide * spread∈row
 ·rw [if_pos hm]
  rw [decide_eq_true hm] at hv
  unfold Z325
  walk_at "evs"
 ·rw [if_neg hm]
  rw [decide_eq_false hm] at hv
  have e:nD (row++[x % wide * spread])=.nd (.lst true) (row.map aI++[aI (x % wide * spread)]):=by
   show D.nd (.lst true) ((row++[x % wide * spread]).map aI)=_
   rw [Qv];rfl
  unfold Z325
  walk_at "evs"
  show _=SR.nx [.bor 7 [],.own true (aI many),.own true (aI wide),.own true (aI spread),.own true (nD (row++[x % wide * spread])),.non,.non,.own false (nD figs),.non,.non,.non]
  rw [e]
theorem v_ro2(figs:List Int)(many:Nat)(wide spread:Int)(row:List Int)(hm:many < 1000)
  (lp:loopG (itR 0 many) (asgD 5) (Z325 K A) (many + 1) 0 (roS figs many wide spread [] .non)=.nx (roS figs many wide spread row .non)) :
  Z181 K A [nD figs,aI many,aI wide,aI spread]=.ok (.val (nD row)) [nD figs,aI many,aI wide,aI spread]:=by
 have b1:(many:Int) < 4611686018427387904:=by omega
 have b2:-4611686018427387904≤(many:Int):=by omega
 have lp':loopG (itR 0 many) (asgD 5) (Z325 K A) (many + 1) 0 [.bor 7 [],.own true (aI many),.own true (aI wide),.own true (aI spread),.own true (.nd (.lst true) []),.non,.non,.own false (nD figs),.non,.non,.non]=.nx [.bor 7 [],.own true (aI many),.own true (aI wide),.own true (aI spread),.own true (nD row),.non,.non,.own false (nD figs),.non,.non,.non]:=lp
 clear lp hm
 unfold Z181 Z33
 walk_at "evs"
theorem Z663(figs:List Int)(many:Nat)(wide spread:Int)(hm:many≤figs.length)(h9:many < 1000)(hw:0 < wide)(hb1:-18446744073709551616 < spread)(hb2:spread < 18446744073709551616) :
  ∃ row:List Int,row.length≤many∧Z181 K A [nD figs,aI many,aI wide,aI spread]=.ok (.val (nD row)) [nD figs,aI many,aI wide,aI spread]:=by
 obtain ⟨s',lp,row,hr,rfl⟩:=Z345 (lo:=0) (n:=many) (b:=asgD 5) (body:=Z325 K A) (s:=roS figs many wide spread [] .non)
  (fun j s=>∃ row:List Int,row.length≤j∧s=roS figs many wide spread row .non) ⟨[],Qu _,rfl⟩ (by
  rintro j s hj ⟨row,hr,rfl⟩
  have hx:figs[j]?=some figs[j]:=Qh (by omega)
  refine ⟨_,_,rfl,.inl (v_ro1 figs many wide spread row j _ hx hw hb1 hb2 (by omega)),_,?_,rfl⟩
  split
  ·omega
  ·rw [Qx,Wg];omega)
 exact ⟨row,hr,v_ro2 figs many wide spread row h9 lp⟩
noncomputable abbrev chS(many:Nat)(spread one:Int)(y3:DL):Sd:=[.own true (aI many),.own true (aI spread),.own true (aI one),y3,.non,.non,.non]
noncomputable abbrev chE(n1:Nat):EF:=(eDisp (.lst true) (aCons (eNw hMul (aCons (eVar n1) (aCons (eVar 1) aNil))) (aCons (eNw hMul (aCons (eNw hAddI (aCons (eVar n1) (aCons (eC (.int (1))) aNil))) (aCons (eVar 1) aNil))) aNil)))
theorem v_ch1(many:Nat)(spread one:Int)(hb1:-18446744073709551616 < spread)(hb2:spread < 18446744073709551616)(k:Int) :
  chE 7 (chS many spread one .non++[.own true (aI k)])=.ok (.val (nD [k * spread,(k + 1) * spread])) (chS many spread one .non++[.own true (aI k)]):=by
 walk_at "evs"
 rfl
theorem v_ch2(many m:Nat)(spread one:Int)(hm:(m:Int)=(many:Int) - 1)(h9:many < 1000)(hb1:-18446744073709551616 < spread)(hb2:spread < 18446744073709551616) :
  sAsg (eCompR1 (eNw hSub (aCons (eVar 0) (aCons (eC (.int (1))) aNil))) (fun _=>bYes) (fun n1=>chE n1)) (asgD 3) (chS many spread one .non) =
   .nx (chS many spread one (.own true (rwD ((List.range m).map fun k:Nat=>[(0 + (k:Int)) * spread,((0 + (k:Int)) + 1) * spread])))):=by
 obtain ⟨acc,s',h1,y,hy,rfl,rfl⟩:=Z68 (it:=itR 0 m) (n:=7) (c:=bYes) (e:=chE 7) (N:=m)
  (P:=fun j acc s=>∃ y,(y=.non∨∃ x,y=.own true (aI x))∧acc=((List.range j).map fun k:Nat=>[(0 + (k:Int)) * spread,((0 + (k:Int)) + 1) * spread]).map nD∧s=chS many spread one .non++[y])
  (by
   rintro j acc s hj ⟨y,hy,rfl,rfl⟩
   have e1:=v_ch1 many spread one hb1 hb2 (0 + (j:Int))
   have e0:bYes (chS many spread one .non++[.own true (aI (0 + j))])=.ok true (chS many spread one .non++[.own true (aI (0 + j))]):=rfl
   have e2:itR 0 m j (chS many spread one .non++[y])=some (some (.val (aI (0 + (j:Int))))):=by unfold itR;rw [if_pos hj]
   have e3:asgD 7 (chS many spread one .non++[y]) (.val (aI (0 + (j:Int))))=some (chS many spread one .non++[.own true (aI (0 + (j:Int)))]):=by rcases hy with rfl | ⟨x,rfl⟩ <;> rfl
   refine ⟨_,_,e2,e3,.inl ⟨_,_,_,e0,e1,?_,_,.inr ⟨_,rfl⟩,?_,rfl⟩⟩
   ·rw [Qn,Qn,List.length_range,sz];omega
   ·rw [List.range_succ,Qv,Qv];rfl)
  (by
   rintro acc s ⟨y,hy,rfl,rfl⟩
   unfold itR;rw [if_neg (Jw _)])
  m 0 [] (chS many spread one .non++[.non]) (by omega) ⟨.non,.inl rfl,rfl,rfl⟩
 have b1:(m:Int) < 4611686018427387904:=by omega
 have b2:-4611686018427387904≤(m:Int):=by omega
 have uy:unrootD 7 y=y:=by rcases hy with rfl | ⟨n,rfl⟩ <;> rfl
 have tn:((m:Int)).toNat=m:=by omega
 have hm':(many:Int) - 1=(m:Int):=hm.symm
 clear hy h9 hm
 generalize ((List.range m).map fun k:Nat=>[(0 + (k:Int)) * spread,((0 + (k:Int)) + 1) * spread])=L at *
 generalize chE=G at *
 simp only [chS,Jh,Je] at h1
 walk_at "evs"
noncomputable abbrev rvE(n1:Nat):EF:=(eNw hRev (aCons (eVar n1) (aCons (eNw hNeg (aCons (eC (.int (1))) aNil)) aNil)))
theorem v_rv1(many:Nat)(spread one:Int)(rows:List (List Int))(j:Nat)(row:List Int)(hj:rows[j]?=some row) :
  rvE 8 (chS many spread one (.own true (rwD rows))++[.bor 3 [],.bor 3 [j]])=.ok (.val (nD row.reverse)) (chS many spread one (.own true (rwD rows))++[.bor 3 [],.bor 3 [j]]):=by
 have e1:(rows.map nD)[j]?=some (nD row):=by rw [Qa,hj];rfl
 have im:=imI row
 have e2:nD row.reverse=.nd (.lst true) (row.map aI).reverse:=by
  show D.nd (.lst true) (row.reverse.map aI)=_
  rw [List.map_reverse]
 walk_at "evs"
theorem v_rv2(many:Nat)(spread one:Int)(rows:List (List Int))(hz:rows.length < 1000) :
  sAsg (eCompL (eVar 3) (fun _=>bYes) (fun n1=>rvE n1)) (asgD 3) (chS many spread one (.own true (rwD rows)))=.nx (chS many spread one (.own true (rwD (rows.map List.reverse)))):=by
 have it:∀ i y,itP false 7 3 [] i (chS many spread one (.own true (rwD rows))++[.bor 3 [],y])=some (((rows.map nD)[i]?).map (mkV 3 ([]++[i]))):=fun i y=>rfl
 obtain ⟨acc,s',h1,y,hy,rfl,rfl⟩:=Z68 (it:=itP false 7 3 []) (n:=8) (c:=bYes) (e:=rvE 8) (N:=rows.length)
  (P:=fun j acc s=>∃ y,(y=.non∨∃ i,y=.bor 3 [i])∧acc=((rows.take j).map List.reverse).map nD∧s=chS many spread one (.own true (rwD rows))++[.bor 3 [],y])
  (by
   rintro j acc s hj ⟨y,hy,rfl,rfl⟩
   have hr:rows[j]?=some rows[j]:=Qh hj
   have e1:=v_rv1 many spread one rows j _ hr
   have e0:bYes (chS many spread one (.own true (rwD rows))++[.bor 3 [],.bor 3 [j]])=.ok true (chS many spread one (.own true (rwD rows))++[.bor 3 [],.bor 3 [j]]):=rfl
   have e2:itP false 7 3 [] j (chS many spread one (.own true (rwD rows))++[.bor 3 [],y])=some (some (.plc 3 [j])):=by rw [it,Qa,hr];rfl
   have e3:asgD 8 (chS many spread one (.own true (rwD rows))++[.bor 3 [],y]) (.plc 3 [j])=some (chS many spread one (.own true (rwD rows))++[.bor 3 [],.bor 3 [j]]):=by rcases hy with rfl | ⟨x,rfl⟩ <;> rfl
   refine ⟨_,_,e2,e3,.inl ⟨_,_,_,e0,e1,?_,_,.inr ⟨_,rfl⟩,?_,rfl⟩⟩
   ·rw [Qn,Qn,Wi,sz];omega
   ·rw [Jv,hr,Option.toList_some,Qv,Qv];rfl)
  (by
   rintro acc s ⟨y,hy,rfl,rfl⟩
   rw [it,Qa,Jm (Qu _)];rfl)
  rows.length 0 [] (chS many spread one (.own true (rwD rows))++[.bor 3 [],.non]) (by omega) ⟨.non,.inl rfl,rfl,rfl⟩
 rw [Jy] at h1
 have u1:unrootD 8 y=y:=by rcases hy with rfl | ⟨n,rfl⟩ <;> rfl
 have u2:unrootD 7 y=y:=by rcases hy with rfl | ⟨n,rfl⟩ <;> rfl
 clear hy hz
 generalize rows.map List.reverse=L at *
 generalize rvE=G at *
 simp only [chS,Jh,Je] at h1
 walk_at "evs"
theorem v_in1(many:Nat)(spread one:Int)(rows:List (List Int))(i:Int)(hi:one / 2 % many=i)(hm:0 < many)(h0:0≤i)(h9:i < 4611686018427387904)(hz:rows.length < 16777216) :
  Z612 K A (chS many spread one (.own true (rwD rows)))=.rt (.plc 3 []) (chS many spread one (.own true (rwD (rows.take i.toNat++[0]::rows.drop i.toNat)))):=by
 have e:rwD (rows.take i.toNat++[0]::rows.drop i.toNat)=.nd (.lst true) ((rows.map nD).take i.toNat++.nd (.lst true) [aI 0]::(rows.map nD).drop i.toNat):=by
  show D.nd (.lst true) ((rows.take i.toNat++[0]::rows.drop i.toNat).map nD)=_
  rw [Qv,Ql,List.map_take,List.map_drop];rfl
 have hm1:(0:Int) < (many:Int):=by omega
 clear hm
 unfold Z612
 walk_at "evs"
theorem v_ch9(many:Nat)(spread one:Int)(rows:List (List Int))(B:SF)(eb:B (chS many spread one .non)=.rt (.plc 3 []) (chS many spread one (.own true (rwD rows)))) :
  runDef 4 [false,false,false] B [aI many,aI spread,aI one]=.ok (.val (rwD rows)) [aI many,aI spread,aI one]:=by
 walk_at "evs"
theorem v_chT(many:Nat)(spread one:Int)(rows:List (List Int))(hz:rows.length < 1000) :
  sIf (bV (eNw (hEq false) (aCons (eNw hMod (aCons (eVar 2) (aCons (eC (.int (2))) aNil))) (aCons (eC (.int (1))) aNil)))) (sAsg (eCompL (eVar 3) (fun _=>bYes) (fun n1=>rvE n1)) (asgD 3)) sPass (chS many spread one (.own true (rwD rows))) =
   .nx (chS many spread one (.own true (rwD (if one % 2=1 then rows.map List.reverse else rows)))):=by
 have e:=v_rv2 many spread one rows hz
 clear hz
 generalize sAsg (eCompL (eVar 3) (fun _=>bYes) (fun n1=>rvE n1)) (asgD 3)=G at *
 by_cases h:one % 2=1
 ·rw [if_pos h]
  generalize rows.map List.reverse=L at *
  simp only [chS] at e
  walk_at "evs"
 ·rw [if_neg h]
  walk_at "evs"
theorem Z651(many:Nat)(spread one:Int)(hm:0 < many)(h9:many≤5)(hb1:-18446744073709551616 < spread)(hb2:spread < 18446744073709551616) :
  ∃ rows:List (List Int),rows.length=many∧(∀ r∈rows,r.length≤2)∧Z176 K A [aI many,aI spread,aI one]=.ok (.val (rwD rows)) [aI many,aI spread,aI one]:=by
 have h2:=v_ch2 many (many - 1) spread one (by omega) (by omega) hb1 hb2
 generalize hL:((List.range (many - 1)).map fun k:Nat=>[(0 + (k:Int)) * spread,((0 + (k:Int)) + 1) * spread])=L at h2
 have lL:L.length=many - 1:=by rw [← hL];simp
 have mL:∀ r∈L,r.length≤2:=by
  intro r hr
  rw [← hL] at hr
  obtain ⟨k,_,rfl⟩:=Qk.mp hr
  simp
 have h3:=v_chT many spread one L (by omega)
 generalize hM:(if one % 2=1 then L.map List.reverse else L)=M at h3
 have lM:M.length=many - 1:=by rw [← hM];split <;> simp [lL]
 have mM:∀ r∈M,r.length≤2:=by
  intro r hr
  rw [← hM] at hr
  split at hr
  ·obtain ⟨r',h',rfl⟩:=Qk.mp hr
   simpa using mL r' h'
  ·exact mL r hr
 have b0:0≤one / 2 % (many:Int):=Int.emod_nonneg _ (by omega)
 have b1:one / 2 % (many:Int) < many:=Int.emod_lt_of_pos _ (by omega)
 have h4:=v_in1 (K:=K) (A:=A) many spread one M (one / 2 % (many:Int)) rfl hm b0 (by omega) (by omega)
 refine ⟨M.take (one / 2 % (many:Int)).toNat++[0]::M.drop (one / 2 % (many:Int)).toNat,?_,fun r hr=>?_,?_⟩
 ·simp only [Qx,Jq,Wi,List.length_drop];omega
 ·rcases Qe.mp hr with z | z
  ·exact mM r (List.mem_of_mem_take z)
  ·rcases Jb.mp z with rfl | z
   ·simp
   ·exact mM r (List.mem_of_mem_drop z)
 ·unfold Z176
  refine v_ch9 many spread one _ _ ?_
  unfold Z28
  rw [Z164,h2]
  dsimp only
  unfold Z611
  rw [Z164,h3]
  dsimp only
  exact h4
noncomputable abbrev drS(k:NK)(ns:List Int)(f:Int)(y4 y5 y6 y7 y8 y9 y10 y11:DL):Sd:=[.own true (scD k ns),.own true (aI f),.own true (aI 5),.own true (aI 4),y4,y5,y6,y7,y8,y9,y10,y11,.non,.non,.non,.non]
theorem ix40:ixN 4 0=some 0:=rfl
theorem ix41:ixN 4 1=some 1:=rfl
theorem ix42:ixN 4 2=some 2:=rfl
theorem ix43:ixN 4 3=some 3:=rfl
theorem ix30:ixN 3 0=some 0:=rfl
theorem ix31:ixN 3 1=some 1:=rfl
theorem ix32:ixN 3 2=some 2:=rfl
noncomputable abbrev mnE(K:Qd):EF:=(eCh (hIx K) (aCons (eDisp (.lst true) (aCons (eNw hMod (aCons (eNw hDiv (aCons (eCh (hIx K) (aCons (eVar 4) (aCons (eC (.int (0))) aNil))) (aCons (eC (.int (3))) aNil))) (aCons (eNw hAddI (aCons (eVar 2) (aCons (eC (.int (1))) aNil))) aNil))) (aCons (eVar 2) (aCons (eNw hSub (aCons (eVar 2) (aCons (eNw hMod (aCons (eNw hDiv (aCons (eCh (hIx K) (aCons (eVar 4) (aCons (eC (.int (0))) aNil))) (aCons (eC (.int (3))) aNil))) (aCons (eC (.int (3))) aNil))) aNil))) aNil)))) (aCons (eNw hMod (aCons (eCh (hIx K) (aCons (eVar 4) (aCons (eC (.int (0))) aNil))) (aCons (eC (.int (3))) aNil))) aNil)))
theorem v_dr2(k:NK)(hk:Scr K k)(ns:List Int)(f f0 f1 f2 f3:Int):∃ m:Nat,m≤5∧sAsg (mnE K) (asgD 5) (drS k ns f (.own true (nD [f0,f1,f2,f3])) .non .non .non .non .non .non .non) =
  .nx (drS k ns f (.own true (nD [f0,f1,f2,f3])) (.own true (aI m)) .non .non .non .non .non .non):=by
 have hki:=Z593 hk ns
 have x0:=ix40;have x1:=ix30;have x2:=ix31;have x3:=ix32
 have q:∃ m:Int,0≤m∧m≤5∧sAsg (mnE K) (asgD 5) (drS k ns f (.own true (.nd (.lst true) [aI f0,aI f1,aI f2,aI f3])) .non .non .non .non .non .non .non) =
   .nx (drS k ns f (.own true (.nd (.lst true) [aI f0,aI f1,aI f2,aI f3])) (.own true (aI m)) .non .non .non .non .non .non):=by
  have h3:f0 % 3=0∨f0 % 3=1∨f0 % 3=2:=by omega
  rcases h3 with h3 | h3 | h3
  ·refine ⟨f0 / 3 % (5 + 1),by omega,by omega,?_⟩
   walk_at "evs"
  ·refine ⟨5,by omega,by omega,?_⟩
   walk_at "evs"
  ·refine ⟨5 - f0 / 3 % 3,by omega,by omega,?_⟩
   walk_at "evs"
 obtain ⟨m,h0,h8,e⟩:=q
 obtain ⟨n,rfl⟩:=Int.eq_ofNat_of_zero_le h0
 exact ⟨n,by omega,e⟩
theorem ix60:ixN 6 0=some 0:=rfl
theorem ix61:ixN 6 1=some 1:=rfl
theorem ix62:ixN 6 2=some 2:=rfl
theorem ix63:ixN 6 3=some 3:=rfl
theorem ix64:ixN 6 4=some 4:=rfl
theorem ix65:ixN 6 5=some 5:=rfl
noncomputable abbrev wdE(K:Qd):EF:=(eCh (hIx K) (aCons (eDisp (.lst true) (aCons (eNw hMax (aCons (eC (.int (1))) (aCons (eNw hSub (aCons (eNw hAddI (aCons (eVar 5) (aCons (eNw hMod (aCons (eNw hDiv (aCons (eCh (hIx K) (aCons (eVar 4) (aCons (eC (.int (1))) aNil))) (aCons (eC (.int (3))) aNil))) (aCons (eC (.int (5))) aNil))) aNil))) (aCons (eC (.int (3))) aNil))) aNil))) (aCons (eNw hAddI (aCons (eC (.int (1))) (aCons (eNw hDiv (aCons (eVar 5) (aCons (eC (.int (2))) aNil))) aNil))) (aCons (eC (.int (30))) aNil)))) (aCons (eCh (hIx K) (aCons (eDisp (.lst true) (aCons (eC (.int (0))) (aCons (eC (.int (0))) (aCons (eC (.int (0))) (aCons (eC (.int (1))) (aCons (eC (.int (1))) (aCons (eC (.int (2))) aNil))))))) (aCons (eNw hMod (aCons (eCh (hIx K) (aCons (eVar 4) (aCons (eC (.int (1))) aNil))) (aCons (eC (.int (6))) aNil))) aNil))) aNil)))
noncomputable abbrev spE(K:Qd):EF:=(eCh (hIx K) (aCons (eDisp (.lst true) (aCons (eC (.int (1))) (aCons (eC (.int (1))) (aCons (eC (.int (7))) (aCons (eC (.int (1000003))) aNil))))) (aCons (eNw hMod (aCons (eCh (hIx K) (aCons (eVar 4) (aCons (eC (.int (2))) aNil))) (aCons (eC (.int (4))) aNil))) aNil)))
theorem v_dr3(k:NK)(hk:Scr K k)(ns:List Int)(f f0 f1 f2 f3 m:Int)(hm:0≤m):∃ w:Int,0 < w∧sAsg (wdE K) (asgD 6) (drS k ns f (.own true (.nd (.lst true) [aI f0,aI f1,aI f2,aI f3])) (.own true (aI m)) .non .non .non .non .non .non) =
  .nx (drS k ns f (.own true (.nd (.lst true) [aI f0,aI f1,aI f2,aI f3])) (.own true (aI m)) (.own true (aI w)) .non .non .non .non .non):=by
 have hki:=Z593 hk ns
 have x0:=ix41;have x1:=ix30;have x2:=ix31;have x3:=ix32
 have y0:=ix60;have y1:=ix61;have y2:=ix62;have y3:=ix63;have y4:=ix64;have y5:=ix65
 have h3:f1 % 6=0∨f1 % 6=1∨f1 % 6=2∨f1 % 6=3∨f1 % 6=4∨f1 % 6=5:=by omega
 have p1:0 < (if m + f1 / 3 % 5 - 3 > 1 then m + f1 / 3 % 5 - 3 else 1):=by split <;> omega
 have p2:0 < 1 + m / 2:=by omega
 rcases h3 with h3 | h3 | h3 | h3 | h3 | h3
 ·refine ⟨if m + f1 / 3 % 5 - 3 > 1 then m + f1 / 3 % 5 - 3 else 1,p1,?_⟩;clear p1 p2 hm;walk_at "evs"
 ·refine ⟨if m + f1 / 3 % 5 - 3 > 1 then m + f1 / 3 % 5 - 3 else 1,p1,?_⟩;clear p1 p2 hm;walk_at "evs"
 ·refine ⟨if m + f1 / 3 % 5 - 3 > 1 then m + f1 / 3 % 5 - 3 else 1,p1,?_⟩;clear p1 p2 hm;walk_at "evs"
 ·refine ⟨1 + m / 2,by omega,?_⟩;clear p1 p2 hm;walk_at "evs"
 ·refine ⟨1 + m / 2,by omega,?_⟩;clear p1 p2 hm;walk_at "evs"
 ·refine ⟨30,by omega,?_⟩;clear p1 p2 hm;walk_at "evs"
theorem v_dr4(k:NK)(hk:Scr K k)(ns:List Int)(f f0 f1 f2 f3 m w:Int):∃ sp:Int,0 < sp∧sp≤1000003∧sAsg (spE K) (asgD 7) (drS k ns f (.own true (.nd (.lst true) [aI f0,aI f1,aI f2,aI f3])) (.own true (aI m)) (.own true (aI w)) .non .non .non .non .non) =
  .nx (drS k ns f (.own true (.nd (.lst true) [aI f0,aI f1,aI f2,aI f3])) (.own true (aI m)) (.own true (aI w)) (.own true (aI sp)) .non .non .non .non):=by
 have hki:=Z593 hk ns
 have x0:=ix40;have x1:=ix41;have x2:=ix42;have x3:=ix43
 have h3:f2 % 4=0∨f2 % 4=1∨f2 % 4=2∨f2 % 4=3:=by omega
 rcases h3 with h3 | h3 | h3 | h3
 ·refine ⟨1,by omega,by omega,?_⟩;walk_at "evs"
 ·refine ⟨1,by omega,by omega,?_⟩;walk_at "evs"
 ·refine ⟨7,by omega,by omega,?_⟩;walk_at "evs"
 ·refine ⟨1000003,by omega,by omega,?_⟩;walk_at "evs"
theorem v_tn1(k:NK)(hk:Scr K k)(ns:List Int)(f m w sp:Int)(g gs:List Int)(made:List (List Int))(j:Int)
  (e:Z179 K A [scD k ns,aI (f + 1 + j),aI 840,aI 5]=.ok (.val (.nd (.lst true) (gs.map aI))) [scD k ns,aI (f + 1 + j),aI 840,aI 5]) :
  sAsg (eCall [false,false,false,false] (Z179 K A) (aCons (eVar 0) (aCons (eNw hAddI (aCons (eNw hAddI (aCons (eVar 1) (aCons (eC (.int (1))) aNil))) (aCons (eVar 9) aNil))) (aCons (eC (.int (840))) (aCons (eNw hAddI (aCons (eVar 3) (aCons (eC (.int (1))) aNil))) aNil))))) (asgD 4)
   (drS k ns f (.own true (nD g)) (.own true (aI m)) (.own true (aI w)) (.own true (aI sp)) (.own true (rwD made)) (.own true (aI j)) .non .non) =
   .nx (drS k ns f (.own true (nD gs)) (.own true (aI m)) (.own true (aI w)) (.own true (aI sp)) (.own true (rwD made)) (.own true (aI j)) .non .non):=by
 have hki:=Z593 hk ns
 generalize Z179 K A=F at *
 walk_at "evs"
theorem v_tn2(k:NK)(hk:Scr K k)(ns:List Int)(f m w sp:Int)(gs:List Int)(made:List (List Int))(j x r:Int)(hx:gs[4]?=some x)(b:Bool)(hb:decide (j < m / 2)=b)
  (e:Z180 K A [aI x,aI 4,.at (.bl b)]=.ok (.val (aI r)) [aI x,aI 4,.at (.bl b)]) :
  sAsg (eCall [false,false,false] (Z180 K A) (aCons (eCh (hIx K) (aCons (eVar 4) (aCons (eVar 3) aNil))) (aCons (eVar 3) (aCons (eNw hLt (aCons (eVar 9) (aCons (eNw hDiv (aCons (eVar 5) (aCons (eC (.int (2))) aNil))) aNil))) aNil)))) (asgD 10)
   (drS k ns f (.own true (nD gs)) (.own true (aI m)) (.own true (aI w)) (.own true (aI sp)) (.own true (rwD made)) (.own true (aI j)) .non .non) =
   .nx (drS k ns f (.own true (nD gs)) (.own true (aI m)) (.own true (aI w)) (.own true (aI sp)) (.own true (rwD made)) (.own true (aI j)) (.own true (aI r)) .non):=by
 have hki:=Z593 hk ns
 have hl:=(Qc.mp hx).1
 have e1:(gs.map aI)[4]?=some (aI x):=by rw [Qa,hx];rfl
 have e2:ixN gs.length 4=some 4:=by unfold ixN;rw [if_pos (by omega),if_pos (by omega)];rfl
 generalize Z180 K A=F at *
 clear hl hx
 walk_at "evs"
theorem v_tn3(k:NK)(hk:Scr K k)(ns:List Int)(f m w sp:Int)(gs row:List Int)(made:List (List Int))(j r:Int)
  (e:Z181 K A [nD gs,aI r,aI w,aI sp]=.ok (.val (nD row)) [nD gs,aI r,aI w,aI sp]) :
  sAsg (eCall [false,false,false,false] (Z181 K A) (aCons (eVar 4) (aCons (eVar 10) (aCons (eVar 6) (aCons (eVar 7) aNil))))) (asgD 11)
   (drS k ns f (.own true (nD gs)) (.own true (aI m)) (.own true (aI w)) (.own true (aI sp)) (.own true (rwD made)) (.own true (aI j)) (.own true (aI r)) .non) =
   .nx (drS k ns f (.own true (nD gs)) (.own true (aI m)) (.own true (aI w)) (.own true (aI sp)) (.own true (rwD made)) (.own true (aI j)) (.own true (aI r)) (.own true (nD row))):=by
 have hki:=Z593 hk ns
 generalize Z181 K A=F at *
 walk_at "evs"
theorem v_tn5(k:NK)(hk:Scr K k)(ns:List Int)(f m w sp:Int)(gs row:List Int)(made:List (List Int))(j r:Int)(hz:made.length < 16777216) :
  Z616 K A (drS k ns f (.own true (nD gs)) (.own true (aI m)) (.own true (aI w)) (.own true (aI sp)) (.own true (rwD made)) (.own true (aI j)) (.own true (aI r)) (.own true (nD row))) =
   .nx (drS k ns f (.own true (nD gs)) (.own true (aI m)) (.own true (aI w)) (.own true (aI sp)) (.own true (rwD (made++[row]))) (.own true (aI j)) (.own true (aI r)) (.bor 8 [made.length])):=by
 have e:rwD (made++[row])=.nd (.lst true) (made.map nD++[nD row]):=by
  show D.nd (.lst true) ((made++[row]).map nD)=_
  rw [Qv];rfl
 unfold Z616
 walk_at "evs"
noncomputable abbrev lkS(K:Qd):SF:=(sIf (bAnd (bV (eNw hGt (aCons (eVar 9) (aCons (eC (.int (0))) aNil)))) (bV (eNw (hEq false) (aCons (eNw hMod (aCons (eNw hDiv (aCons (eCh (hIx K) (aCons (eVar 4) (aCons (eVar 3) aNil))) (aCons (eC (.int (28))) aNil))) (aCons (eC (.int (6))) aNil))) (aCons (eC (.int (1))) aNil))))) (sAsg (eNw hList (aCons (eCh (hIx K) (aCons (eVar 8) (aCons (eNw hSub (aCons (eVar 9) (aCons (eC (.int (1))) aNil))) aNil))) aNil)) (asgD 11)) sPass)
theorem v_tn4(k:NK)(hk:Scr K k)(ns:List Int)(f m w sp:Int)(gs row:List Int)(made:List (List Int))(r x:Int)(hx:gs[4]?=some x)(hr:row.length≤4)(hm:∀ q∈made,q.length≤4) :
  ∃ row':List Int,row'.length≤4∧lkS K (drS k ns f (.own true (nD gs)) (.own true (aI m)) (.own true (aI w)) (.own true (aI sp)) (.own true (rwD made)) (.own true (aI made.length)) (.own true (aI r)) (.own true (nD row))) =
   .nx (drS k ns f (.own true (nD gs)) (.own true (aI m)) (.own true (aI w)) (.own true (aI sp)) (.own true (rwD made)) (.own true (aI made.length)) (.own true (aI r)) (.own true (nD row'))):=by
 have hki:=Z593 hk ns
 have hl:=(Qc.mp hx).1
 have e1:(gs.map aI)[4]?=some (aI x):=by rw [Qa,hx];rfl
 have e2:ixN gs.length 4=some 4:=by unfold ixN;rw [if_pos (by omega),if_pos (by omega)];rfl
 by_cases h1:(made.length:Int) > 0
 ·by_cases h2:x / 28 % 6=1
  ·have hj:made.length - 1 < made.length:=by omega
   have e3:(made.map nD)[made.length - 1]?=some (nD made[made.length - 1]):=by rw [Qa,Qh hj];rfl
   have e4:ixN made.length ((made.length:Int) - 1)=some (made.length - 1):=by unfold ixN;rw [if_pos (by omega),if_pos (by omega)];congr 1;omega
   refine ⟨made[made.length - 1],hm _ (List.getElem_mem hj),?_⟩
   have im:=imI made[made.length - 1]
   generalize made[made.length - 1]=rw' at *
   clear hl hx hj hr hm
   walk_at "evs"
  ·refine ⟨row,hr,?_⟩
   clear hl hx hr hm
   walk_at "evs"
 ·refine ⟨row,hr,?_⟩
  clear hl hx hr hm
  walk_at "evs"
noncomputable abbrev dqS(k:NK)(ns:List Int)(f:Int)(g:List Int)(m w sp:Int)(made:List (List Int))(y9 y10 y11:DL):Sd:=drS k ns f (.own true (nD g)) (.own true (aI m)) (.own true (aI w)) (.own true (aI sp)) (.own true (rwD made)) y9 y10 y11
theorem v_tnK(k:NK)(ns:List Int)(f m w sp:Int)(gs:List Int)(made:List (List Int))(j r:Int)(n:Nat)(B:SF)(s:Sd)(e:B s=.nx (dqS k ns f gs m w sp made (.own true (aI j)) (.own true (aI r)) (.bor 8 [n]))) :
  sKill [9,10,11] B s=.nx (dqS k ns f gs m w sp made .non .non .non):=by
 rw [Z153,e]
 rfl
theorem v_tn(k:NK)(hk:Scr K k)(ns:List Int)(f m w sp:Int)(g:List Int)(made:List (List Int))(h0:0≤f)(hw:0 < w)(hb1:-18446744073709551616 < sp)(hb2:sp < 18446744073709551616)(hl:made.length < 7)(hm:∀ q∈made,q.length≤4) :
  ∃ gs row,row.length≤4∧Z322 K A (dqS k ns f g m w sp made (.own true (aI made.length)) .non .non)=.nx (dqS k ns f gs m w sp (made++[row]) .non .non .non):=by
 obtain ⟨gs,g1,g2,ge⟩:=Z658 (A:=A) k hk ns (f + 1 + made.length) 840 5 (by omega) (by omega) (by omega) (by omega)
 have hx:gs[4]?=some (gs[4]'(by omega)):=Qh (by omega)
 obtain ⟨r,r0,r6,re⟩:=Z661 (K:=K) (A:=A) (gs[4]'(by omega)) (decide ((made.length:Int) < m / 2))
 obtain ⟨rn,rfl⟩:=Int.eq_ofNat_of_zero_le r0
 obtain ⟨row,hr,he⟩:=Z663 (K:=K) (A:=A) gs rn w sp (by omega) (by omega) hw hb1 hb2
 obtain ⟨row',hr',he'⟩:=v_tn4 (K:=K) k hk ns f m w sp gs row made rn _ hx (by omega) hm
 have t1:=v_tn1 (A:=A) k hk ns f m w sp g gs made made.length ge
 have t2:=v_tn2 (A:=A) k hk ns f m w sp gs made made.length _ rn hx _ rfl re
 have t3:=v_tn3 (A:=A) k hk ns f m w sp gs row made made.length rn he
 have t5:=v_tn5 (K:=K) (A:=A) k hk ns f m w sp gs row' made made.length rn (by omega)
 refine ⟨gs,row',hr',?_⟩
 unfold Z322
 refine v_tnK k ns f m w sp gs (made++[row']) made.length rn made.length _ _ ?_
 rw [Z164,t1]
 dsimp only
 unfold Z613
 rw [Z164,t2]
 dsimp only
 unfold Z614
 rw [Z164,t3]
 dsimp only
 unfold Z615
 unfold lkS at he'
 rw [Z164,he']
 dsimp only
 exact t5
theorem Z662(k:NK)(hk:Scr K k)(ns:List Int)(f w sp:Int)(g:List Int)(m:Nat)(h8:m≤5)(h0:0≤f)(hw:0 < w)(hb1:-18446744073709551616 < sp)(hb2:sp < 18446744073709551616) :
  ∃ gs made,made.length=m∧(∀ q∈made,q.length≤4)∧loopG (itR 0 m) (asgD 9) (Z322 K A) (m + 1) 0 (dqS k ns f g m w sp [] .non .non .non)=.nx (dqS k ns f gs m w sp made .non .non .non):=by
 obtain ⟨s',lp,gs,made,h1,h2,rfl⟩:=Z345 (lo:=0) (n:=m) (b:=asgD 9) (body:=Z322 K A) (s:=dqS k ns f g m w sp [] .non .non .non)
  (fun j s=>∃ gs made,made.length=j∧(∀ q∈made,q.length≤4)∧s=dqS k ns f gs m w sp made .non .non .non) ⟨g,[],rfl,by simp,rfl⟩ (by
  rintro j s hj ⟨gs,made,h1,h2,rfl⟩
  have ej:(0 + (j:Int))=(made.length:Int):=by omega
  obtain ⟨gs',row,hr,e⟩:=v_tn (A:=A) k hk ns f m w sp gs made h0 hw hb1 hb2 (by omega) h2
  rw [ej]
  refine ⟨dqS k ns f gs m w sp made (.own true (aI made.length)) .non .non,_,rfl,.inl e,gs',made++[row],by simp [h1],fun q hq=>?_,rfl⟩
  rcases Qe.mp hq with z | z
  ·exact h2 q z
  ·rw [Qy.mp z];exact hr)
 exact ⟨gs,made,h1,h2,lp⟩
noncomputable abbrev chT(K:Qd)(A:Adr):SF:=(sIf (bAnd (bV (eNw (hEq false) (aCons (eNw hMod (aCons (eCh (hIx K) (aCons (eVar 4) (aCons (eC (.int (3))) aNil))) (aCons (eC (.int (6))) aNil))) (aCons (eC (.int (1))) aNil)))) (bV (eNw hGt (aCons (eVar 5) (aCons (eC (.int (0))) aNil))))) (sRet (eCall [false,false,false] (Z176 K A) (aCons (eVar 5) (aCons (eVar 7) (aCons (eNw hDiv (aCons (eCh (hIx K) (aCons (eVar 4) (aCons (eC (.int (3))) aNil))) (aCons (eC (.int (6))) aNil))) aNil))))) sPass)
noncomputable abbrev fg0(K:Qd)(A:Adr):SF:=(sAsg (eCall [false,false,false,false] (Z179 K A) (aCons (eVar 0) (aCons (eVar 1) (aCons (eC (.int (840))) (aCons (eC (.int (4))) aNil))))) (asgD 4))
theorem v_dq1(k:NK)(hk:Scr K k)(ns:List Int)(f:Int)(gs:List Int)(e:Z179 K A [scD k ns,aI f,aI 840,aI 4]=.ok (.val (.nd (.lst true) (gs.map aI))) [scD k ns,aI f,aI 840,aI 4]) :
  fg0 K A (drS k ns f .non .non .non .non .non .non .non .non)=.nx (drS k ns f (.own true (nD gs)) .non .non .non .non .non .non .non):=by
 have hki:=Z593 hk ns
 unfold fg0
 generalize Z179 K A=F at *
 walk_at "evs"
theorem Z652(k:NK)(hk:Scr K k)(ns:List Int)(f f0 f1 f2 f3 w sp:Int)(m:Nat)(rows:List (List Int))(h:f3 % 6=1)(hm:(m:Int) > 0)(e:Z176 K A [aI m,aI sp,aI (f3 / 6)]=.ok (.val (rwD rows)) [aI m,aI sp,aI (f3 / 6)]) :
  chT K A (drS k ns f (.own true (.nd (.lst true) [aI f0,aI f1,aI f2,aI f3])) (.own true (aI m)) (.own true (aI w)) (.own true (aI sp)) .non .non .non .non) =
   .rt (.val (rwD rows)) (drS k ns f (.own true (.nd (.lst true) [aI f0,aI f1,aI f2,aI f3])) (.own true (aI m)) (.own true (aI w)) (.own true (aI sp)) .non .non .non .non):=by
 have hki:=Z593 hk ns
 have x3:=ix43
 unfold chT
 generalize Z176 K A=F at *
 walk_at "evs"
theorem Z653(k:NK)(hk:Scr K k)(ns:List Int)(f f0 f1 f2 f3 w sp:Int)(m:Nat)(h:¬ (f3 % 6=1∧(m:Int) > 0)) :
  chT K A (drS k ns f (.own true (.nd (.lst true) [aI f0,aI f1,aI f2,aI f3])) (.own true (aI m)) (.own true (aI w)) (.own true (aI sp)) .non .non .non .non) =
   .nx (drS k ns f (.own true (.nd (.lst true) [aI f0,aI f1,aI f2,aI f3])) (.own true (aI m)) (.own true (aI w)) (.own true (aI sp)) .non .non .non .non):=by
 have hki:=Z593 hk ns
 have x3:=ix43
 unfold chT
 generalize Z176 K A=F at *
 by_cases h1:f3 % 6=1
 ·have h2:¬ (m:Int) > 0:=fun z=>h ⟨h1,z⟩
  clear h
  walk_at "evs"
 ·clear h
  walk_at "evs"
theorem v_dq7(k:NK)(hk:Scr K k)(ns:List Int)(f f0 f1 f2 f3 w sp:Int)(m:Nat)(h8:m≤5)(gs:List Int)(made:List (List Int))
  (lp:loopG (itR 0 m) (asgD 9) (Z322 K A) (m + 1) 0 (dqS k ns f [f0,f1,f2,f3] m w sp [] .non .non .non)=.nx (dqS k ns f gs m w sp made .non .non .non)) :
  Z621 K A (drS k ns f (.own true (.nd (.lst true) [aI f0,aI f1,aI f2,aI f3])) (.own true (aI m)) (.own true (aI w)) (.own true (aI sp)) .non .non .non .non)=.rt (.plc 8 []) (dqS k ns f gs m w sp made .non .non .non):=by
 have hki:=Z593 hk ns
 have b1:(m:Int) < 4611686018427387904:=by omega
 have b2:-4611686018427387904≤(m:Int):=by omega
 have lp':loopG (itR 0 m) (asgD 9) (Z322 K A) (m + 1) 0 [.own true (scD k ns),.own true (aI f),.own true (aI 5),.own true (aI 4),.own true (.nd (.lst true) [aI f0,aI f1,aI f2,aI f3]),.own true (aI m),.own true (aI w),.own true (aI sp),.own true (.nd (.lst true) []),.non,.non,.non,.non,.non,.non,.non] =
   .nx [.own true (scD k ns),.own true (aI f),.own true (aI 5),.own true (aI 4),.own true (nD gs),.own true (aI m),.own true (aI w),.own true (aI sp),.own true (rwD made),.non,.non,.non,.non,.non,.non,.non]:=lp
 clear lp h8
 unfold Z621
 walk_at "evs"
theorem v_drA(k:NK)(hk:Scr K k)(ns:List Int)(f:Int)(rows:List (List Int))(y4 y5 y6 y7:DL)(B:SF)(e:B (drS k ns f .non .non .non .non .non .non .non .non)=.rt (.val (rwD rows)) (drS k ns f y4 y5 y6 y7 .non .non .non .non)) :
  runDef 12 [false,false,false,false] B [scD k ns,aI f,aI 5,aI 4]=.ok (.val (rwD rows)) [scD k ns,aI f,aI 5,aI 4]:=by
 have hki:=Z593 hk ns
 walk_at "evs"
theorem v_drB(k:NK)(hk:Scr K k)(ns:List Int)(f:Int)(rows:List (List Int))(y4 y5 y6 y7:DL)(B:SF)(e:B (drS k ns f .non .non .non .non .non .non .non .non)=.rt (.plc 8 []) (drS k ns f y4 y5 y6 y7 (.own true (rwD rows)) .non .non .non)) :
  runDef 12 [false,false,false,false] B [scD k ns,aI f,aI 5,aI 4]=.ok (.val (rwD rows)) [scD k ns,aI f,aI 5,aI 4]:=by
 have hki:=Z593 hk ns
 walk_at "evs"
theorem Z654(k:NK)(hk:Scr K k)(ns:List Int)(f:Int)(h0:0≤f):∃ rows:List (List Int),rows.length≤5∧(∀ r∈rows,r.length≤4) ∧
  Z177 K A [scD k ns,aI f,aI 5,aI 4]=.ok (.val (rwD rows)) [scD k ns,aI f,aI 5,aI 4]:=by
 obtain ⟨gs,g1,g2,ge⟩:=Z658 (A:=A) k hk ns f 840 4 h0 (by omega) (by omega) (by omega)
 obtain ⟨f0,f1,f2,f3,rfl⟩:=len4 g1
 have t1:=v_dq1 (A:=A) k hk ns f _ ge
 obtain ⟨m,m8,t2⟩:=v_dr2 (K:=K) k hk ns f f0 f1 f2 f3
 obtain ⟨w,hw,t3⟩:=v_dr3 (K:=K) k hk ns f f0 f1 f2 f3 m (by omega)
 obtain ⟨sp,s0,s1,t4⟩:=v_dr4 (K:=K) k hk ns f f0 f1 f2 f3 m w
 unfold fg0 at t1
 unfold mnE at t2
 unfold wdE at t3
 unfold spE at t4
 by_cases h:f3 % 6=1∧(m:Int) > 0
 ·obtain ⟨rows,r1,r2,re⟩:=Z651 (K:=K) (A:=A) m sp (f3 / 6) (by omega) m8 (by omega) (by omega)
  have t5:=Z652 (A:=A) k hk ns f f0 f1 f2 f3 w sp m rows h.1 h.2 re
  unfold chT at t5
  refine ⟨rows,by omega,fun r hr=>by have:=r2 r hr;omega,?_⟩
  unfold Z177
  refine v_drA k hk ns f rows _ _ _ _ _ (?_:_=SR.rt (.val (rwD rows)) (drS k ns f (.own true (.nd (.lst true) [aI f0,aI f1,aI f2,aI f3])) (.own true (aI m)) (.own true (aI w)) (.own true (aI sp)) .non .non .non .non))
  unfold Z29
  rw [Z164,t1]
  dsimp only
  unfold Z617
  rw [Z164,t2]
  dsimp only
  unfold Z618
  refine (Z164.trans ?_)
  rw [show drS k ns f (.own true (nD [f0,f1,f2,f3])) (.own true (aI m)) .non .non .non .non .non .non=drS k ns f (.own true (.nd (.lst true) [aI f0,aI f1,aI f2,aI f3])) (.own true (aI m)) .non .non .non .non .non .non from rfl,t3]
  dsimp only
  unfold Z619
  rw [Z164,t4]
  dsimp only
  unfold Z620
  rw [Z164,t5]
 ·obtain ⟨gs,made,l1,l2,lp⟩:=Z662 (A:=A) k hk ns f w sp [f0,f1,f2,f3] m m8 h0 hw (by omega) (by omega)
  have t5:=Z653 (A:=A) k hk ns f f0 f1 f2 f3 w sp m h
  unfold chT at t5
  have t7:=v_dq7 (A:=A) k hk ns f f0 f1 f2 f3 w sp m m8 gs made lp
  refine ⟨made,by omega,l2,?_⟩
  unfold Z177
  refine v_drB k hk ns f made _ _ _ _ _ (?_:_=SR.rt (.plc 8 []) (drS k ns f (.own true (nD gs)) (.own true (aI m)) (.own true (aI w)) (.own true (aI sp)) (.own true (rwD made)) .non .non .non))
  unfold Z29
  rw [Z164,t1]
  dsimp only
  unfold Z617
  rw [Z164,t2]
  dsimp only
  unfold Z618
  refine (Z164.trans ?_)
  rw [show drS k ns f (.own true (nD [f0,f1,f2,f3])) (.own true (aI m)) .non .non .non .non .non .non=drS k ns f (.own true (.nd (.lst true) [aI f0,aI f1,aI f2,aI f3])) (.own true (aI m)) .non .non .non .non .non .non from rfl,t3]
  dsimp only
  unfold Z619
  rw [Z164,t4]
  dsimp only
  unfold Z620
  rw [Z164,t5]
  dsimp only
  exact t7
noncomputable def sv(h:Hd):List (Int×V):=h.map fun e=>(e.1,V.int e.2)
theorem hD_sv(h:Hd):sD (sv h)=hD h:=by
 show D.nd (.dic true ((sv h).map fun e=>kG e.1)) ((sv h).map fun e=>D.at e.2)=_
 unfold sv
 rw [Jk,Jk];rfl
theorem sK_sv(h:Hd):sK (sv h)=hK h:=by unfold sK sv hK;rw [Jk];rfl
noncomputable abbrev hoS(rows:List (List Int))(p:Nat)(x:Int)(st:Hd)(y5 y6 y7 y8 t12:DL):Sd:=[.bor 9 [],.own true (aI p),.own true (aI x),.bor 12 [],.bor 13 [],y5,y6,y7,y8,.own false (rwD rows),.non,.non,t12,.own false (hD st)]
noncomputable abbrev hoC(p:Nat)(x:Int)(e:Int×Nat):Bool:=decide (e.1≠x) && decide (e.2≠p)
theorem v_ho1(rows:List (List Int))(p:Nat)(x:Int)(st s:Hd)(o:Int)(q:Nat)(hn:o≠x→idk (kG o) (kH s)=none)(hz:s.length < 16777216) :
  Z327 K A (hoS rows p x st (.own true (hD s)) (.own true (aI o)) (.own true (aI q)) .non (.own true hole)++[.bor 12 []]) =
   .nx (hoS rows p x st (.own true (hD (if hoC p x (o,q) then s++[(o,q)] else s))) .non .non .non (.own true hole)++[.bor 12 []]):=by
 by_cases h1:o=x
 ·have:hoC p x (o,q)=false:=by simp [h1]
  rw [this,if_neg Qt]
  unfold Z327
  walk_at "evs"
 ·by_cases h2:(q:Int)=(p:Int)
  ·have:hoC p x (o,q)=false:=by simp;omega
   rw [this,if_neg Qt]
   unfold Z327
   walk_at "evs"
  ·have h3:¬ q=p:=by omega
   have:hoC p x (o,q)=true:=by simp [h1,h3]
   rw [this,if_pos rfl]
   have hi:=hn h1
   clear hn
   unfold Z327
   walk_at "evs"
   show _=SR.nx (hoS rows p x st (.own true (hD (s++[(o,q)]))) .non .non .non (.own true hole)++[.bor 12 []])
   rw [Z210]
   rfl
noncomputable def hoStart(p:Nat)(x:Int)(h:Hd):Hd:=(x,p)::h.filter (hoC p x)
theorem v_ho2(rows:List (List Int))(p:Nat)(x:Int)(st h:Hd)(hn:(hK h).Nodup)(hz:h.length < 10000) :
  loopG (itC (kH h) (h.map fun e=>aI e.2)) (tgT (tgC (asgD 6) (tgC (asgD 7) tgN))) (Z327 K A) (h.length + 1) 0 (hoS rows p x st (.own true (hD [(x,p)])) .non .non .non (.own true hole)++[.bor 12 []]) =
   .nx (hoS rows p x st (.own true (hD (hoStart p x h))) .non .non .non (.own true hole)++[.bor 12 []]):=by
 obtain ⟨s',lp,rfl⟩:=Z342 (ks:=kH h) (l:=h.map fun e=>aI e.2) (b:=tgT (tgC (asgD 6) (tgC (asgD 7) tgN))) (body:=Z327 K A) (s:=hoS rows p x st (.own true (hD [(x,p)])) .non .non .non (.own true hole)++[.bor 12 []]) (by simp)
  (fun i s=>s=hoS rows p x st (.own true (hD (hoStart p x (h.take i)))) .non .non .non (.own true hole)++[.bor 12 []]) rfl (by
  rintro i s k d hk hd rfl
  rw [Qa] at hk hd
  cases ei:h[i]? with
  | none=>rw [ei] at hk;cases hk
  | some e =>
   obtain ⟨o,q⟩:=e
   rw [ei] at hk hd
   cases hk
   cases hd
   have hl:(hoStart p x (h.take i)).length < 16777216:=by
    have:=Js (hoC p x) (h.take i)
    rw [Wi] at this
    unfold hoStart
    rw [Jq];omega
   have tk:h.take (i + 1)=h.take i++[(o,q)]:=by rw [Jv,ei];rfl
   have e1:=v_ho1 (K:=K) (A:=A) rows p x st (hoStart p x (h.take i)) o q (fun hox=>by
    refine Z233 fun z=>?_
    unfold hoStart at z
    rw [Ql] at z
    rcases Jb.mp z with z | z
    ·exact hox z
    ·obtain ⟨e,he,z⟩:=Qk.mp z
     have he:=(Ja.mp he).1
     have nd:(hK (h.take (i + 1))).Nodup:=hn.sublist ((List.take_sublist _ _).map _)
     rw [tk] at nd
     unfold hK at nd
     rw [Qv,Qj] at nd
     exact nd.2.2 _ (Qk.mpr ⟨e,he,z⟩) o (by simp) rfl) hl
   refine ⟨_,_,rfl,.inl e1,?_⟩
   have e2:hoStart p x (h.take (i + 1))=if hoC p x (o,q) then hoStart p x (h.take i)++[(o,q)] else hoStart p x (h.take i):=by
    rw [tk]
    unfold hoStart
    rw [Jx,Wl]
    cases hoC p x (o,q) <;> simp
   rw [e2])
 rw [Qn] at lp
 rw [lp]
 rw [Jy]
theorem atH(h:Hd):(h.map fun e=>aI e.2).all isAt=true:=by
 rw [List.all_map,List.all_eq_true];intro e _;rfl
theorem v_ho3(rows:List (List Int))(p:Nat)(x:Int)(st h s:Hd)(B:SF)
  (lp:loopG (itC (kH h) (h.map fun e=>aI e.2)) (tgT (tgC (asgD 6) (tgC (asgD 7) tgN))) B (h.length + 1) 0 (hoS rows p x st (.own true (hD [(x,p)])) .non .non .non (.own true hole)++[.bor 12 []]) =
   .nx (hoS rows p x st (.own true (hD s)) .non .non .non (.own true hole)++[.bor 12 []])) :
  sForD (eVar 3) (tgT (tgC (asgD 6) (tgC (asgD 7) tgN))) B (hoS rows p x st (.own true (hD [(x,p)])) .non .non .non (.own true (hD h)))=.nx (hoS rows p x st (.own true (hD s)) .non .non .non (.own true (hD h))):=by
 have ha:=atH h
 simp only [hoS,hole,Jh,Je] at lp
 walk_at "evs"
theorem v_ho0(rows:List (List Int))(p:Nat)(x:Int)(st h:Hd):sAsg (eDict [((eVar 2),(eVar 1))]) (asgD 5) (hoS rows p x st .non .non .non .non (.own true (hD h)))=.nx (hoS rows p x st (.own true (hD [(x,p)])) .non .non .non (.own true (hD h))):=by
 have nd:([kG x]:List Key).Nodup:=by simp
 walk_at "evs"
 rfl
theorem v_ho4(rows:List (List Int))(p:Nat)(x:Int)(st h s:Hd):sAsg (eNw hDict (aCons (eVar 4) aNil)) (asgD 8) (hoS rows p x st (.own true (hD s)) .non .non .non (.own true (hD h)))=.nx (hoS rows p x st (.own true (hD s)) .non .non (.own true (hD st)) (.own true (hD h))):=by
 have im:=imH st
 walk_at "evs"
theorem v_ho5(rows:List (List Int))(p:Nat)(x:Int)(st h s:Hd)(hi:idk (kG x) (kH st)=none)(hz:st.length < 16777216):sE (eMu 1 hPutD (aCons (eVar 1) (aCons (eVar 8) (aCons (eVar 2) aNil)))) (hoS rows p x st (.own true (hD s)) .non .non (.own true (hD st)) (.own true (hD h))) =
  .nx (hoS rows p x st (.own true (hD s)) .non .non (.own true (hD (st++[(x,p)]))) (.own true (hD h))):=by
 rw [Z210]
 walk_at "evs"
theorem v_ho6(rows:List (List Int))(p:Nat)(x:Int)(st h s kp r:Hd)(F:Fn)(e:F [rwD rows,hD s,hD kp]=.ok (.val (hD r)) [rwD rows,hD s,hD kp]) :
  sRet (eCall [false,false,false] F (aCons (eVar 0) (aCons (eVar 5) (aCons (eVar 8) aNil)))) (hoS rows p x st (.own true (hD s)) .non .non (.own true (hD kp)) (.own true (hD h))) =
   .rt (.val (hD r)) (hoS rows p x st (.own true (hD s)) .non .non (.own true (hD kp)) (.own true (hD h))):=by
 walk_at "evs"
theorem v_ho7(rows:List (List Int))(p:Nat)(x:Int)(st h s kp r:Hd)(B:SF)(e:B (hoS rows p x st .non .non .non .non (.own true (hD h)))=.rt (.val (hD r)) (hoS rows p x st (.own true (hD s)) .non .non (.own true (hD kp)) (.own true (hD h)))) :
  runDef 9 [false,false,false,true,false] B [rwD rows,aI p,aI x,hD h,hD st]=.ok (.val (hD r)) [rwD rows,aI p,aI x,hD h,hD st]:=by
 simp only [hoS] at e
 walk_at "evs"
theorem Z660(rows:List (List Int))(p:Nat)(x:Int)(st h r:Hd)(hn:(hK h).Nodup)(hz:h.length < 10000)(hs:st.length < 10000)(hx:x∉hK st)
  (e:Z185 K A [rwD rows,hD (hoStart p x h),hD (st++[(x,p)])]=.ok (.val (hD r)) [rwD rows,hD (hoStart p x h),hD (st++[(x,p)])]) :
  Z184 K A [rwD rows,aI p,aI x,hD h,hD st]=.ok (.val (hD r)) [rwD rows,aI p,aI x,hD h,hD st]:=by
 have t0:=v_ho0 rows p x st h
 have t1:=v_ho3 rows p x st h _ _ (v_ho2 (K:=K) (A:=A) rows p x st h hn hz)
 have t2:=v_ho4 rows p x st h (hoStart p x h)
 have t3:=v_ho5 rows p x st h (hoStart p x h) (Z233 hx) (by omega)
 have t4:=v_ho6 rows p x st h _ _ _ _ e
 unfold Z184
 refine v_ho7 rows p x st h (hoStart p x h) (st++[(x,p)]) r _ ?_
 unfold Z35
 rw [Z164,t0]
 dsimp only
 rw [Z164,t1]
 dsimp only
 rw [Z164,t2]
 dsimp only
 rw [Z164,t3]
 dsimp only
 exact t4
theorem Z353{rows:List (List Int)}{h:Hd}{k:Nat}(M:Mat rows k h):h.length≤k:=by
 have:=Z394 (l:=hV h) (m:=List.range k) M.vn fun q hq=>by
  obtain ⟨e,he,rfl⟩:=Qk.mp hq
  exact Wv.mpr (M.ed e he).1
 simpa [hV] using this
theorem Z683{rows:List (List Int)}{h h':Hd}{p k:Nat}{s:List Int}(M:Mat rows k h)(hp:p < k)(hn:p∉hV h)(w:Won rows p h s h'):Mat rows k h'∧h'.length=h.length + 1:=by
 obtain ⟨z,z1,z2⟩:=w.ks
 have l2:h'.length=h.length + 1:=by
  have:=congrArg List.length z2
  simpa [hK] using this
 refine ⟨⟨?_,?_,fun e he=>⟨?_,w.ed e he⟩⟩,l2⟩
 ·rw [z2,Qj]
  refine ⟨M.kn,by simp,fun a ha b hb=>?_⟩
  rw [Qy.mp hb]
  rintro rfl
  exact z1 ha
 ·exact w.vs.nodup_iff.mpr (Ji.mpr ⟨hn,M.vn⟩)
 ·have:=w.vs.mem_iff.mp (Qk.mpr ⟨e,he,rfl⟩)
  rcases Jb.mp this with z | z
  ·omega
  ·obtain ⟨e2,he2,h3⟩:=Qk.mp z
   have:=(M.ed e2 he2).1
   omega
theorem Z278{h:Hd}(hn:(hK h).Nodup){e f:Int×Nat}(he:e∈h)(hf:f∈h)(hk:e.1=f.1):e=f:=by
 obtain ⟨i,hi⟩:=Qz.mp he
 obtain ⟨j,hj⟩:=Qz.mp hf
 have q1:(hK h)[i]?=some f.1:=by rw [Qa,hi,Option.map_some,hk]
 have q2:(hK h)[j]?=some f.1:=by rw [Qa,hj];rfl
 obtain ⟨b1,r1⟩:=Qc.mp q1
 obtain ⟨b2,r2⟩:=Qc.mp q2
 have:=(Wu hn).mp (r1.trans r2.symm)
 subst this
 rw [hi] at hj
 exact Option.some.inj hj
theorem Z678{h:Hd}(hn:(hV h).Nodup){e f:Int×Nat}(he:e∈h)(hf:f∈h)(hk:e.2=f.2):e=f:=by
 obtain ⟨i,hi⟩:=Qz.mp he
 obtain ⟨j,hj⟩:=Qz.mp hf
 have q1:(hV h)[i]?=some f.2:=by rw [Qa,hi,Option.map_some,hk]
 have q2:(hV h)[j]?=some f.2:=by rw [Qa,hj];rfl
 obtain ⟨b1,r1⟩:=Qc.mp q1
 obtain ⟨b2,r2⟩:=Qc.mp q2
 have:=(Wu hn).mp (r1.trans r2.symm)
 subst this
 rw [hi] at hj
 exact Option.some.inj hj
theorem Z338{α:Type}(f:α→Bool):∀ l:List α,l.length=(l.filter fun e=>!f e).length + (l.filter f).length
 | []=>rfl
 | a::l=>by
  have:=Z338 f l
  rw [Wl,Wl]
  cases f a <;> simp <;> omega

noncomputable def red(rows:List (List Int))(st:Hd)(p:Nat):List Int:=if p∈hV st then [] else (rowAt rows p).filter fun x=>!(hK st).contains x
theorem Z363{rows:List (List Int)}{st:Hd}{p:Nat}{x:Int}:x∈red rows st p↔p∉hV st∧x∈rowAt rows p∧x∉hK st:=by
 unfold red
 split
 case isTrue h=>simp [h]
 case isFalse h=>rw [Ja];simp [h]
noncomputable def outL(rr:Nat→List Int)(S:List Int)(L:List Nat):List Nat:=L.filter fun i=>!(rr i).all fun x=>S.contains x
theorem Z359{rr:Nat→List Int}{S:List Int}{L:List Nat}{i:Nat}:i∈outL rr S L↔i∈L∧∃ x∈rr i,x∉S:=by
 unfold outL
 rw [Ja]
 simp
structure MatL(rr:Nat→List Int)(L:List Nat)(h:Hd):Prop where
 kn:(hK h).Nodup
 vn:(hV h).Nodup
 ed:∀ e∈h,e.2∈L∧e.1∈rr e.2
theorem weakL{rr:Nat→List Int}{L:List Nat}{h:Hd}(M:MatL rr L h)(S:List Int):h.length≤(outL rr S L).length + S.length:=by
 have e:h.length=(h.filter fun e=>S.contains e.1).length + (h.filter fun e=>!S.contains e.1).length:=by
  have:=Z338 (fun e:Int×Nat=>S.contains e.1) h
  omega
 have h1:(h.filter fun e=>S.contains e.1).length≤S.length:=by
  have:=Z394 (l:=(h.filter fun e=>S.contains e.1).map (·.1)) (m:=S) (M.kn.sublist (Jf.map _)) fun x hx=>by
   obtain ⟨e,he,rfl⟩:=Qk.mp hx
   simpa using (Ja.mp he).2
  simpa using this
 have h2:(h.filter fun e=>!S.contains e.1).length≤(outL rr S L).length:=by
  have:=Z394 (l:=(h.filter fun e=>!S.contains e.1).map (·.2)) (m:=outL rr S L) (M.vn.sublist (Jf.map _)) fun x hx=>by
   obtain ⟨e,he,rfl⟩:=Qk.mp hx
   obtain ⟨h3,h4⟩:=Ja.mp he
   exact Z359.mpr ⟨(M.ed e h3).1,e.1,(M.ed e h3).2,by simpa using h4⟩
  simpa using this
 omega
theorem Z77{rr:Nat→List Int}{L:List Nat}{p:Nat}{h:Hd}{S s2:List Int}(M:MatL rr L h)(hL:L.Nodup)(hS:(outL rr S L).length + S.length≤h.length)(h1:∀ y∈rr p,y∈s2)
  (h2:∀ x∈s2,x∈hK h∧∀ e∈h,e.1=x→∀ y∈rr e.2,y∈s2):∃ S':List Int,(outL rr S' (L++[p])).length + S'.length≤h.length:=by
 let hT:=h.filter fun e=>s2.contains e.1 && !S.contains e.1
 have mT:∀ e,e∈hT↔e∈h∧e.1∈s2∧e.1∉S:=fun e=>by
  show e∈h.filter _↔_
  rw [Ja];simp
 let S':=S++hT.map (·.1)
 have sub:∀ x∈s2,x∈S':=fun x hx=>by
  by_cases hs:x∈S
  ·exact Qi _ hs
  ·obtain ⟨e,he,rfl⟩:=Qk.mp (h2 x hx).1
   exact Qf _ (Qk.mpr ⟨e,(mT e).mpr ⟨he,hx,hs⟩,rfl⟩)
 refine ⟨S',?_⟩
 have e0:outL rr S' (L++[p])=outL rr S' L:=by
  have:(rr p).all (fun x=>S'.contains x)=true:=by
   rw [List.all_eq_true];intro x hx;simpa using sub x (h1 x hx)
  unfold outL
  rw [Jx]
  simp only [Wl,this,Bool.not_true,We,if_false,List.filter_nil,Jl]
 rw [e0]
 have key:(hT.map (·.2)++outL rr S' L).length≤(outL rr S L).length:=by
  refine Z394 ?_ fun i hi=>?_
  ·rw [Qj]
   refine ⟨M.vn.sublist (Jf.map _),hL.sublist Jf,fun i hi j hj=>?_⟩
   rintro rfl
   obtain ⟨e,he,rfl⟩:=Qk.mp hi
   obtain ⟨g1,g2,g3⟩:=(mT e).mp he
   obtain ⟨_,x,q1,q2⟩:=Z359.mp hj
   exact q2 (sub x ((h2 e.1 g2).2 e g1 rfl x q1))
  ·rcases Qe.mp hi with hi | hi
   ·obtain ⟨e,he,rfl⟩:=Qk.mp hi
    obtain ⟨g1,g2,g3⟩:=(mT e).mp he
    exact Z359.mpr ⟨(M.ed e g1).1,e.1,(M.ed e g1).2,g3⟩
   ·obtain ⟨q0,x,q1,q2⟩:=Z359.mp hi
    exact Z359.mpr ⟨q0,x,q1,fun z=>q2 (Qi _ z)⟩
 have e1:S'.length=S.length + hT.length:=by show (S++hT.map (·.1)).length=_;simp
 rw [Qx,Qn] at key
 omega
noncomputable def minus(h st:Hd):Hd:=h.filter fun e=>!(hK st).contains e.1
theorem Z357{h st:Hd}{e:Int×Nat}:e∈minus h st↔e∈h∧e.1∉hK st:=by
 unfold minus;rw [Ja];simp
theorem Z367{rows:List (List Int)}{k:Nat}{h st:Hd}(M:Mat rows k h)(hs:∀ e∈st,e∈h)(hn:(hK st).Nodup):(minus h st).length + st.length=h.length:=by
 have e:=Z338 (fun e:Int×Nat=>(hK st).contains e.1) h
 have l1:st.length≤(h.filter fun e=>(hK st).contains e.1).length:=by
  have:=Z394 (l:=hK st) (m:=(h.filter fun e=>(hK st).contains e.1).map (·.1)) hn fun x hx=>by
   obtain ⟨e,he,rfl⟩:=Qk.mp hx
   exact Qk.mpr ⟨e,Ja.mpr ⟨hs e he,by simpa using hx⟩,rfl⟩
  simpa [hK] using this
 have l2:(h.filter fun e=>(hK st).contains e.1).length≤st.length:=by
  have:=Z394 (l:=(h.filter fun e=>(hK st).contains e.1).map (·.1)) (m:=hK st) (M.kn.sublist (Jf.map _)) fun x hx=>by
   obtain ⟨e,he,rfl⟩:=Qk.mp hx
   simpa using (Ja.mp he).2
  simpa [hK] using this
 unfold minus
 omega
theorem Z368{rows:List (List Int)}{k:Nat}{h st:Hd}{L:List Nat}(M:Mat rows k h)(hs:∀ e∈st,e∈h)(hL:∀ e∈h,e.2∉hV st→e.2∈L):MatL (red rows st) L (minus h st):=by
 refine ⟨M.kn.sublist (Jf.map _),M.vn.sublist (Jf.map _),fun e he=>?_⟩
 obtain ⟨g1,g2⟩:=Z357.mp he
 have g3:e.2∉hV st:=fun z=>by
  obtain ⟨f,hf,hfe⟩:=Qk.mp z
  have:=Z678 M.vn (hs f hf) g1 hfe
  subst this
  exact g2 (Qk.mpr ⟨f,hf,rfl⟩)
 exact ⟨hL e g1 g3,Z363.mpr ⟨g3,(M.ed e g1).2,g2⟩⟩
structure SM(rows:List (List Int))(h0 st r:Hd):Prop where
 M:Mat rows rows.length r
 keep:∀ e∈st,e∈r
 served:∀ q∈hV h0,q∈hV r
 len:h0.length≤r.length
 cov:∃ S:List Int,(outL (red rows st) S (List.range rows.length)).length + S.length≤(minus r st).length
theorem SM.mx{rows:List (List Int)}{h0 st r:Hd}(s:SM rows h0 st r)(hn:(hK st).Nodup){N:Hd}(M:Mat rows rows.length N)(hs:∀ e∈st,e∈N):N.length≤r.length:=by
 obtain ⟨S,hS⟩:=s.cov
 have h1:=weakL (Z368 (L:=List.range rows.length) M hs fun e he _=>Wv.mpr (M.ed e he).1) S
 have h2:=Z367 M hs hn
 have h3:=Z367 s.M s.keep hn
 omega
theorem Z369{rows:List (List Int)}{h h' st:Hd}(M:Mat rows rows.length h)(M':Mat rows rows.length h')(h1:∀ e∈st,e∈h)(h2:∀ e∈st,e∈h')(hn:(hK st).Nodup)(hl:h'.length=h.length + 1):(minus h' st).length=(minus h st).length + 1:=by
 have a:=Z367 M h1 hn
 have b:=Z367 M' h2 hn
 omega
theorem v_sm(rows:List (List Int))(hz:rows.length≤20)(h0 st:Hd)(M0:Mat rows rows.length h0)(hs:∀ e∈st,e∈h0)(hkn:(hK st).Nodup)(hst:st.length < 10000) :
  ∃ r,Z185 K A [rwD rows,hD h0,hD st]=.ok (.val (hD r)) [rwD rows,hD h0,hD st]∧SM rows h0 st r:=by
 have lnd:(left rows h0).Nodup:=List.Nodup.sublist Jf List.nodup_range
 have pin:∀ {h:Hd} {l:List Nat},(∀ q∈hV h,q∈hV h0∨q∈l)→∀ e∈h,e.2∉hV st→e.2∈hV (minus h0 st)++l:=fun hh e he hn=>by
  rcases hh e.2 (Qk.mpr ⟨e,he,rfl⟩) with z | z
  ·obtain ⟨f,hf,hfe⟩:=Qk.mp z
   refine Qi _ (Qk.mpr ⟨f,Z357.mpr ⟨hf,fun z=>?_⟩,hfe⟩)
   obtain ⟨g,hg,hgf⟩:=Qk.mp z
   have:=Z278 M0.kn (hs g hg) hf hgf
   subst this
   exact hn (hfe ▸ Qk.mpr ⟨g,hg,rfl⟩)
  ·exact Qf _ z
 have ndL:∀ i,(hV (minus h0 st)++(left rows h0).take i).Nodup:=fun i=>by
  rw [Qj]
  refine ⟨M0.vn.sublist (Jf.map _),lnd.sublist (List.take_sublist _ _),fun a ha b hb=>?_⟩
  rintro rfl
  obtain ⟨e,he,rfl⟩:=Qk.mp ha
  have:=(Ja.mp (List.mem_of_mem_take hb)).2
  simp only [Bool.not_eq_true',decide_eq_false_iff_not] at this
  exact this (Qk.mpr ⟨e,(Z357.mp he).1,rfl⟩)
 obtain ⟨r,e,M,h1,h2,h3,h4,S,hS⟩:=Z665 (K:=K) (A:=A) rows h0 (sv st) (by omega) (by unfold sv;rw [Qn];exact hst)
  (fun i h=>Mat rows rows.length h∧(∀ e∈st,e∈h)∧(∀ q∈hV h0,q∈hV h)∧h0.length≤h.length∧(∀ q∈hV h,q∈hV h0∨q∈(left rows h0).take i)∧∃ S:List Int,(outL (red rows st) S (hV (minus h0 st)++(left rows h0).take i)).length + S.length≤(minus h st).length)
  ⟨M0,hs,fun q hq=>hq,Qu _,fun q hq=>.inl hq,[],by
   have:=Js (fun i=>!(red rows st i).all fun x=>([]:List Int).contains x) (hV (minus h0 st)++(left rows h0).take 0)
   have e0:(hV (minus h0 st)++(left rows h0).take 0).length=(minus h0 st).length:=by simp [hV]
   unfold outL
   rw [e0] at this
   simpa using this⟩
  (fun i h ⟨M,_⟩=>⟨M.kn,M.ed,by have:=Z353 M;omega⟩)
  (fun i p h hp ⟨M,h1,h2,h3,h4,S,hS⟩=>by
   have hpl:=Ja.mp (Qg hp)
   have hp1:p < rows.length:=Wv.mp hpl.1
   have hp2:p∉hV h0:=by simpa using hpl.2
   have tk:(left rows h0).take (i + 1)=(left rows h0).take i++[p]:=by rw [Jv,hp];rfl
   have hp3:p∉(left rows h0).take i:=fun z=>by
    have nd:((left rows h0).take (i + 1)).Nodup:=lnd.sublist (List.take_sublist _ _)
    rw [tk,Qj] at nd
    exact nd.2.2 p z p (by simp) rfl
   have hn:p∉hV h:=fun z=>(h4 p z).elim hp2 hp3
   refine ⟨fun h' w=>?_,fun s' w=>⟨M,h1,h2,h3,fun q hq=>(h4 q hq).imp id fun z=>by rw [tk];exact Qi _ z,?_⟩⟩
   ·obtain ⟨M',l'⟩:=Z683 M hp1 hn w
    have h1':∀ e∈st,e∈h':=fun e he=>by
     obtain ⟨j,hj⟩:=Qz.mp (h1 e he)
     exact Qg (w.st j e hj (by rw [sK_sv];exact Qk.mpr ⟨e,he,rfl⟩))
    refine ⟨M',h1',fun q hq=>w.vs.mem_iff.mpr (Qp _ (h2 q hq)),by omega,fun q hq=>?_,S,?_⟩
    ·rcases Jb.mp (w.vs.mem_iff.mp hq) with rfl | z
     ·exact .inr (by rw [tk];simp)
     ·exact (h4 q z).imp id fun z=>by rw [tk];exact Qi _ z
    ·have:=Z369 M M' h1 h1' hkn l'
     have o:(outL (red rows st) S (hV (minus h0 st)++(left rows h0).take (i + 1))).length≤(outL (red rows st) S (hV (minus h0 st)++(left rows h0).take i)).length + 1:=by
      unfold outL
      rw [tk,← Qq,Jx,Qx]
      have:=Js (fun i=>!(red rows st i).all fun x=>S.contains x) [p]
      simp only [Jq,List.length_nil] at this
      omega
     omega
   ·rw [tk,← Qq]
    refine Z77 (s2:=s'.filter fun x=>!(hK st).contains x) (Z368 M h1 (pin h4)) (ndL i) hS (fun y hy=>?_) fun x hx=>?_
    ·obtain ⟨_,g2,g3⟩:=Z363.mp hy
     exact Ja.mpr ⟨w.row y g2,by simpa using g3⟩
    ·obtain ⟨g1,g2⟩:=Ja.mp hx
     have g2:x∉hK st:=by simpa using g2
     rcases w.cl x g1 with z | ⟨z1,z2⟩
     ·rw [sK_sv] at z;exact (g2 z).elim
     ·refine ⟨?_,fun e he hex y hy=>?_⟩
      ·obtain ⟨e,he,rfl⟩:=Qk.mp z1
       exact Qk.mpr ⟨e,Z357.mpr ⟨he,g2⟩,rfl⟩
      ·obtain ⟨_,q2,q3⟩:=Z363.mp hy
       exact Ja.mpr ⟨z2 e (Z357.mp he).1 hex y q2,by simpa using q3⟩)
 rw [hD_sv] at e
 refine ⟨r,e,M,h1,h2,h3,S,?_⟩
 have:(outL (red rows st) S (List.range rows.length)).length≤(outL (red rows st) S (hV (minus h0 st)++(left rows h0).take (left rows h0).length)).length:=by
  refine Z394 (List.Nodup.sublist Jf List.nodup_range) fun i hi=>?_
  obtain ⟨g1,x,g2,g3⟩:=Z359.mp hi
  refine Z359.mpr ⟨?_,x,g2,g3⟩
  have hni:i∉hV st:=(Z363.mp g2).1
  rw [Jy]
  by_cases hi0:i∈hV h0
  ·obtain ⟨f,hf,rfl⟩:=Qk.mp hi0
   exact pin (h:=h0) (l:=left rows h0) (fun q hq=>.inl hq) f hf hni
  ·exact Qf _ (Ja.mpr ⟨g1,by simpa using hi0⟩)
 omega
noncomputable abbrev seS(rows:List (List Int))(p:Nat)(h st:Hd)(y4 y5:DL):Sd:=[.bor 6 [],.own true (aI p),.bor 8 [],.bor 9 [],y4,y5,.own false (rwD rows),.non,.own true (hD h),.own true (hD st),.bor 6 [p]]
theorem v_se1(rows:List (List Int))(p:Nat)(h st:Hd)(x:Int)(j:Nat)(hs:idk (kG x) (kH st)=some j) :
  Z332 K A (seS rows p h st (.own true (aI x)) .non)=.nx (seS rows p h st .non .non):=by
 unfold Z332
 generalize Z184 K A=F
 walk_at "evs"
theorem v_se2(rows:List (List Int))(p:Nat)(h st r:Hd)(x:Int)(hs:idk (kG x) (kH st)=none)(hl:¬ (r.length:Int)=(h.length:Int))(e:Z184 K A [rwD rows,aI p,aI x,hD h,hD st]=.ok (.val (hD r)) [rwD rows,aI p,aI x,hD h,hD st]) :
  Z332 K A (seS rows p h st (.own true (aI x)) .non)=.nx (seS rows p h st .non .non):=by
 unfold Z332
 generalize Z184 K A=F at *
 walk_at "evs"
theorem v_se3(rows:List (List Int))(p:Nat)(h st r:Hd)(x:Int)(hs:idk (kG x) (kH st)=none)(hz:st.length < 16777216)(hl:(r.length:Int)=(h.length:Int))(e:Z184 K A [rwD rows,aI p,aI x,hD h,hD st]=.ok (.val (hD r)) [rwD rows,aI p,aI x,hD h,hD st]) :
  Z332 K A (seS rows p h st (.own true (aI x)) .non)=.rt (.plc 5 []) (seS rows p h (st++[(x,p)]) (.own true (aI x)) (.own true (hD r))):=by
 show _=SR.rt (.plc 5 []) [.bor 6 [],.own true (aI p),.bor 8 [],.bor 9 [],.own true (aI x),.own true (hD r),.own false (rwD rows),.non,.own true (hD h),.own true (hD (st++[(x,p)])),.bor 6 [p]]
 rw [Z210]
 unfold Z332
 generalize Z184 K A=F at *
 walk_at "evs"
theorem v_seA(rows:List (List Int))(p:Nat)(h st:Hd)(hp:p < rows.length)(B:SF)
  (lp:loopG (itP false 10 6 [p]) (asgD 4) B ((rowAt rows p).length + 1) 0 (seS rows p h st .non .non)=.nx (seS rows p h st .non .non)) :
  runDef 6 [false,false,true,true] (sSeq (sForL (eCh (hIx K) (aCons (eVar 0) (aCons (eVar 1) aNil))) (asgD 4) B) (sRet (eVar 2))) [rwD rows,aI p,hD h,hD st]=.ok (.arg 2 []) [rwD rows,aI p,hD h,hD st]:=by
 have e1:(rows.map nD)[p]?=some (nD (rowAt rows p)):=by
  rw [Qa,Qh hp];simp [rowAt,Jp,Qh hp]
 have e2:ixN rows.length (p:Int)=some p:=by unfold ixN;rw [if_pos (by omega),if_pos (by omega)];simp
 walk_at "evs"
theorem v_seB(rows:List (List Int))(p:Nat)(h st st' r:Hd)(x:Int)(hp:p < rows.length)(B:SF)
  (lp:loopG (itP false 10 6 [p]) (asgD 4) B ((rowAt rows p).length + 1) 0 (seS rows p h st .non .non)=.rt (.plc 5 []) (seS rows p h st' (.own true (aI x)) (.own true (hD r)))) :
  runDef 6 [false,false,true,true] (sSeq (sForL (eCh (hIx K) (aCons (eVar 0) (aCons (eVar 1) aNil))) (asgD 4) B) (sRet (eVar 2))) [rwD rows,aI p,hD h,hD st]=.ok (.val (hD r)) [rwD rows,aI p,hD h,hD st']:=by
 have e1:(rows.map nD)[p]?=some (nD (rowAt rows p)):=by
  rw [Qa,Qh hp];simp [rowAt,Jp,Qh hp]
 have e2:ixN rows.length (p:Int)=some p:=by unfold ixN;rw [if_pos (by omega),if_pos (by omega)];simp
 walk_at "evs"
noncomputable def Tried(rows:List (List Int))(p:Nat)(h st:Hd)(y:Int):Prop:=y∈hK st∨∃ r,SM rows (hoStart p y h) (st++[(y,p)]) r∧r.length≠h.length
theorem Z231{rows:List (List Int)}{p:Nat}{x:Int}{h:Hd}(M:Mat rows rows.length h)(hp:p < rows.length)(hx:x∈rowAt rows p):Mat rows rows.length (hoStart p x h):=by
 have sub:(h.filter (hoC p x)).Sublist h:=Jf
 refine ⟨?_,?_,fun e he=>?_⟩
 ·show (((x,p)::h.filter (hoC p x)).map (·.1)).Nodup
  rw [Ql,Ji]
  refine ⟨fun z=>?_,M.kn.sublist (sub.map _)⟩
  obtain ⟨e,he,z⟩:=Qk.mp z
  have:=(Ja.mp he).2
  simp at this
  exact this.1 z
 ·show (((x,p)::h.filter (hoC p x)).map (·.2)).Nodup
  rw [Ql,Ji]
  refine ⟨fun z=>?_,M.vn.sublist (sub.map _)⟩
  obtain ⟨e,he,z⟩:=Qk.mp z
  have:=(Ja.mp he).2
  simp at this
  exact this.2 z
 ·rcases Jb.mp he with rfl | he
  ·exact ⟨hp,hx⟩
  ·exact M.ed e (Ja.mp he).1
theorem Z229{p:Nat}{x:Int}{h st:Hd}(hs:∀ e∈st,e∈h)(hx:x∉hK st)(hp:p∉hV st):∀ e∈st++[(x,p)],e∈hoStart p x h:=fun e he=>by
 rcases Qe.mp he with he | he
 ·refine Qp _ (Ja.mpr ⟨hs e he,?_⟩)
  have h1:e.1≠x:=fun z=>hx (z ▸ Qk.mpr ⟨e,he,rfl⟩)
  have h2:e.2≠p:=fun z=>hp (z ▸ Qk.mpr ⟨e,he,rfl⟩)
  simp [h1,h2]
 ·rw [Qy.mp he];exact Qs
theorem Z385{st:Hd}{x:Int}{p:Nat}(h:(hK st).Nodup)(hx:x∉hK st):(hK (st++[(x,p)])).Nodup:=by
 show ((st++[(x,p)]).map (·.1)).Nodup
 rw [Qv,Qj]
 refine ⟨h,by simp,fun a ha b hb=>?_⟩
 rintro rfl
 have:a=x:=by simpa using hb
 exact hx (this ▸ ha)
theorem Z230{rows:List (List Int)}{p k:Nat}{x:Int}{h:Hd}(M:Mat rows k h)(hg:(x,p)∈h∨p∉hV h):h.length≤(hoStart p x h).length:=by
 have key:=Z338 (hoC p x) h
 have one:(h.filter fun e=>!hoC p x e).length≤1:=by
  have:∀ e∈h.filter (fun e=>!hoC p x e),e.1=x:=fun e he=>by
   obtain ⟨h1,h2⟩:=Ja.mp he
   rcases hg with hg | hg
   ·have h3:e.1=x∨e.2=p:=by
     by_cases z:e.1=x
     ·exact .inl z
     ·right
      simp [z] at h2
      exact h2
    rcases h3 with h3 | h3
    ·exact h3
    ·have:=Z678 M.vn h1 hg h3
     rw [this]
   ·have h4:e.2≠p:=fun z=>hg (z ▸ Qk.mpr ⟨e,h1,rfl⟩)
    by_cases z:e.1=x
    ·exact z
    ·simp [z,h4] at h2
  have:=Z394 (l:=(h.filter fun e=>!hoC p x e).map (·.1)) (m:=[x]) (M.kn.sublist (Jf.map _)) fun y hy=>by
   obtain ⟨e,he,rfl⟩:=Qk.mp hy
   simp [this e he]
  simpa using this
 unfold hoStart
 rw [Jq]
 omega
theorem Z667(rows:List (List Int))(hz:rows.length≤20)(p:Nat)(h st:Hd)(hp:p < rows.length)(M:Mat rows rows.length h)(mx:∀ h',Mat rows rows.length h'→h'.length≤h.length)(hs:∀ e∈st,e∈h)(hl:st.length < 1000)(hkn:(hK st).Nodup)(hq:p∉hV st) :
  (∃ i x r,(rowAt rows p)[i]?=some x∧x∉hK st∧(∀ y∈(rowAt rows p).take i,Tried rows p h st y)∧Z187 K A [rwD rows,aI p,hD h,hD st]=.ok (.val (hD r)) [rwD rows,aI p,hD h,hD (st++[(x,p)])]∧SM rows (hoStart p x h) (st++[(x,p)]) r∧r.length=h.length) ∨
  (Z187 K A [rwD rows,aI p,hD h,hD st]=.ok (.arg 2 []) [rwD rows,aI p,hD h,hD st]∧p∉hV h∧∀ y∈rowAt rows p,y∈hK st):=by
 have lp:=Z344 (t:=false) (n:=10) (k:=6) (p:=[p]) (l:=(rowAt rows p).map aI) (kd:=.lst true) (b:=asgD 4) (body:=Z332 K A) (s:=seS rows p h st .non .non) (.inl ⟨rfl,true,rfl⟩)
  (fun i s=>s=seS rows p h st .non .non∧∀ y∈(rowAt rows p).take i,Tried rows p h st y)
  (fun r=>∃ i x h',r=.rt (.plc 5 []) (seS rows p h (st++[(x,p)]) (.own true (aI x)) (.own true (hD h')))∧(rowAt rows p)[i]?=some x∧x∉hK st∧(∀ y∈(rowAt rows p).take i,Tried rows p h st y)∧SM rows (hoStart p x h) (st++[(x,p)]) h'∧h'.length=h.length)
  ⟨rfl,by simp⟩
  (by
   rintro i s ⟨rfl,_⟩
   refine ⟨by simp [held,seS],?_⟩
   have e1:(rows.map nD)[p]?=some (nD (rowAt rows p)):=by
    rw [Qa,Qh hp];simp [rowAt,Jp,Qh hp]
   walk_at "evs")
  (by
   rintro i s c hc ⟨rfl,hb⟩
   rw [Qa] at hc
   cases ex:(rowAt rows p)[i]? with
   | none=>rw [ex] at hc;cases hc
   | some x =>
    rw [ex] at hc
    cases hc
    have hx:x∈rowAt rows p:=Qg ex
    have tk:(rowAt rows p).take (i + 1)=(rowAt rows p).take i++[x]:=by rw [Jv,ex];rfl
    refine ⟨seS rows p h st (.own true (aI x)) .non,rfl,?_⟩
    by_cases hxs:x∈hK st
    ·obtain ⟨j,v,h1,h2⟩:=Z235 hxs
     refine .inl ⟨_,.inl (v_se1 rows p h st x j h1),rfl,fun y hy=>?_⟩
     rw [tk] at hy
     rcases Qe.mp hy with hy | hy
     ·exact hb y hy
     ·rw [Qy.mp hy];exact .inl hxs
    ·have i1:=Z233 hxs
     obtain ⟨r,e,sm⟩:=v_sm (K:=K) (A:=A) rows hz (hoStart p x h) (st++[(x,p)]) (Z231 M hp hx) (Z229 hs hxs hq) (Z385 hkn hxs) (by rw [Qx,Wg];omega)
     have e2:=Z660 rows p x st h r M.kn (by have:=Z353 M;omega) (by omega) hxs e
     by_cases hlen:r.length=h.length
     ·exact .inr ⟨_,_,v_se3 rows p h st r x i1 (by omega) (by omega) e2,i,x,r,rfl,ex,hxs,hb,sm,hlen⟩
     ·refine .inl ⟨_,.inl (v_se2 rows p h st r x i1 (by omega) e2),rfl,fun y hy=>?_⟩
      rw [tk] at hy
      rcases Qe.mp hy with hy | hy
      ·exact hb y hy
      ·rw [Qy.mp hy];exact .inr ⟨r,sm,hlen⟩)
 rw [Qn] at lp
 rcases lp with ⟨s,e,rfl,hb⟩ | ⟨r,s,e,i,x,h',e2,h1,h2,h3,h4,h5⟩
 ·refine .inr ⟨v_seA rows p h st hp _ e,?_⟩
  rw [Jy] at hb
  have good:∀ y∈rowAt rows p,y∉hK st→((y,p)∈h∨p∉hV h)→False:=fun y hy hys hg=>by
   rcases hb y hy with z | ⟨r,sm,hne⟩
   ·exact hys z
   ·have l1:=Z230 M hg
    have l2:=sm.len
    have l3:=mx r sm.M
    omega
  have hpv:p∉hV h:=fun z=>by
   obtain ⟨e,he,hep⟩:=Qk.mp z
   have hed:=M.ed e he
   rw [hep] at hed
   refine good e.1 hed.2 (fun z2=>?_) (.inl ?_)
   ·obtain ⟨f,hf,hfe⟩:=Qk.mp z2
    have:=Z278 M.kn (hs f hf) he hfe
    rw [this] at hf
    exact hq (hep ▸ Qk.mpr ⟨e,hf,rfl⟩)
   ·rw [← hep];exact he
  refine ⟨hpv,fun y hy=>?_⟩
  by_cases hys:y∈hK st
  ·exact hys
  ·exact (good y hy hys (.inr hpv)).elim
 ·cases e2
  exact .inl ⟨i,x,h',h1,h2,h3,v_seB rows p h st _ h' x hp _ e,h4,h5⟩
inductive Run(rows:List (List Int))(h0:Hd):Nat→Hd→Hd→Prop where
 | zero:Run rows h0 0 h0 []
 | take {i j:Nat} {h st r:Hd} {x:Int}:Run rows h0 i h st→(rowAt rows i)[j]?=some x→x∉hK st→(∀ y∈(rowAt rows i).take j,Tried rows i h st y)→SM rows (hoStart i x h) (st++[(x,i)]) r→r.length=h.length→Run rows h0 (i + 1) r (st++[(x,i)])
 | skip {i:Nat} {h st:Hd}:Run rows h0 i h st→i∉hV h→(∀ y∈rowAt rows i,y∈hK st)→Run rows h0 (i + 1) h st
structure RunOk(rows:List (List Int))(h0:Hd)(i:Nat)(h st:Hd):Prop where
 M:Mat rows rows.length h
 len:h.length=h0.length
 sub:∀ e∈st,e∈h
 lt:∀ e∈st,e.2 < i
 kn:(hK st).Nodup
 vn:(hV st).Nodup
 all:∀ q,q < i→q∈hV st∨∀ y∈rowAt rows q,y∈hK st
 sz:st.length≤i
theorem Z554{rows:List (List Int)}{h0:Hd}(M0:Mat rows rows.length h0){i:Nat}{h st:Hd}(R:Run rows h0 i h st):RunOk rows h0 i h st:=by
 induction R with
 | zero=>exact ⟨M0,rfl,by simp,by simp,Wo,Wo,fun q hq=>absurd hq (Nat.not_lt_zero _),Qu _⟩
 | @take i j h st r x R h1 h2 h3 h4 h5 ih =>
  refine ⟨h4.M,h5.trans ih.len,h4.keep,fun e he=>?_,?_,?_,fun q hq=>?_,by rw [Qx,Wg];have:=ih.sz;omega⟩
  ·rcases Qe.mp he with he | he
   ·have:=ih.lt e he;omega
   ·rw [Qy.mp he];exact Nat.lt_succ_self _
  ·show ((st++[(x,i)]).map (·.1)).Nodup
   rw [Qv,Qj]
   refine ⟨ih.kn,by simp,fun a ha b hb=>?_⟩
   rintro rfl
   have:a=x:=by simpa using hb
   exact h2 (this ▸ ha)
  ·show ((st++[(x,i)]).map (·.2)).Nodup
   rw [Qv,Qj]
   refine ⟨ih.vn,by simp,fun a ha b hb=>?_⟩
   rintro rfl
   have:a=i:=by simpa using hb
   obtain ⟨e,he,z⟩:=Qk.mp ha
   have:=ih.lt e he
   omega
  ·by_cases hqi:q=i
   ·subst hqi
    exact .inl (Qk.mpr ⟨(x,q),by simp,rfl⟩)
   ·rcases ih.all q (by omega) with z | z
    ·exact .inl (by show q∈(st++[(x,i)]).map (·.2);rw [Qv];exact Qi _ z)
    ·exact .inr fun y hy=>by show y∈(st++[(x,i)]).map (·.1);rw [Qv];exact Qi _ (z y hy)
 | @skip i h st R h1 h2 ih =>
  refine ⟨ih.M,ih.len,ih.sub,fun e he=>?_,ih.kn,ih.vn,fun q hq=>?_,by have:=ih.sz;omega⟩
  ·have:=ih.lt e he;omega
  ·by_cases hqi:q=i
   ·subst hqi;exact .inr h2
   ·exact ih.all q (by omega)
theorem Z552{rows:List (List Int)}{h0:Hd}(M0:Mat rows rows.length h0){h st:Hd}(R:Run rows h0 rows.length h st):st.length=h0.length:=by
 have O:=Z554 M0 R
 have h1:st.length≤h.length:=by
  have:=Z394 (l:=hK st) (m:=hK h) O.kn fun x hx=>by
   obtain ⟨e,he,rfl⟩:=Qk.mp hx
   exact Qk.mpr ⟨e,O.sub e he,rfl⟩
  simpa [hK] using this
 have h2:h.length≤st.length:=by
  have:=Z394 (l:=hV h) (m:=hV st) O.M.vn fun q hq=>by
   obtain ⟨e,he,rfl⟩:=Qk.mp hq
   have hed:=O.M.ed e he
   rcases O.all e.2 hed.1 with z | z
   ·exact z
   ·obtain ⟨f,hf,hk⟩:=Qk.mp (z e.1 hed.2)
    have:=Z278 O.M.kn (O.sub f hf) he hk
    exact Qk.mpr ⟨f,hf,by rw [this]⟩
  simpa [hV] using this
 have:=O.len
 omega
theorem Z75{rows:List (List Int)}{h S}(hS:(outK rows S rows.length).length + S.length≤List.length (h:Hd)):∀ h',Mat rows rows.length h'→h'.length≤h.length:=fun h' M'=>by
 have:=weak M' S
 omega
noncomputable abbrev srS(rows:List (List Int))(y1 y2 y3 y4 y5:DL):Sd:=[.bor 6 [],y1,y2,y3,y4,y5,.own false (rwD rows)]
theorem v_sr1(rows:List (List Int))(h st st' r:Hd)(p:Nat)(F:Fn)(e:F [rwD rows,aI p,hD h,hD st]=.ok (.val (hD r)) [rwD rows,aI p,hD h,hD st']) :
  sAsg (eCall [false,false,true,true] F (aCons (eVar 0) (aCons (eVar 3) (aCons (eVar 1) (aCons (eVar 2) aNil))))) (asgD 1) (srS rows (.own true (hD h)) (.own true (hD st)) (.own true (aI p)) .non .non) =
   .nx (srS rows (.own true (hD r)) (.own true (hD st')) (.own true (aI p)) .non .non):=by
 walk_at "evs"
theorem v_sr2(rows:List (List Int))(h st:Hd)(p:Nat)(F:Fn)(e:F [rwD rows,aI p,hD h,hD st]=.ok (.arg 2 []) [rwD rows,aI p,hD h,hD st]) :
  sAsg (eCall [false,false,true,true] F (aCons (eVar 0) (aCons (eVar 3) (aCons (eVar 1) (aCons (eVar 2) aNil))))) (asgD 1) (srS rows (.own true (hD h)) (.own true (hD st)) (.own true (aI p)) .non .non) =
   .nx (srS rows (.own true (hD h)) (.own true (hD st)) (.own true (aI p)) .non .non):=by
 walk_at "evs"
theorem v_srl(rows:List (List Int))(hz:rows.length≤20)(h0:Hd)(M0:Mat rows rows.length h0)(mx:∀ h',Mat rows rows.length h'→h'.length≤h0.length) :
  ∃ h st y3,Ow y3∧Run rows h0 rows.length h st∧loopG (itR 0 rows.length) (asgD 3) (Z330 K A) (rows.length + 1) 0 (srS rows (.own true (hD h0)) (.own true (hD [])) .non .non .non) =
   .nx (srS rows (.own true (hD h)) (.own true (hD st)) y3 .non .non):=by
 obtain ⟨s',lp,h,st,y3,hy,R,_,rfl⟩:=Z345 (lo:=0) (n:=rows.length) (b:=asgD 3) (body:=Z330 K A) (s:=srS rows (.own true (hD h0)) (.own true (hD [])) .non .non .non)
  (fun i s=>∃ h st y3,Ow y3∧Run rows h0 i h st∧i≤rows.length∧s=srS rows (.own true (hD h)) (.own true (hD st)) y3 .non .non) ⟨h0,[],.non,.inl rfl,.zero,Nat.zero_le _,rfl⟩ (by
  rintro i s hi ⟨h,st,y3,hy,R,_,rfl⟩
  have O:=Z554 M0 R
  have e0:(0 + (i:Int))=(i:Int):=by omega
  refine ⟨srS rows (.own true (hD h)) (.own true (hD st)) (.own true (aI (0 + i))) .non .non,?_⟩
  have e1:asgD 3 (srS rows (.own true (hD h)) (.own true (hD st)) y3 .non .non) (.val (aI (0 + i)))=some (srS rows (.own true (hD h)) (.own true (hD st)) (.own true (aI (0 + i))) .non .non):=by
   rcases hy with rfl | ⟨d,rfl⟩ <;> rfl
  rw [e0] at e1 ⊢
  rcases Z667 (K:=K) (A:=A) rows hz i h st hi O.M (fun h' M'=>by rw [O.len];exact mx h' M') O.sub (by have:=O.sz;omega) O.kn (fun z=>by
   obtain ⟨e,he,z⟩:=Qk.mp z
   have:=O.lt e he
   omega) with ⟨j,x,r,g1,g2,g3,g4,g5,g6⟩ | ⟨g1,g2,g3⟩
  ·exact ⟨_,e1,.inl (v_sr1 rows h st _ r i _ g4),r,_,.own true (aI i),.inr ⟨_,rfl⟩,.take R g1 g2 g3 g5 g6,by omega,rfl⟩
  ·exact ⟨_,e1,.inl (v_sr2 rows h st i _ g1),h,st,.own true (aI i),.inr ⟨_,rfl⟩,.skip R g2 g3,by omega,rfl⟩)
 exact ⟨h,st,y3,hy,R,lp⟩
noncomputable def ansL(n:Nat)(st:Hd):List V:=st.foldl (fun l e=>l.set e.2 (.int e.1)) (List.replicate n .non)
theorem Z7(n:Nat)(st:Hd):(ansL n st).length=n:=by
 unfold ansL
 have:∀ (l:List V),(st.foldl (fun l e=>l.set e.2 (V.int e.1)) l).length=l.length:=by
  induction st with
  | nil=>intro l;rfl
  | cons e r ih=>intro l;rw [Wb,ih,List.length_set]
 rw [this,Jr]
theorem Z3(n:Nat)(st:Hd)(e:Int×Nat):ansL n (st++[e])=(ansL n st).set e.2 (.int e.1):=by
 unfold ansL;rw [List.foldl_append];rfl
theorem Z9{n q:Nat}{st:Hd}(hq:q < n)(h:q∉hV st):(ansL n st)[q]?=some .non:=by
 have:∀ (l:List V),q∉hV st→(st.foldl (fun l e=>l.set e.2 (V.int e.1)) l)[q]?=l[q]?:=by
  clear h
  induction st with
  | nil=>intro l _;rfl
  | cons e r ih =>
   intro l h
   rw [Wb,ih _ fun z=>h (Qp _ z),Wd fun z=>h (by rw [← z];exact Qs)]
 unfold ansL
 rw [this _ h,Wr,if_pos hq]
theorem Z4{n:Nat}{x:Int}{q:Nat}:∀ {st:Hd},(hV st).Nodup→q < n→(x,q)∈st→(ansL n st)[q]?=some (.int x):=by
 intro st hn hq h
 unfold ansL
 have:∀ (l:List V),l.length=n→(hV st).Nodup→(x,q)∈st→(st.foldl (fun l e=>l.set e.2 (V.int e.1)) l)[q]?=some (.int x):=by
  clear hn h
  induction st with
  | nil=>intro l _ _ h;cases h
  | cons e r ih =>
   intro l hl hn h
   rw [Wb]
   have hn':=Ji.mp hn
   rcases Jb.mp h with rfl | h
   ·have keep:∀ (r:Hd) (l:List V),q∉hV r→(r.foldl (fun l e=>l.set e.2 (V.int e.1)) l)[q]?=l[q]?:=by
     intro r
     induction r with
     | nil=>intro l _;rfl
     | cons e r ih =>
      intro l h
      rw [Wb,ih _ fun z=>h (Qp _ z),Wd fun z=>h (by rw [← z];exact Qs)]
    rw [keep r _ hn'.1]
    simp [Qm,hl,hq]
   ·exact ih _ (by rw [List.length_set];exact hl) hn'.2 h
 exact this _ (Jr ..) hn h
noncomputable abbrev asD(l:List V):D:=.nd (.lst true) (l.map D.at)
theorem v_sr4(rows:List (List Int))(hz:rows.length≤20)(h st:Hd)(y3:DL)(hy:Ow y3) :
  sAsg (eCompL (eVar 0) (fun _=>bYes) (fun n1=>(eC .non))) (asgD 4) (srS rows (.own true (hD h)) (.own true (hD st)) y3 .non .non) =
   .nx (srS rows (.own true (hD h)) (.own true (hD st)) y3 (.own true (asD (List.replicate rows.length .non))) .non):=by
 have it:∀ i y,itP false 7 6 [] i (srS rows (.own true (hD h)) (.own true (hD st)) y3 .non .non++[.bor 6 [],y])=some (((rows.map nD)[i]?).map (mkV 6 ([]++[i]))):=fun i y=>rfl
 obtain ⟨acc,s',h1,y,hyy,rfl,rfl⟩:=Z68 (it:=itP false 7 6 []) (n:=8) (c:=bYes) (e:=eC .non) (N:=rows.length)
  (P:=fun j acc s=>∃ y,(y=.non∨∃ i,y=.bor 6 [i])∧acc=(List.replicate j V.non).map D.at∧s=srS rows (.own true (hD h)) (.own true (hD st)) y3 .non .non++[.bor 6 [],y])
  (by
   rintro j acc s hj ⟨y,hyy,rfl,rfl⟩
   have hr:rows[j]?=some rows[j]:=Qh hj
   have e0:bYes (srS rows (.own true (hD h)) (.own true (hD st)) y3 .non .non++[.bor 6 [],.bor 6 [j]])=.ok true (srS rows (.own true (hD h)) (.own true (hD st)) y3 .non .non++[.bor 6 [],.bor 6 [j]]):=rfl
   have e1:eC .non (srS rows (.own true (hD h)) (.own true (hD st)) y3 .non .non++[.bor 6 [],.bor 6 [j]])=.ok (.val (.at .non)) (srS rows (.own true (hD h)) (.own true (hD st)) y3 .non .non++[.bor 6 [],.bor 6 [j]]):=rfl
   have e2:itP false 7 6 [] j (srS rows (.own true (hD h)) (.own true (hD st)) y3 .non .non++[.bor 6 [],y])=some (some (.plc 6 [j])):=by rw [it,Qa,hr];rfl
   have e3:asgD 8 (srS rows (.own true (hD h)) (.own true (hD st)) y3 .non .non++[.bor 6 [],y]) (.plc 6 [j])=some (srS rows (.own true (hD h)) (.own true (hD st)) y3 .non .non++[.bor 6 [],.bor 6 [j]]):=by
    rcases hy with rfl | ⟨d,rfl⟩ <;> rcases hyy with rfl | ⟨x,rfl⟩ <;> rfl
   refine ⟨_,_,e2,e3,.inl ⟨_,_,_,e0,e1,?_,_,.inr ⟨_,rfl⟩,?_,rfl⟩⟩
   ·rw [Qn,Jr,sz];omega
   ·rw [List.replicate_succ',Qv];rfl)
  (by
   rintro acc s ⟨y,hyy,rfl,rfl⟩
   rw [it,Qa,Jm (Qu _)];rfl)
  rows.length 0 [] (srS rows (.own true (hD h)) (.own true (hD st)) y3 .non .non++[.bor 6 [],.non]) (by omega) ⟨.non,.inl rfl,rfl,rfl⟩
 have u1:unrootD 8 y=y:=by rcases hyy with rfl | ⟨n,rfl⟩ <;> rfl
 have u2:unrootD 7 y=y:=by rcases hyy with rfl | ⟨n,rfl⟩ <;> rfl
 have a3:∀ j,unrootD j y3=y3:=hy.u
 clear hyy hz hy
 show _=SR.nx (srS rows (.own true (hD h)) (.own true (hD st)) y3 (.own true (.nd (.lst true) ((List.replicate rows.length V.non).map D.at))) .non)
 generalize (List.replicate rows.length V.non).map D.at=L at *
 simp only [srS,Jh,Je] at h1
 walk_at "evs"
theorem v_sr5(rows:List (List Int))(h:Hd)(l:List V)(x:Int)(q:Nat)(hq:q < l.length) :
  Z331 K A (srS rows (.own true (hD h)) (.own true hole) (.own true (aI q)) (.own true (asD l)) (.own true (aI x))++[.bor 2 []]) =
   .nx (srS rows (.own true (hD h)) (.own true hole) (.own true (aI q)) (.own true (asD (l.set q (.int x)))) .non++[.bor 2 []]):=by
 have e2:ixN l.length (q:Int)=some q:=by unfold ixN;rw [if_pos (by omega),if_pos (by omega)];simp
 have e:asD (l.set q (.int x))=.nd (.lst true) ((l.map D.at).set q (aI x)):=by
  show D.nd (.lst true) ((l.set q (.int x)).map D.at)=_
  rw [Wa]
 rw [e]
 unfold Z331
 walk_at "evs"
theorem v_sr6(rows:List (List Int))(h st:Hd)(y3:DL)(hy:Ow y3)(hst:∀ e∈st,e.2 < rows.length):∃ y3',Ow y3' ∧
  loopG (itC (kH st) (st.map fun e=>aI e.2)) (tgT (tgC (asgD 5) (tgC (asgD 3) tgN))) (Z331 K A) (st.length + 1) 0 (srS rows (.own true (hD h)) (.own true hole) y3 (.own true (asD (ansL rows.length []))) .non++[.bor 2 []]) =
   .nx (srS rows (.own true (hD h)) (.own true hole) y3' (.own true (asD (ansL rows.length st))) .non++[.bor 2 []]):=by
 obtain ⟨s',lp,y3',hy',rfl⟩:=Z342 (ks:=kH st) (l:=st.map fun e=>aI e.2) (b:=tgT (tgC (asgD 5) (tgC (asgD 3) tgN))) (body:=Z331 K A) (s:=srS rows (.own true (hD h)) (.own true hole) y3 (.own true (asD (ansL rows.length []))) .non++[.bor 2 []]) (by simp)
  (fun i s=>∃ y3,Ow y3∧s=srS rows (.own true (hD h)) (.own true hole) y3 (.own true (asD (ansL rows.length (st.take i)))) .non++[.bor 2 []]) ⟨y3,hy,rfl⟩ (by
  rintro i s k d hk hd ⟨y3,hy,rfl⟩
  rw [Qa] at hk hd
  cases ei:st[i]? with
  | none=>rw [ei] at hk;cases hk
  | some e =>
   obtain ⟨x,q⟩:=e
   rw [ei] at hk hd
   cases hk
   cases hd
   have hq:q < rows.length:=hst _ (Qg ei)
   have e1:=v_sr5 (K:=K) (A:=A) rows h (ansL rows.length (st.take i)) x q (by rw [Z7];exact hq)
   refine ⟨srS rows (.own true (hD h)) (.own true hole) (.own true (aI q)) (.own true (asD (ansL rows.length (st.take i)))) (.own true (aI x))++[.bor 2 []],_,?_,.inl e1,.own true (aI q),.inr ⟨_,rfl⟩,?_⟩
   ·rcases hy with rfl | ⟨d,rfl⟩ <;> rfl
   ·rw [Jv,ei,Option.toList_some,Z3])
 rw [Qn] at lp
 rw [Jy] at lp
 exact ⟨y3',hy',lp⟩
theorem v_sr7(rows:List (List Int))(h st:Hd)(l l':List V)(y3 y3':DL)(hy:Ow y3)(hy':Ow y3')(B:SF)
  (lp:loopG (itC (kH st) (st.map fun e=>aI e.2)) (tgT (tgC (asgD 5) (tgC (asgD 3) tgN))) B (st.length + 1) 0 (srS rows (.own true (hD h)) (.own true hole) y3 (.own true (asD l)) .non++[.bor 2 []]) =
   .nx (srS rows (.own true (hD h)) (.own true hole) y3' (.own true (asD l')) .non++[.bor 2 []])) :
  sForD (eVar 2) (tgT (tgC (asgD 5) (tgC (asgD 3) tgN))) B (srS rows (.own true (hD h)) (.own true (hD st)) y3 (.own true (asD l)) .non)=.nx (srS rows (.own true (hD h)) (.own true (hD st)) y3' (.own true (asD l')) .non):=by
 have ha:=atH st
 have a1:∀ j,unrootD j y3=y3:=hy.u
 have a2:∀ j,unrootD j y3'=y3':=hy'.u
 have b1:∀ j p f,killD j p f y3=y3:=hy.k
 have b2:∀ j p f,killD j p f y3'=y3':=hy'.k
 clear hy hy'
 simp only [srS,hole,Jh,Je] at lp
 walk_at "evs"
theorem v_sr0(rows:List (List Int))(h:Hd)(F:Fn)(e:F [rwD rows,.nd (.dic true []) [],.nd (.dic true []) []]=.ok (.val (hD h)) [rwD rows,.nd (.dic true []) [],.nd (.dic true []) []]) :
  sAsg (eCall [false,false,false] F (aCons (eVar 0) (aCons (eDisp (.dic true []) aNil) (aCons (eDisp (.dic true []) aNil) aNil)))) (asgD 1) (srS rows .non .non .non .non .non)=.nx (srS rows (.own true (hD h)) .non .non .non .non):=by
 walk_at "evs"
theorem Z668(rows:List (List Int))(h:Hd):sAsg (eDisp (.dic true []) aNil) (asgD 2) (srS rows (.own true (hD h)) .non .non .non .non)=.nx (srS rows (.own true (hD h)) (.own true (hD [])) .non .non .non):=by
 walk_at "evs"
 rfl
theorem v_sr3(rows:List (List Int))(hz:rows.length≤20)(h h' st st':Hd)(y3:DL)(B:SF)
  (lp:loopG (itR 0 rows.length) (asgD 3) B (rows.length + 1) 0 (srS rows (.own true (hD h)) (.own true (hD st)) .non .non .non)=.nx (srS rows (.own true (hD h')) (.own true (hD st')) y3 .non .non)) :
  sForR (aCons (eNw (hLen K) (aCons (eVar 0) aNil)) aNil) (asgD 3) B (srS rows (.own true (hD h)) (.own true (hD st)) .non .non .non)=.nx (srS rows (.own true (hD h')) (.own true (hD st')) y3 .non .non):=by
 have b1:(rows.length:Int) < 4611686018427387904:=by omega
 have b2:-4611686018427387904≤(rows.length:Int):=by omega
 clear hz
 simp only [srS] at lp
 walk_at "evs"
theorem v_sr8(rows:List (List Int))(h st:Hd)(l:List V)(y3:DL)(B:SF)(e:B (srS rows .non .non .non .non .non)=.rt (.plc 4 []) (srS rows (.own true (hD h)) (.own true (hD st)) y3 (.own true (asD l)) .non)) :
  runDef 6 [false] B [rwD rows]=.ok (.val (asD l)) [rwD rows]:=by
 simp only [srS] at e
 walk_at "evs"
theorem v_sr9(rows:List (List Int))(h st:Hd)(l:List V)(y3:DL):sRet (eVar 4) (srS rows (.own true (hD h)) (.own true (hD st)) y3 (.own true (asD l)) .non)=.rt (.plc 4 []) (srS rows (.own true (hD h)) (.own true (hD st)) y3 (.own true (asD l)) .non):=by
 walk_at "evs"
theorem Z666(rows:List (List Int))(hz:rows.length≤20)(h0:Hd)(M0:Mat rows rows.length h0)(mx:∀ h',Mat rows rows.length h'→h'.length≤h0.length)
  (e0:Z185 K A [rwD rows,.nd (.dic true []) [],.nd (.dic true []) []]=.ok (.val (hD h0)) [rwD rows,.nd (.dic true []) [],.nd (.dic true []) []]) :
  ∃ h st,Run rows h0 rows.length h st∧Z186 K A [rwD rows]=.ok (.val (asD (ansL rows.length st))) [rwD rows]:=by
 obtain ⟨h,st,y3,hy,R,lp⟩:=v_srl (K:=K) (A:=A) rows hz h0 M0 mx
 have O:=Z554 M0 R
 obtain ⟨y3',hy',lp2⟩:=v_sr6 (K:=K) (A:=A) rows h st y3 hy O.lt
 have t0:=v_sr0 rows h0 _ e0
 have t1:=Z668 rows h0
 have t2:=v_sr3 (K:=K) rows hz h0 h [] st y3 _ lp
 have t3:=v_sr4 rows hz h st y3 hy
 have t4:=v_sr7 rows h st _ _ y3 y3' hy hy' _ lp2
 have t5:=v_sr9 rows h st (ansL rows.length st) y3'
 refine ⟨h,st,R,?_⟩
 unfold Z186
 refine v_sr8 rows h st _ y3' _ ?_
 unfold Z37
 rw [Z164,t0]
 dsimp only
 rw [Z164,t1]
 dsimp only
 rw [Z164,t2]
 dsimp only
 rw [Z164,t3]
 dsimp only
 refine Z164.trans ?_
 rw [show (List.replicate rows.length V.non)=ansL rows.length [] from rfl,t4]
 exact t5

noncomputable def dlK(row:List Int)(k:Nat)(s:Hd):List Hd:=(row.filter fun x=>!(hK s).contains x).map (fun x=>s++[(x,k)])++[s]
noncomputable def dls(rows:List (List Int)):Nat→List Hd
 | 0=>[[]]
 | k + 1=>(dls rows k).flatMap (dlK (rowAt rows k) k)
theorem Z102{rows:List (List Int)}:∀ {k:Nat} {s:Hd},s∈dls rows k→Mat rows k s
 | 0,s,h=>by
  have:s=[]:=by simpa [dls] using h
  subst this
  exact ⟨Wo,Wo,by simp⟩
 | k + 1,s,h=>by
  obtain ⟨s0,h0,h1⟩:=List.mem_flatMap.mp h
  have M:=Z102 h0
  rcases Qe.mp h1 with h1 | h1
  ·obtain ⟨x,hx,rfl⟩:=Qk.mp h1
   obtain ⟨x1,x2⟩:=Ja.mp hx
   have x3:x∉hK s0:=by simpa using x2
   refine ⟨Z385 M.kn x3,?_,fun e he=>?_⟩
   ·show ((s0++[(x,k)]).map (·.2)).Nodup
    rw [Qv,Qj]
    refine ⟨M.vn,by simp,fun a ha b hb=>?_⟩
    rintro rfl
    have:a=k:=by simpa using hb
    obtain ⟨e,he,z⟩:=Qk.mp ha
    have:=(M.ed e he).1
    omega
   ·rcases Qe.mp he with he | he
    ·exact ⟨by have:=(M.ed e he).1;omega,(M.ed e he).2⟩
    ·rw [Qy.mp he];exact ⟨Nat.lt_succ_self _,x1⟩
  ·rw [Qy.mp h1]
   exact ⟨M.kn,M.vn,fun e he=>⟨by have:=(M.ed e he).1;omega,(M.ed e he).2⟩⟩
theorem Z99{row:List Int}{k w:Nat}{s:Hd}(h:row.length≤w):(dlK row k s).length≤w + 1:=by
 unfold dlK
 have:=Js (fun x=>!(hK s).contains x) row
 rw [Qx,Qn,Wg]
 omega
theorem Z197{α β:Type}{f:α→List β}{w:Nat}:∀ {l:List α},(∀ a∈l,(f a).length≤w)→(l.flatMap f).length≤w * l.length
 | [],_=>by simp
 | a::l,h=>by
  have h1:=h a Qs
  have h2:=Z197 (l:=l) fun b hb=>h b (Qp _ hb)
  rw [Ju,Qx,Jq,Nat.mul_succ]
  omega
theorem Z101{rows:List (List Int)}(hr:∀ i,(rowAt rows i).length≤4):∀ k,(dls rows k).length≤5 ^ k
 | 0=>Qu _
 | k + 1=>by
  have h1:=Z101 hr k
  have h2:=Z197 (f:=dlK (rowAt rows k) k) (w:=5) (l:=dls rows k) fun s _=>Z99 (hr k)
  show ((dls rows k).flatMap _).length≤_
  rw [Nat.pow_succ]
  omega
noncomputable def NoExt(rows:List (List Int))(m i:Nat)(s:Hd):Prop:=∀ N,Mat rows rows.length N→(∀ e∈s,e∈N)→(∀ e∈N,e.2 < i→e∈s)→N.length < m
theorem Z399{rows:List (List Int)}{m i:Nat}{row:List Int}{s s':Hd}(h:NoExt rows m i s)(hs:s'∈dlK row i s):NoExt rows m (i + 1) s':=by
 intro N M h1 h2
 rcases Qe.mp hs with hs | hs
 ·obtain ⟨x,_,rfl⟩:=Qk.mp hs
  refine h N M (fun e he=>h1 e (Qi _ he)) fun e he hi=>?_
  rcases Qe.mp (h2 e he (by omega)) with z | z
  ·exact z
  ·rw [Qy.mp z] at hi;exact absurd hi (Jw _)
 ·rw [Qy.mp hs] at h1 h2
  exact h N M h1 fun e he hi=>h2 e he (by omega)
theorem Z551{rows:List (List Int)}{h0:Hd}(M0:Mat rows rows.length h0)(mx:∀ h',Mat rows rows.length h'→h'.length≤h0.length){i:Nat}{h st:Hd}(R:Run rows h0 i h st) :
  ∃ X Y,dls rows i=X++st::Y∧∀ s∈X,NoExt rows h0.length i s:=by
 induction R with
 | zero=>exact ⟨[],[],rfl,by simp⟩
 | @take i j h st r x R h1 h2 h3 h4 h5 ih =>
  obtain ⟨X,Y,e,hX⟩:=ih
  have O:=Z554 M0 R
  have er:rowAt rows i=(rowAt rows i).take j++x::(rowAt rows i).drop (j + 1):=by
   obtain ⟨hj,hx⟩:=Qc.mp h1
   rw [← hx,← List.drop_eq_getElem_cons hj,List.take_append_drop]
  have ex:(!(hK st).contains x)=true:=by simpa using h2
  refine ⟨X.flatMap (dlK (rowAt rows i) i)++(((rowAt rows i).take j).filter fun x=>!(hK st).contains x).map (fun x=>st++[(x,i)]),((((rowAt rows i).drop (j + 1)).filter fun x=>!(hK st).contains x).map (fun x=>st++[(x,i)])++[st])++Y.flatMap (dlK (rowAt rows i) i),?_,fun s hs=>?_⟩
  ·show (dls rows i).flatMap _=_
   rw [e,List.flatMap_append,Ju]
   have:dlK (rowAt rows i) i st=(((rowAt rows i).take j).filter fun x=>!(hK st).contains x).map (fun x=>st++[(x,i)])++(st++[(x,i)])::((((rowAt rows i).drop (j + 1)).filter fun x=>!(hK st).contains x).map (fun x=>st++[(x,i)])++[st]):=by
    unfold dlK
    conv=>lhs;rw [er]
    rw [Jx,Wl,if_pos ex,Qv,Ql]
    simp
   rw [this]
   simp
  ·rcases Qe.mp hs with hs | hs
   ·obtain ⟨s0,g0,g1⟩:=List.mem_flatMap.mp hs
    exact Z399 (hX s0 g0) g1
   ·obtain ⟨y,hy,rfl⟩:=Qk.mp hs
    obtain ⟨y1,y2⟩:=Ja.mp hy
    have y3:y∉hK st:=by simpa using y2
    rcases h3 y y1 with z | ⟨r',sm,hne⟩
    ·exact (y3 z).elim
    ·intro N M g1 _
     have l1:=sm.mx (Z385 O.kn y3) M g1
     have l2:=mx r' sm.M
     have l3:=O.len
     omega
 | @skip i h st R h1 h2 ih =>
  obtain ⟨X,Y,e,hX⟩:=ih
  refine ⟨X.flatMap (dlK (rowAt rows i) i),Y.flatMap (dlK (rowAt rows i) i),?_,fun s hs=>?_⟩
  ·show (dls rows i).flatMap _=_
   rw [e,List.flatMap_append,Ju]
   have:dlK (rowAt rows i) i st=[st]:=by
    unfold dlK
    have:((rowAt rows i).filter fun x=>!(hK st).contains x)=[]:=by
     rw [List.filter_eq_nil_iff]
     intro y hy
     simpa using h2 y hy
    rw [this];rfl
   rw [this]
   rfl
  ·obtain ⟨s0,g0,g1⟩:=List.mem_flatMap.mp hs
   exact Z399 (hX s0 g0) g1
noncomputable def fmH(o:Option Hd×Int)(s:Hd):Option Hd×Int:=if (s.length:Int) > o.2 then (some s,s.length) else o
theorem Z196:∀ {l:List Hd} {o:Option Hd×Int},(∀ s∈l,(s.length:Int)≤o.2)→l.foldl fmH o=o
 | [],_,_=>rfl
 | s::l,o,h=>by
  have h1:=h s Qs
  rw [Wb]
  have:fmH o s=o:=by unfold fmH;rw [if_neg (by omega)]
  rw [this]
  exact Z196 fun t ht=>h t (Qp _ ht)
theorem Z198{m:Int}:∀ {l:List Hd} {o:Option Hd×Int},o.2 < m→(∀ s∈l,(s.length:Int) < m)→(l.foldl fmH o).2 < m
 | [],_,h,_=>h
 | s::l,o,h,hl=>by
  rw [Wb]
  refine Z198 ?_ fun t ht=>hl t (Qp _ ht)
  unfold fmH
  split
  ·exact hl s Qs
  ·exact h
theorem Z199{rows:List (List Int)}{h0:Hd}(M0:Mat rows rows.length h0)(mx:∀ h',Mat rows rows.length h'→h'.length≤h0.length){h st:Hd}(R:Run rows h0 rows.length h st) :
  ((dls rows rows.length).foldl fmH (none,-1)).1=some st:=by
 obtain ⟨X,Y,e,hX⟩:=Z551 M0 mx R
 have hst:=Z552 M0 R
 have hm:∀ s,s∈X++st::Y→Mat rows rows.length s:=fun s hs=>Z102 (e ▸ hs)
 rw [e,List.foldl_append,Wb]
 have lo:=Z198 (m:=(h0.length:Int)) (l:=X) (o:=(none,-1)) (by show (-1:Int) < _;omega) fun s hs=>by
  have M:=hm s (Qi _ hs)
  have:=hX s hs s M (fun e he=>he) fun e he _=>he
  omega
 have e1:fmH (X.foldl fmH (none,-1)) st=(some st,(st.length:Int)):=if_pos (show (st.length:Int) > (X.foldl fmH (none,-1)).2 by omega)
 rw [e1,Z196 fun s hs=>by
  have:=mx s (hm s (Qf _ (Qp _ hs)))
  show (s.length:Int)≤(st.length:Int)
  omega]

theorem Z6{k:Nat}{s:Hd}(h:∀ e∈s,e.2 < k):ansL (k + 1) s=ansL k s++[.non]:=by
 have:∀ (l:List V),l.length=k→(∀ e∈s,e.2 < k)→s.foldl (fun l e=>l.set e.2 (V.int e.1)) (l++[.non])=s.foldl (fun l e=>l.set e.2 (V.int e.1)) l++[.non]:=by
  clear h
  induction s with
  | nil=>intro l _ _;rfl
  | cons e r ih =>
   intro l hl h
   rw [Wb,Wb,List.set_append_left _ _ (by rw [hl];exact h e Qs)]
   exact ih _ (by rw [List.length_set];exact hl) fun f hf=>h f (Qp _ hf)
 unfold ansL
 rw [List.replicate_succ']
 exact this _ (Jr ..) h
theorem Z10{k:Nat}{s:Hd}{x:Int}(h:∀ e∈s,e.2 < k):ansL (k + 1) (s++[(x,k)])=ansL k s++[.int x]:=by
 rw [Z3,Z6 h,List.set_append_right _ _ (by rw [Z7];exact Qu _),Z7,Nat.sub_self]
 rfl
theorem Z8{rows:List (List Int)}{k:Nat}{s:Hd}(M:Mat rows k s)(x:Int):inV (.int x) (ansL k s)=(hK s).contains x:=by
 have h1:V.int x∈ansL k s↔x∈hK s:=by
  constructor
  ·intro h
   obtain ⟨q,hq⟩:=Qz.mp h
   have hql:q < k:=by have:=(Qc.mp hq).1;rwa [Z7] at this
   by_cases hm:q∈hV s
   ·obtain ⟨e,he,rfl⟩:=Qk.mp hm
    rw [Z4 (n:=k) M.vn hql (show (e.1,e.2)∈s from he)] at hq
    cases hq
    exact Qk.mpr ⟨e,he,rfl⟩
   ·rw [Z9 hql hm] at hq;cases hq
  ·intro h
   obtain ⟨e,he,rfl⟩:=Qk.mp h
   exact Qg (Z4 (n:=k) M.vn (M.ed e he).1 (show (e.1,e.2)∈s from he))
 have ty:∀ v∈ansL k s,v=.non∨∃ y,v=.int y:=fun v hv=>by
  obtain ⟨q,hq⟩:=Qz.mp hv
  have hql:q < k:=by have:=(Qc.mp hq).1;rwa [Z7] at this
  by_cases hm:q∈hV s
  ·obtain ⟨e,he,rfl⟩:=Qk.mp hm
   rw [Z4 (n:=k) M.vn hql (show (e.1,e.2)∈s from he)] at hq
   cases hq
   exact .inr ⟨_,rfl⟩
  ·rw [Z9 hql hm] at hq;cases hq;exact .inl rfl
 have h2:inV (.int x) (ansL k s)=true↔V.int x∈ansL k s:=by
  unfold inV
  rw [List.any_eq_true]
  constructor
  ·rintro ⟨v,hv,e⟩
   rcases ty v hv with rfl | ⟨y,rfl⟩
   ·simp [eqV] at e
   ·have:y=x:=by simpa [eqV] using e
    exact this ▸ hv
  ·intro h
   exact ⟨_,h,by simp [eqV]⟩
 rw [Bool.eq_iff_iff,h2,h1]
 simp
theorem Z5{rows:List (List Int)}{k:Nat}{s:Hd}(M:Mat rows k s):atomsD ((ansL k s).map D.at)=some (ansL k s):=by
 have:∀ l:List V,(∀ v∈l,flatV v=true)→atomsD (l.map D.at)=some l:=by
  intro l
  induction l with
  | nil=>intro _;rfl
  | cons v r ih =>
   intro h
   rw [Ql,atomsD,if_pos (h v Qs),ih fun u hu=>h u (Qp _ hu)]
 refine this _ fun v hv=>?_
 obtain ⟨q,hq⟩:=Qz.mp hv
 have hql:q < k:=by have:=(Qc.mp hq).1;rwa [Z7] at this
 by_cases hm:q∈hV s
 ·obtain ⟨e,he,rfl⟩:=Qk.mp hm
  rw [Z4 (n:=k) M.vn hql (show (e.1,e.2)∈s from he)] at hq
  cases hq
  rfl
 ·rw [Z9 hql hm] at hq;cases hq;rfl
noncomputable abbrev ddD(ds:List (List V)):D:=.nd (.lst true) (ds.map asD)
noncomputable abbrev adS(rows:List (List Int))(made:List (List V))(y2 y3 y4 y5:DL):Sd:=[.bor 6 [],.own true (ddD made),y2,y3,y4,y5,.own false (rwD rows)]
theorem imA(l:List V):D.imms (l.map D.at)=true:=Z237 (fun _=>rfl) l
theorem Z85(ds:List (List V))(d:List V):ddD (ds++[d])=.nd (.lst true) (ds.map asD++[asD d]):=by
 show D.nd (.lst true) ((ds++[d]).map asD)=_
 rw [Qv];rfl
theorem Z15(l:List V)(v:V):asD (l++[v])=.nd (.lst true) (l.map D.at++[.at v]):=by
 show D.nd (.lst true) ((l++[v]).map D.at)=_
 rw [Qv];rfl
theorem v_ad1(rows:List (List Int))(made lo:List (List V))(i j:Nat)(one:List V)(x:Int)(b:Bool)(hj:made[j]?=some one)(ha:atomsD (one.map D.at)=some one)(hb:inV (.int x) one=b)(hz:lo.length < 16777216)(ho:one.length < 100) :
  Z319 K A (adS rows made (.bor 6 [i]) (.own true (ddD lo)) (.bor 1 [j]) (.own true (aI x))++[.bor 6 [],.bor 1 [],.bor 6 [i]]) =
   .nx (adS rows made (.bor 6 [i]) (.own true (ddD (if b then lo else lo++[one++[.int x]]))) (.bor 1 [j]) .non++[.bor 6 [],.bor 1 [],.bor 6 [i]]):=by
 have e1:(made.map asD)[j]?=some (asD one):=by rw [Qa,hj];rfl
 have im:=imA one
 have hz2:one.length + 1≤16777216:=by omega
 cases b with
 | true =>
  rw [if_pos rfl]
  unfold Z319
  walk_at "evs"
 | false =>
  rw [if_neg Qt]
  show _=SR.nx [.bor 6 [],.own true (ddD made),.bor 6 [i],.own true (ddD (lo++[one++[.int x]])),.bor 1 [j],.non,.own false (rwD rows),.bor 6 [],.bor 1 [],.bor 6 [i]]
  rw [Z85,Z15]
  unfold Z319
  walk_at "evs"
noncomputable abbrev mk1(k:Nat)(s:Hd)(x:Int):List V:=ansL k s++[.int x]
theorem v_ad2(rows:List (List Int))(made lo:List (List V))(i j:Nat)(hi:i < rows.length)(s:Hd)(M:Mat rows i s)(hj:made[j]?=some (ansL i s))(hz:lo.length + (rowAt rows i).length < 16777216)(h5:i < 50) :
  loopG (itP false 9 6 [i]) (asgD 5) (Z319 K A) ((rowAt rows i).length + 1) 0 (adS rows made (.bor 6 [i]) (.own true (ddD lo)) (.bor 1 [j]) .non++[.bor 6 [],.bor 1 [],.bor 6 [i]]) =
   .nx (adS rows made (.bor 6 [i]) (.own true (ddD (lo++((rowAt rows i).filter fun x=>!(hK s).contains x).map (mk1 i s)))) (.bor 1 [j]) .non++[.bor 6 [],.bor 1 [],.bor 6 [i]]):=by
 obtain ⟨s',lp,rfl⟩:=Z343 (t:=false) (n:=9) (k:=6) (p:=[i]) (l:=(rowAt rows i).map aI) (kd:=.lst true) (b:=asgD 5) (body:=Z319 K A) (s:=adS rows made (.bor 6 [i]) (.own true (ddD lo)) (.bor 1 [j]) .non++[.bor 6 [],.bor 1 [],.bor 6 [i]]) (.inl ⟨rfl,true,rfl⟩)
  (fun t st=>st=adS rows made (.bor 6 [i]) (.own true (ddD (lo++(((rowAt rows i).take t).filter fun x=>!(hK s).contains x).map (mk1 i s)))) (.bor 1 [j]) .non++[.bor 6 [],.bor 1 [],.bor 6 [i]]) (by simp)
  (by
   rintro t st rfl
   refine ⟨by simp [held,adS],?_⟩
   have e1:(rows.map nD)[i]?=some (nD (rowAt rows i)):=by
    rw [Qa,Qh hi];simp [rowAt,Jp,Qh hi]
   walk_at "evs")
  (by
   rintro t st c hc rfl
   rw [Qa] at hc
   cases ex:(rowAt rows i)[t]? with
   | none=>rw [ex] at hc;cases hc
   | some x =>
    rw [ex] at hc
    cases hc
    have tk:(rowAt rows i).take (t + 1)=(rowAt rows i).take t++[x]:=by rw [Jv,ex];rfl
    have l1:=Js (fun x=>!(hK s).contains x) ((rowAt rows i).take t)
    rw [Wi] at l1
    have e1:=v_ad1 (K:=K) (A:=A) rows made (lo++(((rowAt rows i).take t).filter fun x=>!(hK s).contains x).map (mk1 i s)) i j (ansL i s) x _ hj (Z5 M) (Z8 M x) (by rw [Qx,Qn];omega) (by rw [Z7];omega)
    refine ⟨_,_,rfl,.inl e1,?_⟩
    have e2:(lo++(((rowAt rows i).take (t + 1)).filter fun x=>!(hK s).contains x).map (mk1 i s))=(if (hK s).contains x then (lo++(((rowAt rows i).take t).filter fun x=>!(hK s).contains x).map (mk1 i s)) else (lo++(((rowAt rows i).take t).filter fun x=>!(hK s).contains x).map (mk1 i s))++[ansL i s++[.int x]]):=by
     rw [tk,Jx,Wl]
     cases (hK s).contains x <;> simp
    rw [e2])
 rw [Qn] at lp
 rw [lp,Jy]
theorem v_ad3(rows:List (List Int))(made lo lo':List (List V))(i j:Nat)(hi:i < rows.length)(B:SF)
  (lp:loopG (itP false 9 6 [i]) (asgD 5) B ((rowAt rows i).length + 1) 0 (adS rows made (.bor 6 [i]) (.own true (ddD lo)) (.bor 1 [j]) .non++[.bor 6 [],.bor 1 [],.bor 6 [i]])=.nx (adS rows made (.bor 6 [i]) (.own true (ddD lo')) (.bor 1 [j]) .non++[.bor 6 [],.bor 1 [],.bor 6 [i]])) :
  sForL (eVar 2) (asgD 5) B (adS rows made (.bor 6 [i]) (.own true (ddD lo)) (.bor 1 [j]) .non++[.bor 6 [],.bor 1 []])=.nx (adS rows made (.bor 6 [i]) (.own true (ddD lo')) (.bor 1 [j]) .non++[.bor 6 [],.bor 1 []]):=by
 have e1:(rows.map nD)[i]?=some (nD (rowAt rows i)):=by
  rw [Qa,Qh hi];simp [rowAt,Jp,Qh hi]
 clear hi
 simp only [adS,Jh,Je] at lp
 walk_at "evs"
theorem v_ad4(rows:List (List Int))(made lo:List (List V))(i j:Nat)(one:List V)(hj:made[j]?=some one)(hz:lo.length < 16777216)(ho:one.length < 100) :
  sE (eMu 0 hApp (aCons (eGuard isLst (eVar 3)) (aCons (eNw hCat (aCons (eVar 4) (aCons (eDisp (.lst true) (aCons (eC .non) aNil)) aNil))) aNil))) (adS rows made (.bor 6 [i]) (.own true (ddD lo)) (.bor 1 [j]) .non++[.bor 6 [],.bor 1 []]) =
   .nx (adS rows made (.bor 6 [i]) (.own true (ddD (lo++[one++[.non]]))) (.bor 1 [j]) .non++[.bor 6 [],.bor 1 []]):=by
 have e1:(made.map asD)[j]?=some (asD one):=by rw [Qa,hj];rfl
 have im:=imA one
 have hz2:one.length + 1≤16777216:=by omega
 show _=SR.nx [.bor 6 [],.own true (ddD made),.bor 6 [i],.own true (ddD (lo++[one++[.non]])),.bor 1 [j],.non,.own false (rwD rows),.bor 6 [],.bor 1 []]
 rw [Z85,Z15]
 walk_at "evs"
theorem v_ad5(rows:List (List Int))(made lo:List (List V))(i j:Nat)(B:SF)(s:Sd)(e:B s=.nx (adS rows made (.bor 6 [i]) (.own true (ddD lo)) (.bor 1 [j]) .non++[.bor 6 [],.bor 1 []])) :
  sKill [4,5] B s=.nx (adS rows made (.bor 6 [i]) (.own true (ddD lo)) .non .non++[.bor 6 [],.bor 1 []]):=by
 rw [Z153,e]
 rfl
theorem Z100{rows:List (List Int)}{i:Nat}{s:Hd}(M:Mat rows i s):(dlK (rowAt rows i) i s).map (ansL (i + 1))=((rowAt rows i).filter fun x=>!(hK s).contains x).map (mk1 i s)++[ansL i s++[.non]]:=by
 have h:∀ e∈s,e.2 < i:=fun e he=>(M.ed e he).1
 unfold dlK
 rw [Qv,Jk]
 have e1:(ansL (i + 1) ∘ fun x=>s++[(x,i)])=mk1 i s:=by
  funext x
  exact Z10 h
 rw [e1]
 simp [Z6 h]
theorem v_ad6(rows:List (List Int))(made lo:List (List V))(i j:Nat)(hi:i < rows.length)(s:Hd)(M:Mat rows i s)(hj:made[j]?=some (ansL i s))(hz:lo.length + (rowAt rows i).length < 16777216)(h5:i < 50) :
  Z320 K A (adS rows made (.bor 6 [i]) (.own true (ddD lo)) (.bor 1 [j]) .non++[.bor 6 [],.bor 1 []]) =
   .nx (adS rows made (.bor 6 [i]) (.own true (ddD (lo++(dlK (rowAt rows i) i s).map (ansL (i + 1))))) .non .non++[.bor 6 [],.bor 1 []]):=by
 have l1:=Js (fun x=>!(hK s).contains x) (rowAt rows i)
 have t1:=v_ad3 rows made lo _ i j hi _ (v_ad2 (K:=K) (A:=A) rows made lo i j hi s M hj hz h5)
 have t2:=v_ad4 rows made (lo++((rowAt rows i).filter fun x=>!(hK s).contains x).map (mk1 i s)) i j (ansL i s) hj (by rw [Qx,Qn];omega) (by rw [Z7];omega)
 rw [Z100 M,← Qq]
 unfold Z320
 refine v_ad5 rows made _ i j _ _ ?_
 rw [Z164,t1]
 dsimp only
 exact t2
theorem v_ad7(rows:List (List Int))(i:Nat)(hi:i < rows.length)(ds:List Hd)(hM:∀ s∈ds,Mat rows i s)(hr:(rowAt rows i).length≤4)(hz:ds.length < 100000)(h5:i < 50) :
  loopG (itP false 8 1 []) (asgD 4) (Z320 K A) (ds.length + 1) 0 (adS rows (ds.map (ansL i)) (.bor 6 [i]) (.own true (ddD [])) .non .non++[.bor 6 [],.bor 1 []]) =
   .nx (adS rows (ds.map (ansL i)) (.bor 6 [i]) (.own true (ddD ((ds.flatMap (dlK (rowAt rows i) i)).map (ansL (i + 1))))) .non .non++[.bor 6 [],.bor 1 []]):=by
 obtain ⟨s',lp,rfl⟩:=Z343 (t:=false) (n:=8) (k:=1) (p:=[]) (l:=(ds.map (ansL i)).map asD) (kd:=.lst true) (b:=asgD 4) (body:=Z320 K A) (s:=adS rows (ds.map (ansL i)) (.bor 6 [i]) (.own true (ddD [])) .non .non++[.bor 6 [],.bor 1 []]) (.inl ⟨rfl,true,rfl⟩)
  (fun j s=>s=adS rows (ds.map (ansL i)) (.bor 6 [i]) (.own true (ddD (((ds.take j).flatMap (dlK (rowAt rows i) i)).map (ansL (i + 1))))) .non .non++[.bor 6 [],.bor 1 []]) rfl
  (by rintro j s rfl;exact ⟨rfl,rfl⟩)
  (by
   rintro j s c hc rfl
   rw [Qa,Qa] at hc
   cases ex:ds[j]? with
   | none=>rw [ex] at hc;cases hc
   | some t =>
    rw [ex] at hc
    cases hc
    have hj:(ds.map (ansL i))[j]?=some (ansL i t):=by rw [Qa,ex];rfl
    have tk:ds.take (j + 1)=ds.take j++[t]:=by rw [Jv,ex];rfl
    have l1:=Z197 (f:=dlK (rowAt rows i) i) (w:=5) (l:=ds.take j) fun s _=>Z99 hr
    have l2:(ds.take j).length≤ds.length:=by rw [Wi];omega
    have e:=v_ad6 (K:=K) (A:=A) rows (ds.map (ansL i)) (((ds.take j).flatMap (dlK (rowAt rows i) i)).map (ansL (i + 1))) i j hi t (hM t (Qg ex)) hj (by rw [Qn];omega) h5
    refine ⟨_,_,rfl,.inl e,?_⟩
    rw [tk,List.flatMap_append,Qv]
    simp)
 rw [Qn,Qn] at lp
 rw [lp,Jy]
theorem v_ad8(rows:List (List Int))(made lo:List (List V))(i:Nat)(B:SF)
  (lp:loopG (itP false 8 1 []) (asgD 4) B (made.length + 1) 0 (adS rows made (.bor 6 [i]) (.own true (ddD [])) .non .non++[.bor 6 [],.bor 1 []])=.nx (adS rows made (.bor 6 [i]) (.own true (ddD lo)) .non .non++[.bor 6 [],.bor 1 []])) :
  sKill [2,3,4,5] (sSeq (sAsg (eDisp (.lst true) aNil) (asgD 3)) (sSeq (sForL (eVar 1) (asgD 4) B) (sMove 1 3))) (adS rows made (.bor 6 [i]) .non .non .non++[.bor 6 []])=.nx (adS rows lo .non .non .non .non++[.bor 6 []]):=by
 have lp':loopG (itP false 8 1 []) (asgD 4) B (made.length + 1) 0 [.bor 6 [],.own true (ddD made),.bor 6 [i],.own true (.nd (.lst true) []),.non,.non,.own false (rwD rows),.bor 6 [],.bor 1 []]=.nx [.bor 6 [],.own true (ddD made),.bor 6 [i],.own true (ddD lo),.non,.non,.own false (rwD rows),.bor 6 [],.bor 1 []]:=lp
 clear lp
 walk_at "evs"
theorem v_ad9(rows:List (List Int))(hr:∀ i,(rowAt rows i).length≤4)(hz:rows.length≤5) :
  loopG (itP false 7 6 []) (asgD 2) (Z321 K A) (rows.length + 1) 0 (adS rows [[]] .non .non .non .non++[.bor 6 []])=.nx (adS rows ((dls rows rows.length).map (ansL rows.length)) .non .non .non .non++[.bor 6 []]):=by
 obtain ⟨s',lp,_,rfl⟩:=Z343 (t:=false) (n:=7) (k:=6) (p:=[]) (l:=rows.map nD) (kd:=.lst true) (b:=asgD 2) (body:=Z321 K A) (s:=adS rows [[]] .non .non .non .non++[.bor 6 []]) (.inl ⟨rfl,true,rfl⟩)
  (fun i s=>i≤rows.length∧s=adS rows ((dls rows i).map (ansL i)) .non .non .non .non++[.bor 6 []]) ⟨Nat.zero_le _,rfl⟩
  (by rintro j s ⟨_,rfl⟩;exact ⟨rfl,rfl⟩)
  (by
   rintro i s c hc ⟨_,rfl⟩
   have hi:i < rows.length:=by simpa using (Qc.mp hc).1
   have hcc:c=nD rows[i]:=by
    rw [Qa,Qh hi] at hc
    exact (Option.some.inj hc).symm
   subst hcc
   have l1:=Z101 hr i
   have l2:5 ^ i≤5 ^ 5:=Nat.pow_le_pow_right (by decide) (by omega)
   have lp:=v_ad7 (K:=K) (A:=A) rows i hi (dls rows i) (fun s hs=>Z102 hs) (hr i) (by omega) (by omega)
   have e:=v_ad8 rows ((dls rows i).map (ansL i)) _ i (Z320 K A) (by rw [Qn];exact lp)
   have e':Z321 K A (adS rows ((dls rows i).map (ansL i)) (.bor 6 [i]) .non .non .non++[.bor 6 []])=.nx (adS rows ((dls rows (i + 1)).map (ansL (i + 1))) .non .non .non .non++[.bor 6 []]):=by
    unfold Z321
    exact e
   exact ⟨adS rows ((dls rows i).map (ansL i)) (.bor 6 [i]) .non .non .non++[.bor 6 []],_,rfl,.inl e',by omega,rfl⟩)
 rw [Qn] at lp
 exact lp
theorem v_adA(rows:List (List Int))(ds:List (List V))(B:SF)
  (lp:loopG (itP false 7 6 []) (asgD 2) B (rows.length + 1) 0 (adS rows [[]] .non .non .non .non++[.bor 6 []])=.nx (adS rows ds .non .non .non .non++[.bor 6 []])) :
  runDef 6 [false] (sSeq (sAsg (eDisp (.lst true) (aCons (eDisp (.lst true) aNil) aNil)) (asgD 1)) (sSeq (sForL (eVar 0) (asgD 2) B) (sRet (eVar 1)))) [rwD rows]=.ok (.val (ddD ds)) [rwD rows]:=by
 have lp':loopG (itP false 7 6 []) (asgD 2) B (rows.length + 1) 0 [.bor 6 [],.own true (.nd (.lst true) [.nd (.lst true) []]),.non,.non,.non,.non,.own false (rwD rows),.bor 6 []]=.nx [.bor 6 [],.own true (ddD ds),.non,.non,.non,.non,.own false (rwD rows),.bor 6 []]:=lp
 clear lp
 walk_at "evs"
theorem v_all(rows:List (List Int))(hr:∀ i,(rowAt rows i).length≤4)(hz:rows.length≤5):Z174 K A [rwD rows]=.ok (.val (ddD ((dls rows rows.length).map (ansL rows.length)))) [rwD rows]:=by
 unfold Z174 Z26
 exact v_adA rows _ _ (v_ad9 rows hr hz)
noncomputable def isNon:V→Bool
 | .non=>true | _=>false
theorem Z63:∀ (st:Hd) (l:List V),(hV st).Nodup→(∀ e∈st,l[e.2]?=some .non)→(st.foldl (fun l e=>l.set e.2 (V.int e.1)) l).countP isNon + st.length=l.countP isNon
 | [],l,_,_=>rfl
 | e::r,l,hn,h=>by
  have hn':=Ji.mp hn
  have he:=h e Qs
  obtain ⟨hl,hv⟩:=Qc.mp he
  have ih:=Z63 r (l.set e.2 (V.int e.1)) hn'.2 fun f hf=>by
   have ne:e.2≠f.2:=fun z=>hn'.1 (by show e.2∈r.map (·.2);rw [z];exact Qk.mpr ⟨f,hf,rfl⟩)
   rw [Wd ne]
   exact h f (Qp _ hf)
  rw [Wb,Jq]
  have c1:(l.set e.2 (V.int e.1)).countP isNon + 1=l.countP isNon:=by
   have p1:0 < l.countP isNon:=List.countP_pos_iff.mpr ⟨.non,Qg he,rfl⟩
   rw [List.countP_set hl,hv]
   simp only [isNon,if_true,We,if_false]
   omega
  omega
theorem Z11{n:Nat}{st:Hd}(hn:(hV st).Nodup)(hl:∀ e∈st,e.2 < n):((ansL n st).filter fun v=>!isNon v).length=st.length:=by
 have:=Z63 st (List.replicate n .non) hn fun e he=>by rw [Wr,if_pos (hl e he)]
 have h1:(ansL n st).countP isNon + st.length=n:=by
  unfold ansL
  rw [this,List.countP_replicate]
  rfl
 have h2:=Z338 isNon (ansL n st)
 rw [Z7,← List.countP_eq_length_filter (p:=isNon)] at h2
 omega
theorem Z12{rows:List (List Int)}{k:Nat}{s:Hd}(M:Mat rows k s):∀ v∈ansL k s,v=.non∨∃ y,v=.int y:=fun v hv=>by
 obtain ⟨q,hq⟩:=Qz.mp hv
 have hql:q < k:=by have:=(Qc.mp hq).1;rwa [Z7] at this
 by_cases hm:q∈hV s
 ·obtain ⟨e,he,rfl⟩:=Qk.mp hm
  rw [Z4 (n:=k) M.vn hql (show (e.1,e.2)∈s from he)] at hq
  cases hq
  exact .inr ⟨_,rfl⟩
 ·rw [Z9 hql hm] at hq;cases hq;exact .inl rfl
noncomputable abbrev duS(rows:List (List Int))(best:D)(most:Int)(y3 y4:DL)(l:List D):Sd:=[.bor 5 [],.own true best,.own true (aI most),y3,y4,.own false (rwD rows),.own true (.nd (.lst true) l)]
noncomputable abbrev duT(n1:Nat):BF:=(bV (eNw (hIsN true) (aCons (eVar n1) (aCons (eC .non) aNil))))
theorem v_du1(rows:List (List Int))(best:D)(most:Int)(l:List D)(j:Nat)(v:V)(hv:v=.non∨∃ x,v=.int x) :
  duT 8 (duS rows best most (.bor 6 [j]) .non l++[.bor 6 [j],.own true (.at v)])=.ok (!isNon v) (duS rows best most (.bor 6 [j]) .non l++[.bor 6 [j],.own true (.at v)]):=by
 rcases hv with rfl | ⟨x,rfl⟩
 ·rfl
 ·rfl
theorem v_du2(rows:List (List Int))(best:D)(most:Int)(l:List D)(j:Nat)(one:List V)(hj:l[j]?=some (asD one))(ho:∀ v∈one,v=.non∨∃ x,v=.int x)(hz:one.length < 1000) :
  eCompL (eVar 3) (fun n1=>duT n1) (fun n1=>(eVar n1)) (duS rows best most (.bor 6 [j]) .non l)=.ok (.val (asD (one.filter fun v=>!isNon v))) (duS rows best most (.bor 6 [j]) .non l):=by
 have it:∀ t y,itP false 7 6 [j] t (duS rows best most (.bor 6 [j]) .non l++[.bor 6 [j],y])=some (((one.map D.at)[t]?).map (mkV 6 ([j]++[t]))):=fun t y=>by
  unfold itP
  have h1:held 7 6 [j] (duS rows best most (.bor 6 [j]) .non l++[.bor 6 [j],y])=true:=by simp [held,duS]
  have h2:dref (duS rows best most (.bor 6 [j]) .non l++[.bor 6 [j],y]) (.plc 6 [j])=some (asD one):=by
   show (D.get [j] (.nd (.lst true) l))=_
   unfold D.get
   rw [hj]
   rfl
  rw [if_pos h1,h2]
 obtain ⟨acc,s',h1,y,hy,rfl,rfl⟩:=Z68 (it:=itP false 7 6 [j]) (n:=8) (c:=duT 8) (e:=eVar 8) (N:=one.length)
  (P:=fun t acc s=>∃ y,(y=.non∨∃ v,y=.own true (.at v))∧acc=((one.take t).filter fun v=>!isNon v).map D.at∧s=duS rows best most (.bor 6 [j]) .non l++[.bor 6 [j],y])
  (by
   rintro t acc s ht ⟨y,hy,rfl,rfl⟩
   have hr:one[t]?=some one[t]:=Qh ht
   generalize one[t]=v at hr
   have e0:=v_du1 rows best most l j v (ho v (Qg hr))
   have e1:eVar 8 (duS rows best most (.bor 6 [j]) .non l++[.bor 6 [j],.own true (.at v)])=.ok (.val (.at v)) (duS rows best most (.bor 6 [j]) .non l++[.bor 6 [j],.own true (.at v)]):=rfl
   have e2:itP false 7 6 [j] t (duS rows best most (.bor 6 [j]) .non l++[.bor 6 [j],y])=some (some (.val (.at v))):=by rw [it,Qa,hr];rfl
   have e3:asgD 8 (duS rows best most (.bor 6 [j]) .non l++[.bor 6 [j],y]) (.val (.at v))=some (duS rows best most (.bor 6 [j]) .non l++[.bor 6 [j],.own true (.at v)]):=by rcases hy with rfl | ⟨x,rfl⟩ <;> rfl
   have tk:one.take (t + 1)=one.take t++[v]:=by rw [Jv,hr];rfl
   cases hb:!isNon v with
   | true =>
    rw [hb] at e0
    refine ⟨_,_,e2,e3,.inl ⟨_,_,_,e0,e1,?_,_,.inr ⟨_,rfl⟩,?_,rfl⟩⟩
    ·have:=Js (fun v=>!isNon v) (one.take t)
     rw [Wi] at this
     rw [Qn,sz];omega
    ·rw [tk,Jx,Qv,Wl,hb];rfl
   | false =>
    rw [hb] at e0
    refine ⟨_,_,e2,e3,.inr ⟨_,e0,_,.inr ⟨_,rfl⟩,?_,rfl⟩⟩
    rw [tk,Jx,Wl,hb];simp)
  (by
   rintro acc s ⟨y,hy,rfl,rfl⟩
   rw [it,Qa,Jm (Qu _)];rfl)
  one.length 0 [] (duS rows best most (.bor 6 [j]) .non l++[.bor 6 [j],.non]) (by omega) ⟨.non,.inl rfl,rfl,rfl⟩
 rw [Jy] at h1
 have u1:unrootD 8 y=y:=by rcases hy with rfl | ⟨n,rfl⟩ <;> rfl
 have u2:unrootD 7 y=y:=by rcases hy with rfl | ⟨n,rfl⟩ <;> rfl
 clear hy hz ho it
 show _=ER.ok (DV.val (D.nd (.lst true) ((one.filter fun v=>!isNon v).map D.at))) (duS rows best most (.bor 6 [j]) .non l)
 generalize (one.filter fun v=>!isNon v).map D.at=M at *
 generalize duT=G at *
 simp only [duS,Jh,Je] at h1
 walk_at "evs"
theorem v_du3(rows:List (List Int))(best:D)(most:Int)(l:List D)(j:Nat)(M:List V)(G:EF)(e:G (duS rows best most (.bor 6 [j]) .non l)=.ok (.val (asD M)) (duS rows best most (.bor 6 [j]) .non l)) :
  sAsg (eNw (hLen K) (aCons G aNil)) (asgD 4) (duS rows best most (.bor 6 [j]) .non l)=.nx (duS rows best most (.bor 6 [j]) (.own true (aI M.length)) l):=by
 walk_at "evs"
noncomputable abbrev duI:SF:=(sIf (bV (eNw hGt (aCons (eVar 4) (aCons (eVar 2) aNil)))) (sSeq (sAsg (eVar 4) (asgD 2)) (sMove 1 3)) sPass)
theorem v_du4(rows:List (List Int))(best:D)(most c:Int)(l:List D)(j:Nat)(one:List V)(hj:l[j]?=some (asD one))(hc:c > most) :
  duI (duS rows best most (.bor 6 [j]) (.own true (aI c)) l)=.nx (duS rows (asD one) c (.bor 1 []) (.own true (aI c)) (l.set j hole)):=by
 walk_at "evs"
theorem v_du5(rows:List (List Int))(best:D)(most c:Int)(l:List D)(j:Nat)(hc:¬ c > most) :
  duI (duS rows best most (.bor 6 [j]) (.own true (aI c)) l)=.nx (duS rows best most (.bor 6 [j]) (.own true (aI c)) l):=by
 walk_at "evs"
theorem v_du6(rows:List (List Int))(best:D)(most c:Int)(l:List D)(y3:DL)(B:SF)(s:Sd)(e:B s=.nx (duS rows best most y3 (.own true (aI c)) l)):sKill [3,4] B s=.nx (duS rows best most .non .non l):=by
 rw [Z153,e]
 rfl
noncomputable def bestD(n:Nat):Option Hd→D
 | none=>.nd (.lst true) []
 | some s=>asD (ansL n s)
theorem v_du7(rows:List (List Int))(o:Option Hd×Int)(l:List D)(j:Nat)(s:Hd)(M:Mat rows rows.length s)(hz:rows.length≤20)(hj:l[j]?=some (asD (ansL rows.length s))) :
  ∃ l',l'.length=l.length∧(∀ t,j < t→l'[t]?=l[t]?)∧Z323 K A (duS rows (bestD rows.length o.1) o.2 (.bor 6 [j]) .non l)=.nx (duS rows (bestD rows.length (fmH o s).1) (fmH o s).2 .non .non l'):=by
 have t1:=v_du2 rows (bestD rows.length o.1) o.2 l j _ hj (Z12 M) (by rw [Z7];omega)
 have t2:=v_du3 (K:=K) rows (bestD rows.length o.1) o.2 l j _ _ t1
 rw [Z11 M.vn fun e he=>(M.ed e he).1] at t2
 by_cases hc:(s.length:Int) > o.2
 ·have t3:=v_du4 rows (bestD rows.length o.1) o.2 s.length l j _ hj hc
  have e:fmH o s=(some s,(s.length:Int)):=if_pos hc
  rw [e]
  refine ⟨l.set j hole,List.length_set,fun t ht=>Wd (by omega),?_⟩
  unfold Z323
  refine v_du6 rows (asD (ansL rows.length s)) s.length s.length _ (.bor 1 []) _ _ ?_
  rw [Z164,t2]
  exact t3
 ·have t3:=v_du5 rows (bestD rows.length o.1) o.2 s.length l j hc
  have e:fmH o s=o:=if_neg hc
  rw [e]
  refine ⟨l,rfl,fun t _=>rfl,?_⟩
  unfold Z323
  refine v_du6 rows (bestD rows.length o.1) o.2 s.length _ (.bor 6 [j]) _ _ ?_
  rw [Z164,t2]
  exact t3
theorem v_du8(rows:List (List Int))(ds:List Hd)(hM:∀ s∈ds,Mat rows rows.length s)(hz:rows.length≤20) :
  ∃ l',loopG (itP false 6 6 []) (asgD 3) (Z323 K A) (ds.length + 1) 0 (duS rows (bestD rows.length none) (-1) .non .non ((ds.map (ansL rows.length)).map asD)) =
   .nx (duS rows (bestD rows.length (ds.foldl fmH (none,-1)).1) (ds.foldl fmH (none,-1)).2 .non .non l'):=by
 obtain ⟨s',lp,l',o,rfl,rfl,_⟩:=Z347 (it:=itP false 6 6 []) (b:=asgD 3) (body:=Z323 K A) (n:=ds.length)
  (P:=fun i s=>∃ (l:List D) (o:Option Hd×Int),o=(ds.take i).foldl fmH (none,-1)∧s=duS rows (bestD rows.length o.1) o.2 .non .non l∧l.length=ds.length∧∀ j,i≤j→l[j]?=((ds.map (ansL rows.length)).map asD)[j]?)
  (by
   rintro i s hi ⟨l,o,rfl,rfl,hl,hj⟩
   have ex:ds[i]?=some ds[i]:=Qh hi
   generalize ds[i]=t at ex
   have hli:l[i]?=some (asD (ansL rows.length t)):=by rw [hj i (Qu _),Qa,Qa,ex];rfl
   obtain ⟨l',g1,g2,g3⟩:=v_du7 (K:=K) (A:=A) rows ((ds.take i).foldl fmH (none,-1)) l i t (hM t (Qg ex)) hz hli
   refine ⟨.plc 6 [i],duS rows (bestD rows.length ((ds.take i).foldl fmH (none,-1)).1) ((ds.take i).foldl fmH (none,-1)).2 (.bor 6 [i]) .non l,_,?_,rfl,.inl g3,l',_,?_,rfl,by omega,fun j hij=>?_⟩
   ·show some ((l[i]?).map (mkV 6 ([]++[i])))=_
    rw [hli];rfl
   ·rw [Jv,ex,Option.toList_some,List.foldl_append];rfl
   ·rw [g2 j (by omega),hj j (by omega)])
  (by
   rintro s ⟨l,o,rfl,rfl,hl,hj⟩
   show some ((l[ds.length]?).map (mkV 6 ([]++[ds.length])))=_
   rw [Jm (by omega)];rfl)
  ds.length 0 (duS rows (bestD rows.length none) (-1) .non .non ((ds.map (ansL rows.length)).map asD)) (by omega) ⟨_,_,rfl,rfl,by simp,fun j _=>rfl⟩
 rw [Jy] at lp
 exact ⟨l',lp⟩
theorem v_du9(rows:List (List Int))(ds:List (List V))(best:List V)(m:Int)(l':List D)(F:Fn)(B:SF)(e:F [rwD rows]=.ok (.val (ddD ds)) [rwD rows])
  (lp:loopG (itP false 6 6 []) (asgD 3) B (ds.length + 1) 0 (duS rows (.nd (.lst true) []) (-1) .non .non (ds.map asD))=.nx (duS rows (asD best) m .non .non l')) :
  runDef 5 [false] (sSeq (sAsg (eDisp (.lst true) aNil) (asgD 1)) (sSeq (sAsg (eNw hNeg (aCons (eC (.int (1))) aNil)) (asgD 2)) (sSeq (sForL (eCall [false] F (aCons (eVar 0) aNil)) (asgD 3) B) (sRet (eVar 1))))) [rwD rows]=.ok (.val (asD best)) [rwD rows]:=by
 simp only [duS] at lp
 walk_at "evs"
theorem v_due(rows:List (List Int))(st:Hd)(hr:∀ i,(rowAt rows i).length≤4)(hz:rows.length≤5)(hf:((dls rows rows.length).foldl fmH (none,-1)).1=some st):Z178 K A [rwD rows]=.ok (.val (asD (ansL rows.length st))) [rwD rows]:=by
 obtain ⟨l',lp⟩:=v_du8 (K:=K) (A:=A) rows (dls rows rows.length) (fun s hs=>Z102 hs) (by omega)
 rw [hf] at lp
 unfold Z178 Z30
 refine v_du9 rows ((dls rows rows.length).map (ansL rows.length)) _ ((dls rows rows.length).foldl fmH (none,-1)).2 l' _ _ (v_all rows hr hz) ?_
 rw [Qn]
 exact lp
noncomputable abbrev lwS(k:NK)(ns:List Int)(y1 y2 y3 y4 y5:DL):Sd:=[.own true (scD k ns),y1,y2,y3,y4,y5,.non]
noncomputable abbrev cpE(n1:Nat):EF:=(eNw hList (aCons (eVar n1) aNil))
theorem v_lw1(k:NK)(hk:Scr K k)(ns:List Int)(i:Int)(rows:List (List Int))(e:Z177 K A [scD k ns,aI (1 + 7 * i),aI 5,aI 4]=.ok (.val (rwD rows)) [scD k ns,aI (1 + 7 * i),aI 5,aI 4]) :
  sAsg (eCall [false,false,false,false] (Z177 K A) (aCons (eVar 0) (aCons (eNw hAddI (aCons (eC (.int (1))) (aCons (eNw hMul (aCons (eC (.int (7))) (aCons (eVar 1) aNil))) aNil))) (aCons (eC (.int (5))) (aCons (eC (.int (4))) aNil))))) (asgD 2) (lwS k ns (.own true (aI i)) .non .non .non .non) =
   .nx (lwS k ns (.own true (aI i)) (.own true (rwD rows)) .non .non .non):=by
 have hki:=Z593 hk ns
 generalize Z177 K A=F at *
 walk_at "evs"
theorem v_lwc(k:NK)(ns:List Int)(i:Int)(rows:List (List Int))(j:Nat)(row:List Int)(hj:rows[j]?=some row) :
  cpE 8 (lwS k ns (.own true (aI i)) (.own true (rwD rows)) .non .non .non++[.bor 2 [],.bor 2 [j]])=.ok (.val (nD row)) (lwS k ns (.own true (aI i)) (.own true (rwD rows)) .non .non .non++[.bor 2 [],.bor 2 [j]]):=by
 have e1:(rows.map nD)[j]?=some (nD row):=by rw [Qa,hj];rfl
 have im:=imI row
 walk_at "evs"
theorem v_lw2(k:NK)(hk:Scr K k)(ns:List Int)(i:Int)(rows:List (List Int))(hz:rows.length < 1000) :
  sAsg (eCompL (eVar 2) (fun _=>bYes) (fun n1=>cpE n1)) (asgD 3) (lwS k ns (.own true (aI i)) (.own true (rwD rows)) .non .non .non)=.nx (lwS k ns (.own true (aI i)) (.own true (rwD rows)) (.own true (rwD rows)) .non .non):=by
 have hki:=Z593 hk ns
 have it:∀ j y,itP false 7 2 [] j (lwS k ns (.own true (aI i)) (.own true (rwD rows)) .non .non .non++[.bor 2 [],y])=some (((rows.map nD)[j]?).map (mkV 2 ([]++[j]))):=fun j y=>rfl
 obtain ⟨acc,s',h1,y,hy,rfl,rfl⟩:=Z68 (it:=itP false 7 2 []) (n:=8) (c:=bYes) (e:=cpE 8) (N:=rows.length)
  (P:=fun j acc s=>∃ y,(y=.non∨∃ i,y=.bor 2 [i])∧acc=(rows.take j).map nD∧s=lwS k ns (.own true (aI i)) (.own true (rwD rows)) .non .non .non++[.bor 2 [],y])
  (by
   rintro j acc s hj ⟨y,hy,rfl,rfl⟩
   have hr:rows[j]?=some rows[j]:=Qh hj
   have e1:=v_lwc k ns i rows j _ hr
   have e0:bYes (lwS k ns (.own true (aI i)) (.own true (rwD rows)) .non .non .non++[.bor 2 [],.bor 2 [j]])=.ok true (lwS k ns (.own true (aI i)) (.own true (rwD rows)) .non .non .non++[.bor 2 [],.bor 2 [j]]):=rfl
   have e2:itP false 7 2 [] j (lwS k ns (.own true (aI i)) (.own true (rwD rows)) .non .non .non++[.bor 2 [],y])=some (some (.plc 2 [j])):=by rw [it,Qa,hr];rfl
   have e3:asgD 8 (lwS k ns (.own true (aI i)) (.own true (rwD rows)) .non .non .non++[.bor 2 [],y]) (.plc 2 [j])=some (lwS k ns (.own true (aI i)) (.own true (rwD rows)) .non .non .non++[.bor 2 [],.bor 2 [j]]):=by rcases hy with rfl | ⟨x,rfl⟩ <;> rfl
   refine ⟨_,_,e2,e3,.inl ⟨_,_,_,e0,e1,?_,_,.inr ⟨_,rfl⟩,?_,rfl⟩⟩
   ·rw [Qn,Wi,sz];omega
   ·rw [Jv,hr,Option.toList_some,Qv];rfl)
  (by
   rintro acc s ⟨y,hy,rfl,rfl⟩
   rw [it,Qa,Jm (Qu _)];rfl)
  rows.length 0 [] (lwS k ns (.own true (aI i)) (.own true (rwD rows)) .non .non .non++[.bor 2 [],.non]) (by omega) ⟨.non,.inl rfl,rfl,rfl⟩
 rw [Jy] at h1
 have u1:unrootD 8 y=y:=by rcases hy with rfl | ⟨n,rfl⟩ <;> rfl
 have u2:unrootD 7 y=y:=by rcases hy with rfl | ⟨n,rfl⟩ <;> rfl
 clear hy hz
 generalize cpE=G at *
 simp only [lwS,Jh,Je] at h1
 walk_at "evs"
theorem v_lw3(k:NK)(ns:List Int)(i:Int)(rows:List (List Int))(L:List V)(F:Fn)(e:F [rwD rows]=.ok (.val (asD L)) [rwD rows]) :
  sAsg (eCall [false] F (aCons (eVar 3) aNil)) (asgD 4) (lwS k ns (.own true (aI i)) (.own true (rwD rows)) (.own true (rwD rows)) .non .non)=.nx (lwS k ns (.own true (aI i)) (.own true (rwD rows)) (.own true (rwD rows)) (.own true (asD L)) .non):=by
 walk_at "evs"
theorem v_lw4(k:NK)(ns:List Int)(i:Int)(rows:List (List Int))(L:List V)(F:Fn)(e:F [rwD rows]=.ok (.val (asD L)) [rwD rows]) :
  sAsg (eCall [false] F (aCons (eVar 2) aNil)) (asgD 5) (lwS k ns (.own true (aI i)) (.own true (rwD rows)) (.own true (rwD rows)) (.own true (asD L)) .non)=.nx (lwS k ns (.own true (aI i)) (.own true (rwD rows)) (.own true (rwD rows)) (.own true (asD L)) (.own true (asD L))):=by
 walk_at "evs"
theorem v_lw5(k:NK)(ns:List Int)(i:Int)(rows:List (List Int))(L:List V)(F:Fn)(B:SF)(e1:F [rwD rows,rwD rows]=.ok (.val bT) [rwD rows,rwD rows])(e2:F [asD L,asD L]=.ok (.val bT) [asD L,asD L]) :
  sIf (bOr (bNot (bV (eCall [false,false] F (aCons (eVar 3) (aCons (eVar 2) aNil))))) (bNot (bV (eCall [false,false] F (aCons (eVar 4) (aCons (eVar 5) aNil)))))) B sPass (lwS k ns (.own true (aI i)) (.own true (rwD rows)) (.own true (rwD rows)) (.own true (asD L)) (.own true (asD L))) =
   .nx (lwS k ns (.own true (aI i)) (.own true (rwD rows)) (.own true (rwD rows)) (.own true (asD L)) (.own true (asD L))):=by
 walk_at "evs"
theorem v_lw6(k:NK)(ns:List Int)(i:Int)(rows:List (List Int))(L:List V)(hz:L.length < 1000) :
  sE (eMu 0 hApp (aCons (eGuard isLst (eVar 4)) (aCons (eC (.int (7))) aNil))) (lwS k ns (.own true (aI i)) (.own true (rwD rows)) (.own true (rwD rows)) (.own true (asD L)) (.own true (asD L))) =
   .nx (lwS k ns (.own true (aI i)) (.own true (rwD rows)) (.own true (rwD rows)) (.own true (asD (L++[.int 7]))) (.own true (asD L))):=by
 have hz2:L.length < 16777216:=by omega
 rw [Z15]
 walk_at "evs"
theorem v_lw7(k:NK)(ns:List Int)(i:Int)(rows:List (List Int))(L L':List V)(F G:Fn)(e1:G [rwD rows]=.ok (.val (asD L)) [rwD rows])(e2:F [asD L,asD L]=.ok (.val bT) [asD L,asD L]) :
  sIf (bNot (bV (eCall [false,false] F (aCons (eCall [false] G (aCons (eVar 3) aNil)) (aCons (eVar 5) aNil))))) (sRet (eC (.bl false))) sPass (lwS k ns (.own true (aI i)) (.own true (rwD rows)) (.own true (rwD rows)) (.own true (asD L')) (.own true (asD L))) =
   .nx (lwS k ns (.own true (aI i)) (.own true (rwD rows)) (.own true (rwD rows)) (.own true (asD L')) (.own true (asD L))):=by
 walk_at "evs"
theorem v_lwK(k:NK)(ns:List Int)(d1 d2 d3 d4 d5:D)(B:SF)(s:Sd)(e:B s=.nx (lwS k ns (.own true d1) (.own true d2) (.own true d3) (.own true d4) (.own true d5))):sKill [1,2,3,4,5] B s=.nx (lwS k ns .non .non .non .non .non):=by
 rw [Z153,e]
 rfl
theorem Z109(rows:List (List Int))(h8:rows.length≤5)(hr:∀ r∈rows,r.length≤4):DtN 3 (rwD rows) :=
 Z107 (by rw [Qn,sz];omega) fun x hx=>by
  obtain ⟨r,h1,rfl⟩:=Qk.mp hx
  have:=hr r h1
  exact Z107 (by rw [Qn,sz];omega) fun y hy=>by
   obtain ⟨z,_,rfl⟩:=Qk.mp hy
   exact Z106
theorem Z669(k:NK)(hk:Scr K k)(ns:List Int)(i:Int)(h0:0≤i):Z328 K A (lwS k ns (.own true (aI i)) .non .non .non .non)=.nx (lwS k ns .non .non .non .non .non):=by
 obtain ⟨rows,h8,hr,e1⟩:=Z654 (K:=K) (A:=A) k hk ns (1 + 7 * i) (by omega)
 have hrow:∀ j,(rowAt rows j).length≤4:=fun j=>by
  show (rows.getD j []).length≤4
  rw [Jp]
  cases ej:rows[j]? with
  | none=>simp
  | some r=>have:=hr r (Qg ej);simp;omega
 obtain ⟨g0,S,M0,hS,e0⟩:=v_sm0 (K:=K) (A:=A) rows (by omega)
 obtain ⟨h,st,R,e2⟩:=Z666 (K:=K) (A:=A) rows (by omega) g0 M0 (Z75 hS) e0
 have O:=Z554 M0 R
 have e3:=v_due (K:=K) (A:=A) rows st hrow h8 (Z199 M0 (Z75 hS) R)
 have Ms:Mat rows rows.length st:=⟨O.kn,O.vn,fun e he=>O.M.ed e (O.sub e he)⟩
 have s1:=Z664 (A:=A) (Z109 rows h8 hr)
 have s2:=Z664 (A:=A) (a:=asD (ansL rows.length st)) (Z107 (by rw [Qn,Z7,sz];omega) fun x hx=>by
  obtain ⟨v,hv,rfl⟩:=Qk.mp hx
  rcases Z12 Ms v hv with rfl | ⟨y,rfl⟩
  ·exact Z108
  ·exact Z106)
 have t1:=v_lw1 (A:=A) k hk ns i rows e1
 have t2:=v_lw2 k hk ns i rows (by omega)
 have t3:=v_lw3 k ns i rows _ _ e2
 have t4:=v_lw4 k ns i rows _ _ e3
 have t5:=v_lw5 k ns i rows _ _ (Z625 K A) s1 s2
 have t6:=v_lw6 k ns i rows (ansL rows.length st) (by rw [Z7];omega)
 have t7:=v_lw7 k ns i rows _ (ansL rows.length st++[.int 7]) _ _ e2 s2
 clear e1 e2 e3 s1 s2 e0
 unfold Z328 Z622 Z623 Z624 Z626
 refine v_lwK k ns _ _ _ _ _ _ _ (?_:_=SR.nx (lwS k ns (.own true (aI i)) (.own true (rwD rows)) (.own true (rwD rows)) (.own true (asD (ansL rows.length st++[.int 7]))) (.own true (asD (ansL rows.length st)))))
 rw [Z164,t1]
 dsimp only
 rw [Z164,t2]
 dsimp only
 rw [Z164,t3]
 dsimp only
 rw [Z164,t4]
 dsimp only
 rw [Z164,t5]
 dsimp only
 rw [Z164,t6]
 dsimp only
 exact t7
theorem v_law(k:NK)(ns:List Int)(hk:Scr K k)(hl:ns.length≤63):∃ ds,f_law K A [scD k ns]=.ok (.val (.at (.bl true))) ds:=by
 obtain ⟨s',lp,rfl⟩:=Z345 (lo:=0) (n:=6) (b:=asgD 1) (body:=Z328 K A) (s:=lwS k ns .non .non .non .non .non)
  (fun j s=>s=lwS k ns .non .non .non .non .non) rfl (by
  rintro j s hj rfl
  exact ⟨lwS k ns (.own true (aI (0 + j))) .non .non .non .non,_,rfl,.inl (Z669 k hk ns (0 + j) (by omega)),rfl⟩)
 have hki:=Z593 hk ns
 refine ⟨[scD k ns],?_⟩
 clear hl hk
 simp only [lwS] at lp
 unfold f_law b_law
 generalize Z328 K A=B at *
 walk_at "evs"
end Pf
namespace Pf
open PySem PySem.Spec PyProof.Rows L2 RM
theorem Z637{K:Qd}{h:Heap}{mg:Str→Option Value}(X:K.In h)(G:h.Ns mainGlobals mg)
    (z_all:PySem.W.nsIn K mainGlobals "all"=some none)
    (z_bool:PySem.W.nsIn K mainGlobals "bool"=some none)
    (z_dict:PySem.W.nsIn K mainGlobals "dict"=some none)
    (z_int:PySem.W.nsIn K mainGlobals "int"=some none)
    (z_isinstance:PySem.W.nsIn K mainGlobals "isinstance"=some none)
    (z_len:PySem.W.nsIn K mainGlobals "len"=some none)
    (z_list:PySem.W.nsIn K mainGlobals "list"=some none)
    (z_max:PySem.W.nsIn K mainGlobals "max"=some none)
    (z_min:PySem.W.nsIn K mainGlobals "min"=some none)
    (z_range:PySem.W.nsIn K mainGlobals "range"=some none)
    (z_str:PySem.W.nsIn K mainGlobals "str"=some none)
    (z_tuple:PySem.W.nsIn K mainGlobals "tuple"=some none)
    {Z183:Addr} {od_find_number an_find_number:Option Addr} {sl_find_number:Array (Option Value)} {oc_find_number kV_find_number dc_find_number pm_find_number cd_find_number ct_find_number:Value} (a_find_number:PySem.W.nsIn K mainGlobals "find_number"=some (some (.ref Z183))) (l_find_number:K.lookup Z183=some ⟨oc_find_number,od_find_number,.func (PySem.W.fnOf "find_number" "find_number" (defArgs Z569) (defBody Z569) (defScope Z569) .none kV_find_number dc_find_number pm_find_number an_find_number cd_find_number ct_find_number),sl_find_number⟩) (c_find_number:PySem.W.codeIn K cd_find_number "find_number"=true) (k_find_number:PySem.W.keepIn K (.ref Z183)=true)
    {Z188:Addr} {od_unserved an_unserved:Option Addr} {sl_unserved:Array (Option Value)} {oc_unserved kV_unserved dc_unserved pm_unserved cd_unserved ct_unserved:Value} (a_unserved:PySem.W.nsIn K mainGlobals "unserved"=some (some (.ref Z188))) (l_unserved:K.lookup Z188=some ⟨oc_unserved,od_unserved,.func (PySem.W.fnOf "unserved" "unserved" (defArgs Z574) (defBody Z574) (defScope Z574) .none kV_unserved dc_unserved pm_unserved an_unserved cd_unserved ct_unserved),sl_unserved⟩) (c_unserved:PySem.W.codeIn K cd_unserved "unserved"=true) (k_unserved:PySem.W.keepIn K (.ref Z188)=true)
    {Z185:Addr} {od_serve_more an_serve_more:Option Addr} {sl_serve_more:Array (Option Value)} {oc_serve_more kV_serve_more dc_serve_more pm_serve_more cd_serve_more ct_serve_more:Value} (a_serve_more:PySem.W.nsIn K mainGlobals "serve_more"=some (some (.ref Z185))) (l_serve_more:K.lookup Z185=some ⟨oc_serve_more,od_serve_more,.func (PySem.W.fnOf "serve_more" "serve_more" (defArgs Z571) (defBody Z571) (defScope Z571) .none kV_serve_more dc_serve_more pm_serve_more an_serve_more cd_serve_more ct_serve_more),sl_serve_more⟩) (c_serve_more:PySem.W.codeIn K cd_serve_more "serve_more"=true) (k_serve_more:PySem.W.keepIn K (.ref Z185)=true)
    {Z184:Addr} {od_hand_over an_hand_over:Option Addr} {sl_hand_over:Array (Option Value)} {oc_hand_over kV_hand_over dc_hand_over pm_hand_over cd_hand_over ct_hand_over:Value} (a_hand_over:PySem.W.nsIn K mainGlobals "hand_over"=some (some (.ref Z184))) (l_hand_over:K.lookup Z184=some ⟨oc_hand_over,od_hand_over,.func (PySem.W.fnOf "hand_over" "hand_over" (defArgs Z570) (defBody Z570) (defScope Z570) .none kV_hand_over dc_hand_over pm_hand_over an_hand_over cd_hand_over ct_hand_over),sl_hand_over⟩) (c_hand_over:PySem.W.codeIn K cd_hand_over "hand_over"=true) (k_hand_over:PySem.W.keepIn K (.ref Z184)=true)
    {Z187:Addr} {od_settle_row an_settle_row:Option Addr} {sl_settle_row:Array (Option Value)} {oc_settle_row kV_settle_row dc_settle_row pm_settle_row cd_settle_row ct_settle_row:Value} (a_settle_row:PySem.W.nsIn K mainGlobals "settle_row"=some (some (.ref Z187))) (l_settle_row:K.lookup Z187=some ⟨oc_settle_row,od_settle_row,.func (PySem.W.fnOf "settle_row" "settle_row" (defArgs Z573) (defBody Z573) (defScope Z573) .none kV_settle_row dc_settle_row pm_settle_row an_settle_row cd_settle_row ct_settle_row),sl_settle_row⟩) (c_settle_row:PySem.W.codeIn K cd_settle_row "settle_row"=true) (k_settle_row:PySem.W.keepIn K (.ref Z187)=true)
    {Z186:Addr} {od_serve_rows an_serve_rows:Option Addr} {sl_serve_rows:Array (Option Value)} {oc_serve_rows kV_serve_rows dc_serve_rows pm_serve_rows cd_serve_rows ct_serve_rows:Value} (a_serve_rows:PySem.W.nsIn K mainGlobals "serve_rows"=some (some (.ref Z186))) (l_serve_rows:K.lookup Z186=some ⟨oc_serve_rows,od_serve_rows,.func (PySem.W.fnOf "serve_rows" "serve_rows" (defArgs Z572) (defBody Z572) (defScope Z572) .none kV_serve_rows dc_serve_rows pm_serve_rows an_serve_rows cd_serve_rows ct_serve_rows),sl_serve_rows⟩) (c_serve_rows:PySem.W.codeIn K cd_serve_rows "serve_rows"=true) (k_serve_rows:PySem.W.keepIn K (.ref Z186)=true)
    {Z175:Addr} {od__law_at an__law_at:Option Addr} {sl__law_at:Array (Option Value)} {oc__law_at kV__law_at dc__law_at pm__law_at cd__law_at ct__law_at:Value} (a__law_at:PySem.W.nsIn K mainGlobals "_law_at"=some (some (.ref Z175))) (l__law_at:K.lookup Z175=some ⟨oc__law_at,od__law_at,.func (PySem.W.fnOf "_law_at" "_law_at" (defArgs Z561) (defBody Z561) (defScope Z561) .none kV__law_at dc__law_at pm__law_at an__law_at cd__law_at ct__law_at),sl__law_at⟩) (c__law_at:PySem.W.codeIn K cd__law_at "_law_at"=true) (k__law_at:PySem.W.keepIn K (.ref Z175)=true)
    {Z179:Addr} {od__law_figures an__law_figures:Option Addr} {sl__law_figures:Array (Option Value)} {oc__law_figures kV__law_figures dc__law_figures pm__law_figures cd__law_figures ct__law_figures:Value} (a__law_figures:PySem.W.nsIn K mainGlobals "_law_figures"=some (some (.ref Z179))) (l__law_figures:K.lookup Z179=some ⟨oc__law_figures,od__law_figures,.func (PySem.W.fnOf "_law_figures" "_law_figures" (defArgs Z565) (defBody Z565) (defScope Z565) .none kV__law_figures dc__law_figures pm__law_figures an__law_figures cd__law_figures ct__law_figures),sl__law_figures⟩) (c__law_figures:PySem.W.codeIn K cd__law_figures "_law_figures"=true) (k__law_figures:PySem.W.keepIn K (.ref Z179)=true)
    {Z176:Addr} {od__law_chain an__law_chain:Option Addr} {sl__law_chain:Array (Option Value)} {oc__law_chain kV__law_chain dc__law_chain pm__law_chain cd__law_chain ct__law_chain:Value} (a__law_chain:PySem.W.nsIn K mainGlobals "_law_chain"=some (some (.ref Z176))) (l__law_chain:K.lookup Z176=some ⟨oc__law_chain,od__law_chain,.func (PySem.W.fnOf "_law_chain" "_law_chain" (defArgs Z562) (defBody Z562) (defScope Z562) .none kV__law_chain dc__law_chain pm__law_chain an__law_chain cd__law_chain ct__law_chain),sl__law_chain⟩) (c__law_chain:PySem.W.codeIn K cd__law_chain "_law_chain"=true) (k__law_chain:PySem.W.keepIn K (.ref Z176)=true)
    {Z180:Addr} {od__law_long an__law_long:Option Addr} {sl__law_long:Array (Option Value)} {oc__law_long kV__law_long dc__law_long pm__law_long cd__law_long ct__law_long:Value} (a__law_long:PySem.W.nsIn K mainGlobals "_law_long"=some (some (.ref Z180))) (l__law_long:K.lookup Z180=some ⟨oc__law_long,od__law_long,.func (PySem.W.fnOf "_law_long" "_law_long" (defArgs Z566) (defBody Z566) (defScope Z566) .none kV__law_long dc__law_long pm__law_long an__law_long cd__law_long ct__law_long),sl__law_long⟩) (c__law_long:PySem.W.codeIn K cd__law_long "_law_long"=true) (k__law_long:PySem.W.keepIn K (.ref Z180)=true)
    {Z181:Addr} {od__law_row_of an__law_row_of:Option Addr} {sl__law_row_of:Array (Option Value)} {oc__law_row_of kV__law_row_of dc__law_row_of pm__law_row_of cd__law_row_of ct__law_row_of:Value} (a__law_row_of:PySem.W.nsIn K mainGlobals "_law_row_of"=some (some (.ref Z181))) (l__law_row_of:K.lookup Z181=some ⟨oc__law_row_of,od__law_row_of,.func (PySem.W.fnOf "_law_row_of" "_law_row_of" (defArgs Z567) (defBody Z567) (defScope Z567) .none kV__law_row_of dc__law_row_of pm__law_row_of an__law_row_of cd__law_row_of ct__law_row_of),sl__law_row_of⟩) (c__law_row_of:PySem.W.codeIn K cd__law_row_of "_law_row_of"=true) (k__law_row_of:PySem.W.keepIn K (.ref Z181)=true)
    {Z177:Addr} {od__law_drawn_rows an__law_drawn_rows:Option Addr} {sl__law_drawn_rows:Array (Option Value)} {oc__law_drawn_rows kV__law_drawn_rows dc__law_drawn_rows pm__law_drawn_rows cd__law_drawn_rows ct__law_drawn_rows:Value} (a__law_drawn_rows:PySem.W.nsIn K mainGlobals "_law_drawn_rows"=some (some (.ref Z177))) (l__law_drawn_rows:K.lookup Z177=some ⟨oc__law_drawn_rows,od__law_drawn_rows,.func (PySem.W.fnOf "_law_drawn_rows" "_law_drawn_rows" (defArgs Z563) (defBody Z563) (defScope Z563) .none kV__law_drawn_rows dc__law_drawn_rows pm__law_drawn_rows an__law_drawn_rows cd__law_drawn_rows ct__law_drawn_rows),sl__law_drawn_rows⟩) (c__law_drawn_rows:PySem.W.codeIn K cd__law_drawn_rows "_law_drawn_rows"=true) (k__law_drawn_rows:PySem.W.keepIn K (.ref Z177)=true)
    {Z174:Addr} {od__law_all_dealings an__law_all_dealings:Option Addr} {sl__law_all_dealings:Array (Option Value)} {oc__law_all_dealings kV__law_all_dealings dc__law_all_dealings pm__law_all_dealings cd__law_all_dealings ct__law_all_dealings:Value} (a__law_all_dealings:PySem.W.nsIn K mainGlobals "_law_all_dealings"=some (some (.ref Z174))) (l__law_all_dealings:K.lookup Z174=some ⟨oc__law_all_dealings,od__law_all_dealings,.func (PySem.W.fnOf "_law_all_dealings" "_law_all_dealings" (defArgs Z560) (defBody Z560) (defScope Z560) .none kV__law_all_dealings dc__law_all_dealings pm__law_all_dealings an__law_all_dealings cd__law_all_dealings ct__law_all_dealings),sl__law_all_dealings⟩) (c__law_all_dealings:PySem.W.codeIn K cd__law_all_dealings "_law_all_dealings"=true) (k__law_all_dealings:PySem.W.keepIn K (.ref Z174)=true)
    {Z178:Addr} {od__law_due an__law_due:Option Addr} {sl__law_due:Array (Option Value)} {oc__law_due kV__law_due dc__law_due pm__law_due cd__law_due ct__law_due:Value} (a__law_due:PySem.W.nsIn K mainGlobals "_law_due"=some (some (.ref Z178))) (l__law_due:K.lookup Z178=some ⟨oc__law_due,od__law_due,.func (PySem.W.fnOf "_law_due" "_law_due" (defArgs Z564) (defBody Z564) (defScope Z564) .none kV__law_due dc__law_due pm__law_due an__law_due cd__law_due ct__law_due),sl__law_due⟩) (c__law_due:PySem.W.codeIn K cd__law_due "_law_due"=true) (k__law_due:PySem.W.keepIn K (.ref Z178)=true)
    {Z182:Addr} {od__law_same an__law_same:Option Addr} {sl__law_same:Array (Option Value)} {oc__law_same kV__law_same dc__law_same pm__law_same cd__law_same ct__law_same:Value} (a__law_same:PySem.W.nsIn K mainGlobals "_law_same"=some (some (.ref Z182))) (l__law_same:K.lookup Z182=some ⟨oc__law_same,od__law_same,.func (PySem.W.fnOf "_law_same" "_law_same" (defArgs Z568) (defBody Z568) (defScope Z568) .none kV__law_same dc__law_same pm__law_same an__law_same cd__law_same ct__law_same),sl__law_same⟩) (c__law_same:PySem.W.codeIn K cd__law_same "_law_same"=true) (k__law_same:PySem.W.keepIn K (.ref Z182)=true)
    {f_law:Addr} {od_law an_law:Option Addr} {sl_law:Array (Option Value)} {oc_law kV_law dc_law pm_law cd_law ct_law:Value} (a_law:PySem.W.nsIn K mainGlobals "law"=some (some (.ref f_law))) (l_law:K.lookup f_law=some ⟨oc_law,od_law,.func (PySem.W.fnOf "law" "law" (defArgs s_law) (defBody s_law) (defScope s_law) .none kV_law dc_law pm_law an_law cd_law ct_law),sl_law⟩) (c_law:PySem.W.codeIn K cd_law "law"=true) (k_law:PySem.W.keepIn K (.ref f_law)=true):∃ A,Txt K mg A :=
  ⟨⟨()⟩,
   ⟨PySem.W.mg_none_of X G z_all,
   PySem.W.mg_none_of X G z_bool,
   PySem.W.mg_none_of X G z_dict,
   PySem.W.mg_none_of X G z_int,
   PySem.W.mg_none_of X G z_isinstance,
   PySem.W.mg_none_of X G z_len,
   PySem.W.mg_none_of X G z_list,
   PySem.W.mg_none_of X G z_max,
   PySem.W.mg_none_of X G z_min,
   PySem.W.mg_none_of X G z_range,
   PySem.W.mg_none_of X G z_str,
   PySem.W.mg_none_of X G z_tuple,
   ⟨Z183,_,Z203 (st:=Z569) l_find_number c_find_number k_find_number,PySem.W.mg_of X G a_find_number,fun us hl=>by obtain ⟨_,_,_,_,rfl⟩:=RM.len4 hl;rfl⟩,
   ⟨Z188,_,Z203 (st:=Z574) l_unserved c_unserved k_unserved,PySem.W.mg_of X G a_unserved,fun us hl=>by obtain ⟨_,_,rfl⟩:=RM.len2 hl;rfl⟩,
   ⟨Z185,_,Z203 (st:=Z571) l_serve_more c_serve_more k_serve_more,PySem.W.mg_of X G a_serve_more,fun us hl=>by obtain ⟨_,_,_,rfl⟩:=RM.len3 hl;rfl⟩,
   ⟨Z184,_,Z203 (st:=Z570) l_hand_over c_hand_over k_hand_over,PySem.W.mg_of X G a_hand_over,fun us hl=>by obtain ⟨_,_,_,_,_,rfl⟩:=RM.len5 hl;rfl⟩,
   ⟨Z187,_,Z203 (st:=Z573) l_settle_row c_settle_row k_settle_row,PySem.W.mg_of X G a_settle_row,fun us hl=>by obtain ⟨_,_,_,_,rfl⟩:=RM.len4 hl;rfl⟩,
   ⟨Z186,_,Z203 (st:=Z572) l_serve_rows c_serve_rows k_serve_rows,PySem.W.mg_of X G a_serve_rows,fun us hl=>by obtain ⟨_,rfl⟩:=RM.len1 hl;rfl⟩,
   ⟨Z175,_,Z203 (st:=Z561) l__law_at c__law_at k__law_at,PySem.W.mg_of X G a__law_at,fun us hl=>by obtain ⟨_,_,rfl⟩:=RM.len2 hl;rfl⟩,
   ⟨Z179,_,Z203 (st:=Z565) l__law_figures c__law_figures k__law_figures,PySem.W.mg_of X G a__law_figures,fun us hl=>by obtain ⟨_,_,_,_,rfl⟩:=RM.len4 hl;rfl⟩,
   ⟨Z176,_,Z203 (st:=Z562) l__law_chain c__law_chain k__law_chain,PySem.W.mg_of X G a__law_chain,fun us hl=>by obtain ⟨_,_,_,rfl⟩:=RM.len3 hl;rfl⟩,
   ⟨Z180,_,Z203 (st:=Z566) l__law_long c__law_long k__law_long,PySem.W.mg_of X G a__law_long,fun us hl=>by obtain ⟨_,_,_,rfl⟩:=RM.len3 hl;rfl⟩,
   ⟨Z181,_,Z203 (st:=Z567) l__law_row_of c__law_row_of k__law_row_of,PySem.W.mg_of X G a__law_row_of,fun us hl=>by obtain ⟨_,_,_,_,rfl⟩:=RM.len4 hl;rfl⟩,
   ⟨Z177,_,Z203 (st:=Z563) l__law_drawn_rows c__law_drawn_rows k__law_drawn_rows,PySem.W.mg_of X G a__law_drawn_rows,fun us hl=>by obtain ⟨_,_,_,_,rfl⟩:=RM.len4 hl;rfl⟩,
   ⟨Z174,_,Z203 (st:=Z560) l__law_all_dealings c__law_all_dealings k__law_all_dealings,PySem.W.mg_of X G a__law_all_dealings,fun us hl=>by obtain ⟨_,rfl⟩:=RM.len1 hl;rfl⟩,
   ⟨Z178,_,Z203 (st:=Z564) l__law_due c__law_due k__law_due,PySem.W.mg_of X G a__law_due,fun us hl=>by obtain ⟨_,rfl⟩:=RM.len1 hl;rfl⟩,
   ⟨Z182,_,Z203 (st:=Z568) l__law_same c__law_same k__law_same,PySem.W.mg_of X G a__law_same,fun us hl=>by obtain ⟨_,_,rfl⟩:=RM.len2 hl;rfl⟩,
   ⟨f_law,_,Z203 (st:=s_law) l_law c_law k_law,PySem.W.mg_of X G a_law,fun us hl=>by obtain ⟨_,rfl⟩:=RM.len1 hl;rfl⟩⟩⟩
end Pf
namespace PySem.W.Fast
theorem tw17412950103303328:0=0:=rfl
theorem tw882653060610760640:0=0:=rfl
theorem tw16153683712827082945:0=0:=rfl
theorem tw6078699955606665665:0=0:=rfl
theorem tw829129595573572065:0=0:=rfl
theorem tw17717978281181736801:0=0:=rfl
theorem tw3828674771706296289:0=0:=rfl
theorem tw9873720646217418626:0=0:=rfl
theorem tw16720216634839319522:0=0:=rfl
theorem tw17545423133806887779:0=0:=rfl
theorem tw16064867798521021444:0=0:=rfl
theorem tw10293805655741040644:0=0:=rfl
theorem tw14747747740491767908:0=0:=rfl
theorem tw5281098069334951396:0=0:=rfl
theorem tw13522179339107840037:0=0:=rfl
theorem tw2508058408062665797:0=0:=rfl
theorem tw9263100972981748038:0=0:=rfl
theorem tw15973515097784895078:0=0:=rfl
theorem tw6307495858552610758:0=0:=rfl
theorem tw12657630092670468103:0=0:=rfl
theorem tw12467508335371182535:0=0:=rfl
theorem tw14213988218325184231:0=0:=rfl
theorem tw15495893369912525607:0=0:=rfl
theorem tw17078885616385483687:0=0:=rfl
theorem tw5978691048103024360:0=0:=rfl
theorem tw14097174439473451049:0=0:=rfl
theorem tw15289000199231570089:0=0:=rfl
theorem tw16973815748947844393:0=0:=rfl
theorem tw9197044915712233129:0=0:=rfl
theorem tw7928149273211230185:0=0:=rfl
theorem tw18100530215146183242:0=0:=rfl
theorem tw6028811876535808906:0=0:=rfl
theorem tw12886308510538702762:0=0:=rfl
theorem tw16905668017810894187:0=0:=rfl
theorem tw2715292011133116139:0=0:=rfl
theorem tw5267450662641079628:0=0:=rfl
theorem tw8502369884240637292:0=0:=rfl
theorem tw8857364280609182156:0=0:=rfl
theorem tw6314856490819798540:0=0:=rfl
theorem tw2525164690860470828:0=0:=rfl
theorem tw2386724005492162284:0=0:=rfl
theorem tw13351990277787544589:0=0:=rfl
theorem tw1025136157769990349:0=0:=rfl
theorem tw5811667958369028685:0=0:=rfl
theorem tw11178335304341701229:0=0:=rfl
theorem tw12490783293601526926:0=0:=rfl
theorem tw15276664308235943534:0=0:=rfl
theorem tw13847533571141686543:0=0:=rfl
theorem tw9867428788691816111:0=0:=rfl
theorem tw15620297795999015855:0=0:=rfl
theorem tw12826774831037626384:0=0:=rfl
theorem tw12568909850434198288:0=0:=rfl
theorem tw7179208020662583441:0=0:=rfl
theorem tw8396441137359457553:0=0:=rfl
theorem tw12122122880434264561:0=0:=rfl
theorem tw13875714298933404241:0=0:=rfl
theorem tw13747493095023643409:0=0:=rfl
theorem tw12054765573740553201:0=0:=rfl
theorem tw4839741499900833234:0=0:=rfl
theorem tw513593098284782259:0=0:=rfl
theorem tw9619887491373348819:0=0:=rfl
theorem tw4834065518453999924:0=0:=rfl
theorem tw16524029460140687732:0=0:=rfl
theorem tw3190418990704541172:0=0:=rfl
theorem tw8514375804955323924:0=0:=rfl
theorem tw10074339496832322164:0=0:=rfl
theorem tw8674895292812801748:0=0:=rfl
theorem tw15503982098964526004:0=0:=rfl
theorem tw6951607431824185397:0=0:=rfl
theorem tw8776338313068578901:0=0:=rfl
theorem tw17871200140462954645:0=0:=rfl
theorem tw12940642144264607925:0=0:=rfl
theorem tw8279509747142260949:0=0:=rfl
theorem tw9841602813414861237:0=0:=rfl
theorem tw10290791110088739862:0=0:=rfl
theorem tw2717676882031736918:0=0:=rfl
theorem tw12956368337977965654:0=0:=rfl
theorem tw17185298030466412854:0=0:=rfl
theorem tw11264960116522209174:0=0:=rfl
theorem tw17371376032407934263:0=0:=rfl
theorem tw10796780016225831416:0=0:=rfl
theorem tw16099703170821047928:0=0:=rfl
theorem tw3025722304369351416:0=0:=rfl
theorem tw5025370647338569241:0=0:=rfl
theorem tw3902852497375755801:0=0:=rfl
theorem tw2073889857060981337:0=0:=rfl
theorem tw7171278561858733689:0=0:=rfl
theorem tw12373911686734231289:0=0:=rfl
theorem tw14981915923348080537:0=0:=rfl
theorem tw2455371912933662842:0=0:=rfl
theorem tw11293146531755412794:0=0:=rfl
theorem tw12800082132913175034:0=0:=rfl
theorem tw1533336926926302842:0=0:=rfl
theorem tw8047036771733991098:0=0:=rfl
theorem tw9363744561901616890:0=0:=rfl
theorem tw3750704359738219450:0=0:=rfl
theorem tw13355948350747798522:0=0:=rfl
theorem tw2995954722518181083:0=0:=rfl
theorem tw8585086174570032603:0=0:=rfl
theorem tw16264728791907495387:0=0:=rfl
theorem tw8426971215700729403:0=0:=rfl
theorem tw6359483446841772092:0=0:=rfl
theorem tw3747995270477313084:0=0:=rfl
theorem tw1062302822613379228:0=0:=rfl
theorem tw9963593454456810748:0=0:=rfl
theorem tw16253407030371902812:0=0:=rfl
theorem tw17706044417269103996:0=0:=rfl
theorem tw15646398455757362140:0=0:=rfl
theorem tw5368660025605639229:0=0:=rfl
theorem tw4232967802745528573:0=0:=rfl
theorem tw2430694999301847357:0=0:=rfl
theorem tw17148020301467161213:0=0:=rfl
theorem tw9396835682421362461:0=0:=rfl
theorem tw2169161174220866365:0=0:=rfl
theorem tw3026614795253914687:0=0:=rfl
theorem tw8658498832585516383:0=0:=rfl
theorem tw8459000439190373823:0=0:=rfl
theorem tw9674922662615197599:0=0:=rfl
theorem tw14709355999256219693:0=0:=rfl
end PySem.W.Fast
open PySem PySem.W PyProof.Rows
set_option maxRecDepth 100000 in
set_option maxHeartbeats 0 in
theorem PySem.Challenge.cw_papercircle_k10_first_rows_best_holds : PySem.Challenge.rw_papercircle_k10_first_rows_best.Holds := by
  w_on;o_law;k_head;(case hw=>w_witness2)
  k_fill
  refine L2.Z681 (l:=PySem.Challenge.rw_papercircle_k10_first_rows_best) (n:=63) (k:=30) (x := "_law_script") (CX:=fun w=>L2.CX1 PySem.Challenge.pw_papercircle_k10_first_rows_best w) (sp:=fun w=>RM.spLaw _) rfl (by decide) rfl ⟨rfl,by decide,by decide,rfl⟩ (fun w h Y=>PySem.W.kIn_of Y) ?F (fun w H a ns hl hO hS=>RM.Z598 hl hS) (fun _ _ _ _ _ z=>L2.Z78 z)
  case F =>
    intro w mg fa h KX G hmg
    have T:∃ A,Pf.Txt (L2.KOf KX) mg A:=by
      dsimp only [L2.KOf]
      refine' Pf.Z637 KX G ?z_all ?z_bool ?z_dict ?z_int ?z_isinstance ?z_len ?z_list ?z_max ?z_min ?z_range ?z_str ?z_tuple ?a_find_number ?l_find_number ?c_find_number ?k_find_number ?a_unserved ?l_unserved ?c_unserved ?k_unserved ?a_serve_more ?l_serve_more ?c_serve_more ?k_serve_more ?a_hand_over ?l_hand_over ?c_hand_over ?k_hand_over ?a_settle_row ?l_settle_row ?c_settle_row ?k_settle_row ?a_serve_rows ?l_serve_rows ?c_serve_rows ?k_serve_rows ?a__law_at ?l__law_at ?c__law_at ?k__law_at ?a__law_figures ?l__law_figures ?c__law_figures ?k__law_figures ?a__law_chain ?l__law_chain ?c__law_chain ?k__law_chain ?a__law_long ?l__law_long ?c__law_long ?k__law_long ?a__law_row_of ?l__law_row_of ?c__law_row_of ?k__law_row_of ?a__law_drawn_rows ?l__law_drawn_rows ?c__law_drawn_rows ?k__law_drawn_rows ?a__law_all_dealings ?l__law_all_dealings ?c__law_all_dealings ?k__law_all_dealings ?a__law_due ?l__law_due ?c__law_due ?k__law_due ?a__law_same ?l__law_same ?c__law_same ?k__law_same ?a_law ?l_law ?c_law ?k_law
      (case z_all=>k_is)
      (case z_bool=>k_is)
      (case z_dict=>k_is)
      (case z_int=>k_is)
      (case z_isinstance=>k_is)
      (case z_len=>k_is)
      (case z_list=>k_is)
      (case z_max=>k_is)
      (case z_min=>k_is)
      (case z_range=>k_is)
      (case z_str=>k_is)
      (case z_tuple=>k_is)
      (case a_find_number=>k_is)
      (case l_find_number=>k_is)
      (case c_find_number=>k_is)
      (case k_find_number=>k_is)
      (case a_unserved=>k_is)
      (case l_unserved=>k_is)
      (case c_unserved=>k_is)
      (case k_unserved=>k_is)
      (case a_serve_more=>k_is)
      (case l_serve_more=>k_is)
      (case c_serve_more=>k_is)
      (case k_serve_more=>k_is)
      (case a_hand_over=>k_is)
      (case l_hand_over=>k_is)
      (case c_hand_over=>k_is)
      (case k_hand_over=>k_is)
      (case a_settle_row=>k_is)
      (case l_settle_row=>k_is)
      (case c_settle_row=>k_is)
      (case k_settle_row=>k_is)
      (case a_serve_rows=>k_is)
      (case l_serve_rows=>k_is)
      (case c_serve_rows=>k_is)
      (case k_serve_rows=>k_is)
      (case a__law_at=>k_is)
      (case l__law_at=>k_is)
      (case c__law_at=>k_is)
      (case k__law_at=>k_is)
      (case a__law_figures=>k_is)
      (case l__law_figures=>k_is)
      (case c__law_figures=>k_is)
      (case k__law_figures=>k_is)
      (case a__law_chain=>k_is)
      (case l__law_chain=>k_is)
      (case c__law_chain=>k_is)
      (case k__law_chain=>k_is)
      (case a__law_long=>k_is)
      (case l__law_long=>k_is)
      (case c__law_long=>k_is)
      (case k__law_long=>k_is)
      (case a__law_row_of=>k_is)
      (case l__law_row_of=>k_is)
      (case c__law_row_of=>k_is)
      (case k__law_row_of=>k_is)
      (case a__law_drawn_rows=>k_is)
      (case l__law_drawn_rows=>k_is)
      (case c__law_drawn_rows=>k_is)
      (case k__law_drawn_rows=>k_is)
      (case a__law_all_dealings=>k_is)
      (case l__law_all_dealings=>k_is)
      (case c__law_all_dealings=>k_is)
      (case k__law_all_dealings=>k_is)
      (case a__law_due=>k_is)
      (case l__law_due=>k_is)
      (case c__law_due=>k_is)
      (case k__law_due=>k_is)
      (case a__law_same=>k_is)
      (case l__law_same=>k_is)
      (case c__law_same=>k_is)
      (case k__law_same=>k_is)
      (case a_law=>k_is)
      (case l_law=>k_is)
      (case c_law=>k_is)
      (case k_law=>k_is)
    obtain ⟨A,T⟩:=T
    exact L2.Z317 T.a_law (fun base=>RM.DefX.imp (Pf.Z415 T) fun vs H Q E h=>RM.Z318 (fun k ns hk hl=>Pf.v_law k ns hk hl) h) hmg
