import PyProof.Rows.All
import Wide.All
import OpenK.AllK
import Wide.FinOn
import Lean
import PyProof.EqAt
import PyProof.EqKinds
import PyProof.TupleCall
import PyProof.ListRange
import PyProof.ReprRoads
import PyProof.SeqI3
import PyProof.Rows.SetFrom
import PyProof.SetRoads
import Open.Tops
import PySem.Challenge.RW_papercircle_k17_how_many_houses
open PySem.W renaming Frag->Qa,findIn->Ji,keepIn->Jt,exmOne->Jz,emptyDict->Wc,fnOf->Wo,instObj->Ws,callWith_K->Nj,hideAll->Nq,looks_findIn->Nt,codeIn->Nu,plainGet->Nv,hasDictIn->Gg,cellsFrom_some->Gh,methodCall_KW->Gk,plainGet_of->Gv,callWith_K0->Gw,isFn->Gy,nsIn->Gz,lookIn->Qab,methodObj->Qaj,plainOver->Qak,mg_of->Qao
open List renaming getElem?_map->Qc,getElem?_eq_some_iff->Qd,mem_append_right->Qe,mem_append->Qf,mem_of_getElem?->Qg,mem_append_left->Qh,map_cons->Qj,getElem?_eq_getElem->Qk,nodup_append->Qm,append_assoc->Qn,getElem?_append_left->Qo,getElem?_set->Qp,mem_cons_self->Qs,mem_cons_of_mem->Qt,perm_iff_count->Qw,length_map->Qx,mem_cons->Jb,getElem?_append_right->Jd,length_append->Jf,mem_iff_getElem?->Jg,size_toArray->Jh,mem_singleton->Jj,count_append->Jk,map_map->Jl,cons_append->Jm,append_nil->Jo,filterMap_cons->Jp,nil_append->Jq,cons->Js,lookup_cons->Ju,map_nil->Jw,nodup_cons->Jx,length_cons->Jy,mem_map->Wa,take_of_length_le->Wb,flatMap_cons->We,perm_append_comm->Wf,map_append->Wg,getElem?_cons_zero->Wh,findIdx?_eq_some_iff_getElem->Wi,map_set->Wk,length_replicate->Wl,mem_filterMap->Wm,ext_getElem?->Wr,find?_cons->Wt,map_congr_left->Wu,getElem?_set_self->Wv,getElem?_eq_none->Ww,getElem?_zipWith->Wx,getElem?_mapIdx->Wz,length_take->Nf,nodup_nil->Ng,eq_nil_iff_forall_not_mem->Nh,getElem?_cons_succ->Ni,set_cons_succ->Nk,zip_cons_cons->Np,take_add_one->Nr,filter_cons->Nx,any_cons->Ny,length_mapIdx->Ga,lookup->Gd,getElem?_replicate->Gf,singleton_append->Gm,all_eq_true->Gn,all_cons->Gp,getElem?_set_ne->Gq,mem_of_mem_take->Gr,dropLast_concat_getLast->Gs,mem_range->Qaa,findIdx?_cons->Qad,getLast?_eq_some_iff->Qae,mem_or_eq_of_mem_set->Qaf,drop_eq_getElem_cons->Qag,sublist_append_right->Qah,findIdx?_eq_none_iff->Qai,take_sublist->Qal,map_dropLast->Qam,getElem?_take_of_lt->Qan
open PySem.Heap renaming get?_push_of_some->Qi,get?_push_size->Qy,lt_size->Qz,size_push->Wj,FlyingW->Wq
open Bool renaming false_ne_true->Ql,and_eq_true->Ja,not_eq_true'->Wy,false_eq_true->Nm,eq_iff_iff->Nz
open Nat renaming le_refl->Qq,lt_of_lt_of_le->Qv,ne_of_lt->Jc,le_trans->Jr,lt_irrefl->Jv,lt_succ_of_lt->Wd,lt_succ_self->Wn,zero_le->Ge,le_of_lt->Gx
open Option renaming map_some->Qu,some->Je,isSome_iff_exists->Nb,isSome_map->Gi,map_eq_some_iff->Gj,map_map->Qac
open Int renaming emod_lt_of_pos->Gb,emod_nonneg->Gu
set_option Elab.async false
set_option compiler.extract_closed false
set_option genCtorIdx false
set_option genSizeOf false
set_option bootstrap.genMatcherCode false
set_option maxHeartbeats 0
set_option linter.all false
set_option maxRecDepth 100000
theorem uA(a:True:=by rfl):True:=a
theorem uB(a:True:=by decide):True:=a
theorem uC(a:True:=by intro _;rfl):True:=a
theorem uD(a:True:=by decide +kernel):True:=a
theorem uE(a:True:=by first | exact Or.inl rfl | exact Or.inr rfl | exact Or.inr (Or.inl rfl) | exact Or.inr (Or.inr rfl) | rfl | assumption):True:=a
theorem uF(a:True:=by ((try dsimp only);k_is)):True:=a
local macro_rules | `(command|mutual $cs* end)=>do
 let some c:=cs[0]? | Lean.Macro.throwUnsupported
 let .original ..:=c.raw.getHeadInfo | Lean.Macro.throwUnsupported
 let m<-`(command|noncomputable def x:=0)
 let m:=m.raw[0]
 return Lean.mkNullNode (cs.map fun c=>c.raw.rewriteBottomUp fun s=>
  let s:=s.setInfo .none
  let d:=s[1]
  let k:=d.getKind
  let v (i:Nat) (x:Lean.Syntax):=s.setArg 0 ((s[0].setArg 4 m[4]).setArg i m[i]) |>.setArg 1 x
  if k==`Lean.Parser.Command.definition then s.setArg 1 (.node .none `Lean.Parser.Command.theorem #[d[0],d[1],.node .none `Lean.Parser.Command.declSig #[d[2][0],d[2][1][0]],d[3]])
  else if k==`Lean.Parser.Command.abbrev then v 2 (if s[0][2].getNumArgs==0 then .node .none `Lean.Parser.Command.definition #[d[0],d[1],d[2],d[3],m[0]] else d)
  else s)
namespace Lake
namespace L2
open PySem PySem.Spec PyProof.Rows
mutual
private abbrev Key:=Sum Int Str
abbrev keyIs:Key->Value->Bool
 | .inl k,v=>Value.isInt k v
 | .inr x,v=>Value.isStrOf x v
abbrev keyH(w:World):Key->Int
 | .inl k=>hashInt k
 | .inr x=>hashStr w x
def Z0J:∀ {k:Key} {v:Value},keyIs k v=true->(∃ i t,k=Sum.inl i/\v=Value.int i t)\/(∃ x t,k=Sum.inr x/\v=Value.str x t)
 | .inl i,v,h=>by
  obtain ⟨t,e⟩:=Value.isInt_shape (k:=i) (v:=v) h;exact .inl ⟨i,t,rfl,e⟩
 | .inr x,v,h=>by
  obtain ⟨t,e⟩:=Value.isStrOf_shape (x:=x) (v:=v) h;exact .inr ⟨x,t,rfl,e⟩
def ZbC(i:Int)(t:Tok):keyIs (.inl i) (.int i t)=true:=by simp [keyIs,Value.isInt]
def ZbD(x:Str)(t:Tok):keyIs (.inr x) (.str x t)=true:=by simp [keyIs,Value.isStrOf]
def Zgx(a b:Int):decide ((Sum.inl a:Key)=Sum.inl b)=(a == b):=by
 by_cases e:a=b
 .subst e;simp
 .have h:¬ (Sum.inl a:Key)=Sum.inl b:=fun q=>e (Sum.inl.inj q)
  rw [decide_eq_false h];exact (beq_eq_false_iff_ne.mpr e).symm
def ZgA(a b:Str):decide ((Sum.inr a:Key)=Sum.inr b)=decide (a=b):=by
 by_cases e:a=b
 .subst e;simp
 .have h:¬ (Sum.inr a:Key)=Sum.inr b:=fun q=>e (Sum.inr.inj q)
  rw [decide_eq_false h,decide_eq_false e]
def Zgy(a:Int)(b:Str):decide ((Sum.inl a:Key)=Sum.inr b)=false:=decide_eq_false (fun q=>nomatch q)
def Zgz(a:Str)(b:Int):decide ((Sum.inr a:Key)=Sum.inl b)=false:=decide_eq_false (fun q=>nomatch q)
abbrev ZL(prog:Program)(w:World):PySem.KeyKind prog w Key where
 is:=keyIs
 hash:=keyH w
 inj:=fun v a b ha hb=>by
  rcases Z0J ha with ⟨i,t,rfl,rfl⟩ | ⟨x,t,rfl,rfl⟩
  .rcases Z0J hb with ⟨j,u,rfl,e⟩ | ⟨y,u,rfl,e⟩
   .injection e with e1 _;rw [e1]
   .exact nomatch e
  .rcases Z0J hb with ⟨j,u,rfl,e⟩ | ⟨y,u,rfl,e⟩
   .exact nomatch e
   .injection e with e1 _;rw [e1]
 byValue:=fun k v h=>by
  rcases Z0J h with ⟨i,t,rfl,rfl⟩ | ⟨x,t,rfl,rfl⟩ <;> rfl
 pyHash:=fun hv h=>by
  rcases Z0J hv with ⟨i,t,rfl,rfl⟩ | ⟨x,t,rfl,rfl⟩
  .exact wpAny_pyHash_int h
  .exact wpAny_pyHash_str h
 eqBool:=fun hu hv h=>by
  rcases Z0J hu with ⟨i,t,rfl,rfl⟩ | ⟨x,t,rfl,rfl⟩
  .rcases Z0J hv with ⟨j,u,rfl,rfl⟩ | ⟨y,u,rfl,rfl⟩
   .rw [Zgx] at h;exact wpAny_eqBool_int h
   .rw [Zgy] at h;exact SeqAt.EqAt.int_str i t y u _ _ _ _ h
  .rcases Z0J hv with ⟨j,u,rfl,rfl⟩ | ⟨y,u,rfl,rfl⟩
   .rw [Zgz] at h;exact SeqAt.EqAt.str_int x t j u _ _ _ _ h
   .rw [ZgA] at h;exact wpAny_eqBool_str h
 «strs»:=fun k x t v h=>by
  rcases Z0J h with ⟨i,u,rfl,e⟩ | ⟨y,u,rfl,e⟩
  .exact nomatch e
  .injection e with e1 _
   subst e1;cases v <;> rfl
def Z9N(prog:Program)(w:World)(i:Int)(t:Tok):(ZL prog w).is (.inl i) (.int i t)=true:=ZbC i t
def Z9O(prog:Program)(w:World)(x:Str)(t:Tok):(ZL prog w).is (.inr x) (.str x t)=true:=ZbD x t
set_option genCtorIdx true in
inductive V where
 | non | bl (b:Bool) | int (i:Int) | str (x:Str) | byt (b:Array UInt8) | flt (b:UInt64) | ref (a:Addr) | ty (n:String)
 deriving DecidableEq
abbrev RelV:V->Value->Prop
 | .non,u=>u=Value.none
 | .bl b,u=>u=Value.bool b
 | .int i,u=>∃ t,u=Value.int i t
 | .str x,u=>∃ t,u=Value.str x t
 | .byt b,u=>∃ t,u=Value.bytes b t
 | .flt b,u=>∃ t,u=Value.float b t
 | .ref a,u=>u=Value.ref a
 | .ty n,u=>u=Value.type n
private abbrev Vals:List V->List Value->Prop:=Paired RelV
def Vals.length{xs:List V}{us:List Value}(r:Vals xs us):xs.length=us.length:=Paired.length r
def Vals.get:∀ {xs:List V} {us:List Value} {i:Nat} {x:V},Vals xs us->xs[i]?=some x->∃ u,us[i]?=some u/\RelV x u
 | _,_,_,_,.nil,e=>by simp at e
 | _,_,0,_,.cons r _,e=>by simp at e;subst e;exact ⟨_,rfl,r⟩
 | _,_,i + 1,x,.cons _ t,e=>by
  obtain ⟨u,h1,h2⟩:=Vals.get (i:=i) (x:=x) t (by simpa using e);exact ⟨u,by simpa using h1,h2⟩
def Vals.append:∀ {xs ys:List V} {us ws:List Value},Vals xs us->Vals ys ws->Vals (xs++ys) (us++ws)
 | _,_,_,_,.nil,s=>s
 | _,_,_,_,.cons r t,s=>.cons r (Vals.append t s)
def Vals.take:∀ {xs:List V} {us:List Value} (n:Nat),Vals xs us->Vals (xs.take n) (us.take n)
 | _,_,0,_=>.nil
 | _,_,_ + 1,.nil=>.nil
 | _,_,n + 1,.cons r t=>.cons r (Vals.take n t)
def Vals.drop:∀ {xs:List V} {us:List Value} (n:Nat),Vals xs us->Vals (xs.drop n) (us.drop n)
 | _,_,0,r=>r
 | _,_,_ + 1,.nil=>.nil
 | _,_,n + 1,.cons _ t=>Vals.drop n t
abbrev RelO:Option V->Option Value->Prop
 | some v,some u=>RelV v u
 | none,none=>True
 | _,_=>False
abbrev KV{κ:Type}:List (κ×V)->List (κ×Value)->Prop:=Paired fun (p:κ×V) (q:κ×Value)=>p.1=q.1/\RelV p.2 q.2
abbrev kV:Key->V
 | .inl i=>.int i
 | .inr x=>.str x
inductive HO where
 | lst (xs:List V)
 | tup (xs:List V)
 | dK (kvs:List (Key×V)) | dT (kvs:List (List Key×V))
 | set (S:Int->Bool) (n:Nat)
 | ins (C dx:Addr) (fs:List (Str×V))
 | own (x:Addr)
 | xd (fs:List (Str×V))
 | met (f x:Addr)
 | rng (lo hi:Int)
 | frz (o:Obj) (u:HO)
 | tbl (ps:Array Value)
 | ext (φ:Heap->Prop)
set_option genCtorIdx true in set_option genInjectivity false in gen_injective_theorems% HO
private abbrev Hp:=Addr->Option HO
abbrev upd(H:Hp)(a:Addr)(o:HO):Hp:=fun b=>if b=a then some o else H b
def Zj{H:Hp}{a:Addr}{o:HO}:upd H a o a=some o:=by unfold upd;rw [if_pos rfl]
def Zb{H:Hp}{a b:Addr}{o:HO}(h:b≠a):upd H a o b=H b:=by unfold upd;rw [if_neg h]
def ne_of{H:Hp}{a b:Addr}{o u:HO}(h:H a=some o)(h':H b=some u)(d:o≠u):a≠b:=by
 intro e;subst e;rw [h] at h';exact d (Je.inj h')
def Z0b{H:Hp}{a b:Addr}{o:HO}(h:H a=some o)(h':H b=none):a≠b:=by
 intro e;subst e;rw [h] at h';cases h'
end
section
mutual
variable (P:Program)(w:World)
abbrev Z01(H:Hp)(h:Heap)(a:Addr):HO->Prop
 | .lst xs=>xs.length<=sizeLine/\∃ (its:List Value) (n:Nat),Vals xs its/\h.get? a=some { cls:=.type "list",data:=.seq its.toArray n }
 | .tup xs=>xs.length<=sizeLine/\∃ its:List Value,Vals xs its/\IsTup h a its.toArray
 | .dK kvs=>kvs.length<=sizeLine/\(a == sysModules)=false/\∃ vs,KV kvs vs/\h.DictOf (ZL P w) a vs
 | .dT kvs=>kvs.length<=sizeLine/\(a == sysModules)=false/\∃ xs:List (List Key×Addr×Value),
   Paired (fun (p:List Key×V) (q:List Key×Addr×Value)=>p.1=q.1/\H q.2.1=some (.tup (p.1.map kV))/\RelV p.2 q.2.2) kvs xs /\
   ∃ o es ep,h.get? a=some o/\o.ExactDict/\o.data=.dict es ep/\es.toList=xs.map (entryOfKey (tupleKind (ZL P w)))/\(xs.map (·.1)).Nodup
 | .set S n=>h.SetOf (intKind P w) a S n
 | .ins C dx fs=>H dx=some (.own a)/\fs.length<=1000/\dx≠a/\h.get? a=some (Ws C dx) /\
   ∃ mA,h.Ns1 dx mA/\(∀ f,RelO (fs.lookup f) (mA f))/\PySem.Within mA (fs.map (·.1))
 | .own _=>∃ o,h.get? a=some o
 | .xd fs=>∃ mA,h.Ns1 a mA/\∀ f,RelO (fs.lookup f) (mA f)
 | .rng lo hi=>∃ t u v,h.get? a=some { cls:=.type "range",data:=.fields #[.int lo t,.int hi u,.int 1 v] }
 | .frz o u=>h.get? a=some o/\Z01 H h a u
 | .tbl ps=>h.get? a=some { cls:=.none,data:=.fields ps }
 | .met f x=>h.get? a=some (Qaj (.ref f) (.ref x))
 | .ext φ=>φ h/\(∃ o,h.get? a=some o)/\∀ h1 h2:Heap,φ h1->(∀ o,h1.get? a=some o->h2.get? a=some o)->φ h2
abbrev HOk(H:Hp)(h:Heap):Prop:=∀ a o,H a=some o->Z01 P w H h a o
end
end
section
mutual
variable {P:Program}{w:World}{H H':Hp}{h h':Heap}{a:Addr}{o:HO}
def Z01.lt(x:Z01 P w H h a o):a < h.objs.size:=by
 cases o with
 | lst xs=>obtain ⟨_,_,_,_,e⟩:=x;exact Qz e
 | tup xs=>obtain ⟨_,_,_,p⟩:=x;exact p.lt
 | dK kvs=>obtain ⟨_,_,_,_,o,_,_,e,_⟩:=x;exact Qz e
 | dT kvs=>obtain ⟨_,_,_,_,o,_,_,e,_⟩:=x;exact Qz e
 | set S n=>obtain ⟨o,_,_,_,e,_⟩:=x;exact Qz e
 | ins C dx fs=>obtain ⟨_,_,_,e,_⟩:=x;exact Qz e
 | own y=>obtain ⟨_,e⟩:=x;exact Qz e
 | xd fs=>obtain ⟨_,⟨_,_,_,e,_⟩,_⟩:=x;exact Qz e
 | rng lo hi=>obtain ⟨_,_,_,e⟩:=x;exact Qz e
 | frz ob u=>obtain ⟨e,_⟩:=x;exact Qz e
 | tbl ps=>exact Qz (show h.get? a=some _ from x)
 | met f y=>exact Qz (show h.get? a=some _ from x)
 | ext φ=>obtain ⟨_,⟨_,e⟩,_⟩:=x;exact Qz e
def Paired.mapP{α β:Type}{F G:α->β->Prop}:∀ {l₁:List α} {l₂:List β},Paired F l₁ l₂->(∀ a b,F a b->G a b)->Paired G l₁ l₂
 | _,_,.nil,_=>.nil
 | _,_,.cons r t,f=>.cons (f _ _ r) (Paired.mapP t f)
def Z01.stay(x:Z01 P w H h a o)(k:∀ b u,(b=a\/H b=some (.own a))->h.get? b=some u->h'.get? b=some u)
  (ho:∀ b,H b=some (.own a)->H' b=some (.own a)) (ht:∀ b xs,H b=some (.tup xs)->H' b=some (.tup xs)):Z01 P w H' h' a o:=by
 induction o with
 | lst xs=>obtain ⟨z,its,n,r,e⟩:=x;exact ⟨z,its,n,r,k _ _ (.inl rfl) e⟩
 | tup xs=>obtain ⟨z,its,r,ob,e,c⟩:=x;exact ⟨z,its,r,ob,k _ _ (.inl rfl) e,c⟩
 | dK kvs=>obtain ⟨z,y,vs,r,ob,es,ep,e,c⟩:=x;exact ⟨z,y,vs,r,ob,es,ep,k _ _ (.inl rfl) e,c⟩
 | dT kvs=>
  obtain ⟨z,y,xs,r,ob,es,ep,e,c⟩:=x;exact ⟨z,y,xs,Paired.mapP r fun p q z=>⟨z.1,ht _ _ z.2.1,z.2.2⟩,ob,es,ep,k _ _ (.inl rfl) e,c⟩
 | set S n=>obtain ⟨ob,es,ep,t,e,c⟩:=x;exact ⟨ob,es,ep,t,k _ _ (.inl rfl) e,c⟩
 | ins C dx fs=>
  obtain ⟨d,z,ne,e,mA,⟨od,es,ep,e2,c⟩,r⟩:=x;exact ⟨ho _ d,z,ne,k _ _ (.inl rfl) e,mA,⟨od,es,ep,k _ _ (.inr d) e2,c⟩,r⟩
 | own y=>obtain ⟨ob,e⟩:=x;exact ⟨ob,k _ _ (.inl rfl) e⟩
 | xd fs=>obtain ⟨mA,⟨od,es,ep,e,c⟩,r⟩:=x;exact ⟨mA,⟨od,es,ep,k _ _ (.inl rfl) e,c⟩,r⟩
 | rng lo hi=>obtain ⟨t,u,v,e⟩:=x;exact ⟨t,u,v,k _ _ (.inl rfl) e⟩
 | frz ob u ih=>obtain ⟨e,q⟩:=x;exact ⟨k _ _ (.inl rfl) e,ih q⟩
 | tbl ps=>
  have e:h.get? a=some { cls:=.none,data:=.fields ps }:=x;show h'.get? a=some { cls:=.none,data:=.fields ps };exact k a _ (.inl rfl) e
 | met f y=>
  have e:h.get? a=some (Qaj (.ref f) (.ref y)):=x;show h'.get? a=some (Qaj (.ref f) (.ref y));exact k a _ (.inl rfl) e
 | ext φ=>obtain ⟨p,⟨o,e⟩,st⟩:=x;exact ⟨st _ _ p fun o q=>k _ _ (.inl rfl) q,⟨o,k _ _ (.inl rfl) e⟩,st⟩
def HOk.lt(x:HOk P w H h)(e:H a=some o):a < h.objs.size:=(x a o e).lt
def HOk.fresh(x:HOk P w H h)(e:h.objs.size<=a):H a=none:=by
 cases q:H a with
 | none=>rfl
 | some u=>exact absurd (Qv (x.lt q) e) (Jv _)
def HOk.kept(x:HOk P w H h)(k:∀ b u,h.get? b=some u->h'.get? b=some u):HOk P w H h':=fun a o e=>
 (x a o e).stay (fun b u _ q=>k b u q) (fun _ q=>q) fun _ _ q=>q
def HOk.laid(x:HOk P w H h)(k:∀ b u,h.get? b=some u->h'.get? b=some u)(hp:h.objs.size<=a)(new:Z01 P w (upd H a o) h' a o):HOk P w (upd H a o) h':=fun b u e=>by
 have hn:=x.fresh hp;by_cases hb:b=a
 .subst hb;rw [Zj] at e;cases e;exact new
 .rw [Zb hb] at e
  exact (x b u e).stay (fun c v _ q=>k c v q) (fun c q=>by rw [Zb (Z0b q hn)];exact q) fun c xs q=>by rw [Zb (Z0b q hn)];exact q
end
end
mutual
abbrev Rd(H:Hp)(a:Addr)(u:HO):Prop:=H a=some u\/∃ o,H a=some (.frz o u)
def Rd.ok{P:Program}{w:World}{H:Hp}{h:Heap}{a:Addr}{u:HO}(r:Rd H a u)(x:HOk P w H h):Z01 P w H h a u:=by
 rcases r with r | ⟨o,r⟩
 .exact x a u r
 .obtain ⟨_,q⟩:=x a _ r
  exact q
abbrev Mut:Option HO->Prop
 | some (.lst _)=>True
 | some (.dK _)=>True
 | some (.dT _)=>True
 | some (.set _ _)=>True
 | some (.ins _ _ _)=>True
 | some (.ext _)=>True
 | _=>False
end
section
variable {P:Program}{w:World}{H:Hp}{h h':Heap}{x e:Addr}{o':HO}
theorem HOk.write(ok:HOk P w H h)(mu:Mut (H x))(he:e=x\/H e=some (.own x))(k:∀ b u,b≠e->h.get? b=some u->h'.get? b=some u)(heo:∃ u,h'.get? e=some u)
  (new:Z01 P w (upd H x o') h' x o'):HOk P w (upd H x o') h':=fun b u q=>by
 have nown:∀ c y,H c=some (.own y)->c≠x:=fun c y r z=>by subst z;rw [r] at mu;exact mu
 have ntup:∀ c xs,H c=some (.tup xs)->c≠x:=fun c xs r z=>by subst z;rw [r] at mu;exact mu
 by_cases hb:b=x
 .subst hb;rw [Zj] at q;cases q;exact new
 .rw [Zb hb] at q
  by_cases hbe:b=e
  .have q':H b=some (.own x):=by
    rcases he with z | z
    .exact absurd (hbe.trans z) hb
    .rw [hbe];exact z
   rw [q] at q';cases q';obtain ⟨v,hv⟩:=heo;exact ⟨v,by rw [hbe];exact hv⟩
  .refine (ok b u q).stay (fun c v hc r=>k c v ?_ r) (fun c r=>by rw [Zb (nown c b r)];exact r) fun c xs r=>by rw [Zb (ntup c xs r)];exact r
   rcases hc with rfl | hc
   .exact hbe
   .rintro rfl
    rcases he with z | z
    .exact nown c b hc z
    .rw [hc] at z;cases z;exact hb rfl
end
structure Un(fs ex:List Addr)(H H':Hp)(h h':Heap):Prop where
 keep:∀ b o,h.get? b=some o->H b=none->b∉fs->b∉ex->h'.get? b=some o
 slot:∀ b o,h.get? b=some o->H b=none->b∈fs->b∉ex->∃ sl,h'.get? b=some { o with slots:=sl }
 free:∀ b o,h.get? b=some o->H b=none->b∉ex->H' b=none
 there:∀ b o,h.get? b=some o->b∉ex->∃ o',h'.get? b=some o'
 tups:∀ b xs,H b=some (.tup xs)->H' b=some (.tup xs)
 frzs:∀ b o u,H b=some (.frz o u)->H' b=some (.frz o u)
 tbls:∀ b ps,H b=some (.tbl ps)->∃ more,H' b=some (.tbl (ps++more))
section
mutual
variable {fs fs' ex ex':List Addr}{H H1 H2:Hp}{h h1 h2 h':Heap}{a x e:Addr}{o:HO}
def Un.any(u:Un fs ex H H1 h h1){b:Addr}{ob:Obj}(q:h.get? b=some ob)(n:H b=none)(hx:b∉ex):∃ sl,h1.get? b=some { ob with slots:=sl }:=by
 by_cases hb:b∈fs
 .exact u.slot b ob q n hb hx
 .exact ⟨ob.slots,u.keep b ob q n hb hx⟩
def Un.kept(k:∀ b u,h.get? b=some u->h'.get? b=some u):Un fs ex H H h h':=
 ⟨fun b ob q _ _ _=>k b ob q,fun b ob q _ _ _=>⟨ob.slots,k b ob q⟩,fun _ _ _ n _=>n,fun b ob q _=>⟨ob,k b ob q⟩,fun _ _ q=>q,fun _ _ _ q=>q,fun _ ps q=>⟨#[],by rw [q];simp⟩⟩
def Un.refl:Un fs ex H H h h:=Un.kept fun _ _ q=>q
def Un.laid(k:∀ b u,h.get? b=some u->h'.get? b=some u)(hp:h.objs.size<=a)(hn:H a=none):Un fs ex H (upd H a o) h h' where
 keep:=fun b u q _ _ _=>k b u q
 slot:=fun b u q _ _ _=>⟨u.slots,k b u q⟩
 free:=fun b u q n _=>by rw [Zb (Jc (Qv (Qz q) hp))];exact n
 there:=fun b u q _=>⟨u,k b u q⟩
 tups:=fun b xs q=>by rw [Zb (Z0b q hn)];exact q
 frzs:=fun b u xs q=>by rw [Zb (Z0b q hn)];exact q
 tbls:=fun b ps q=>⟨#[],by rw [Zb (Z0b q hn),q];simp⟩
def Un.write(mu:Mut (H x))(he:e=x\/H e=some (.own x))(k:∀ b u,b≠e->h.get? b=some u->h'.get? b=some u)(heo:∃ u,h'.get? e=some u):Un fs ex H (upd H x o) h h':=by
 have hx:∀ b,H b=none->b≠x:=fun b n z=>by subst z;rw [n] at mu;exact mu
 have hb:∀ b,H b=none->b≠e:=fun b n z=>by
  subst z;rcases he with r | r
  .exact hx b n r
  .rw [n] at r;cases r
 have hm:∀ b u,H b=some u->¬ Mut (some u)->b≠x:=fun b u q nm z=>by subst z;rw [q] at mu;exact nm mu
 refine ⟨fun b u q n _ _=>k b u (hb b n) q,fun b u q n _ _=>⟨u.slots,k b u (hb b n) q⟩,fun b u q n _=>by rw [Zb (hx b n)];exact n,fun b u q _=>?_,
  fun b xs q=>by rw [Zb (hm b _ q fun z=>z)];exact q,fun b u xs q=>by rw [Zb (hm b _ q fun z=>z)];exact q,fun b ps q=>⟨#[],by rw [Zb (hm b _ q fun z=>z),q];simp⟩⟩
 by_cases hbe:b=e
 .subst hbe;exact heo
 .exact ⟨u,k b u hbe q⟩
end
end
mutual
abbrev trk(h:Heap)(H:Hp):List Addr:=(List.range h.objs.size).filter fun a=>(H a).isSome
abbrev hidT(h:Heap)(H:Hp):Heap:=Nq h (trk h H)
def Zbz(h:Heap)(H:Hp):(hidT h H).objs.size=h.objs.size:=PySem.W.hideAll_size _ _
def Zdq{h:Heap}{H:Hp}{b:Addr}{o:Obj}(e:h.get? b=some o)(n:H b=none):(hidT h H).get? b=some o:=
 PySem.W.hideAll_get _ e fun hm=>by
  have q:(H b).isSome=true:=(List.mem_filter.mp hm).2;rw [n] at q;simp at q
def Zf1{h:Heap}{H:Hp}{b:Addr}{o:Obj}(e:(hidT h H).get? b=some o):h.get? b=some o/\H b=none:=by
 have e':h.get? b=some o:=PySem.W.of_hideAll (trk h H) e;refine ⟨e',?_⟩
 cases q:H b with
 | none=>rfl
 | some x=>
  have hm:b∈trk h H:=List.mem_filter.mpr ⟨Qaa.mpr (Qz e'),by simp [q]⟩;have z:(hidT h H).get? b=none:=PySem.W.hideAll_none (trk h H) hm;rw [z] at e;cases e
abbrev allNews(g h:Heap)(L:Addr):List (Addr×Obj):=(List.range h.objs.size).filterMap fun a=>if a=L\/(g.get? a).isSome=true then none else (h.get? a).map fun o=>(a,o)
abbrev rest(g h:Heap)(L d:Addr):List (Addr×Obj):=(allNews g h L).filter fun p=>decide (p.1≠d)
structure Mod(K:Qa)(mg:Str->Option Value)(base:Heap):Prop where
 kin:K.In base
 glob:base.Ns mainGlobals mg
 blt:∃ mb,base.Ns builtinsNs mb/\∀ x:Str,x ≠ "__name__"->mb x=bootBuiltins x
 nolimit:base.NoLimit
set_option genInjectivity false in
structure Cx where
 prog:Program
 w:World
 K:Qa
 mg:Str->Option Value
 base:Heap
 A:Around
 N:List Str
 s₀:Shared
 H₀:Hp
 env:Env
 outer:List Env
 stack:List Env
 ex:List Addr
 fn:Str->Bool
 calm:Bool
 pn:List (Addr×Obj)
 xe:Value->Shared->Prop
abbrev frs(l:List Env):List Addr:=l.filterMap (·.frame)
private abbrev Cx.fs(X:Cx):List Addr:=frs X.outer
abbrev Vis(sc:Scope)(x:Str):Prop:=sc.names.lookup x=some .local\/sc.names.lookup x=some .cell\/sc.names.lookup x=some .free
abbrev Loc(sc:Scope)(x:Str):Prop:=sc.names.lookup x=some .local\/sc.names.lookup x=some .cell
abbrev Look(env:Env)(h:Heap)(m:Str->Option Value)(x:Str)(u:Value):Prop:=
 (env.kindOf x=some .local/\m x=some u)\/((env.kindOf x=some .cell\/env.kindOf x=some .free)/\∃ c,env.cells.lookup x=some c/\h.IsCell c (some u))
structure Cx.Ok(X:Cx):Prop where
 mod:Mod X.K X.mg X.base
 kind:X.env.scope.kind=.function
 glob:X.env.globals=mainGlobals
 blt:X.env.builtins=builtinsNs
 above:X.s₀.heap.objs.size<=X.env.locals
 inj:∀ x y c,X.env.cells.lookup x=some c->X.env.cells.lookup y=some c->x=y
 has:∀ x,(X.env.kindOf x=some .cell\/X.env.kindOf x=some .free)->∃ c,X.env.cells.lookup x=some c
 cab:∀ x c,X.fn x=true->X.env.cells.lookup x=some c->X.s₀.heap.objs.size<=c
 hd:X.calm=true->X.A.handled=none
 frames:X.A.frames=some X.stack
 stk:X.stack=X.outer\/(X.stack=X.env::X.outer/\X.env.frame=some X.env.locals)
 exf:∀ b∈X.ex,b≠X.env.locals/\∀ x c,X.env.cells.lookup x=some c->c≠b
 bs:∀ b o,X.base.get? b=some o->X.s₀.heap.get? b=some o/\X.H₀ b=none
 bsz:X.base.objs.size<=X.s₀.heap.objs.size
 noex:∀ b o,X.base.get? b=some o->b∉X.ex
 exfs:∀ b∈X.ex,b∉X.fs
 funs:X.s₀.heap.FunFrames X.base X.outer
 frf:∀ b∈X.fs,X.H₀ b=none
structure Inv(X:Cx)(pins:List (Addr×Obj))(σ:List (Option V))(H:Hp)(s:Shared):Prop where
 ok:X.Ok
 os:s.os=X.s₀.os
 bare:AllBare s.gens
 base:Un X.fs X.ex X.H₀ H X.s₀.heap s.heap
 loc:∃ m,s.heap.Ns X.env.locals m/\∀ (i:Nat) (x:Str) (v:V),X.N[i]?=some x->σ[i]?=some (some v)->Vis X.env.scope x->∃ u,RelV v u/\Look X.env s.heap m x u
 cell:∀ x c,X.env.cells.lookup x=some c->∃ v,s.heap.IsCell c v
 free:H X.env.locals=none
 freeC:∀ x c,X.env.cells.lookup x=some c->H c=none
 pin:∀ p∈X.pn++pins,s.heap.get? p.1=some p.2/\H p.1=none/\p.1≠X.env.locals/\p.1∉X.fs/\∀ v,p.2.data≠.cell v
 hok:HOk X.prog X.w H s.heap
 len:σ.length=X.N.length
end
section
mutual
variable {X:Cx}{pins:List (Addr×Obj)}{σ:List (Option V)}{H H':Hp}{s:Shared}{h':Heap}
def Cx.Ok.nofr(ok:X.Ok){b:Addr}{o:Obj}(e:X.base.get? b=some o):b∉X.fs:=fun hb=>by
 have:=(ok.funs.mem hb).1;rw [e] at this;cases this
def Inv.bs(I:Inv X pins σ H s):∀ b o,X.base.get? b=some o->s.heap.get? b=some o/\H b=none:=fun b o e=>
 ⟨I.base.keep b o (I.ok.bs b o e).1 (I.ok.bs b o e).2 (I.ok.nofr e) (I.ok.noex b o e),I.base.free b o (I.ok.bs b o e).1 (I.ok.bs b o e).2 (I.ok.noex b o e)⟩
def Inv.bk(I:Inv X pins σ H s):∀ b o,X.base.get? b=some o->s.heap.get? b=some o:=fun b o e=>(I.bs b o e).1
def Inv.mod(I:Inv X pins σ H s):Mod X.K X.mg X.base:=I.ok.mod
def Inv.kIn(I:Inv X pins σ H s):X.K.In s.heap:=I.ok.mod.kin.keeps I.bk
def Inv.lt(I:Inv X pins σ H s):X.env.locals < s.heap.objs.size:=let ⟨_,hn,_⟩:=I.loc;hn.lt
def Inv.sz(I:Inv X pins σ H s):X.s₀.heap.objs.size<=s.heap.objs.size:=Jr I.ok.above (Gx I.lt)
def Inv.nofs(I:Inv X pins σ H s){a:Addr}(h:s.heap.objs.size<=a):a∉X.fs:=fun hb=>by
 obtain ⟨_,o,ho,_⟩:=I.ok.funs.mem hb;exact absurd (Qv (Qz ho) (Jr I.sz h)) (Jv _)
def Inv.cne(I:Inv X pins σ H s):∀ x c,X.env.cells.lookup x=some c->c≠X.env.locals:=fun x c e z=>by
 obtain ⟨v,o,ho,hd⟩:=I.cell x c e;obtain ⟨m,⟨o',es,ep,ho',hd',_⟩,_⟩:=I.loc;rw [z,ho'] at ho;cases ho;rw [hd'] at hd;cases hd
def Inv.funs(I:Inv X pins σ H s):s.heap.FunFrames X.base X.outer:=by
 have all:∀ (l:List Env),(∀ b∈frs l,b∈X.fs)->X.s₀.heap.FunFrames X.base l->s.heap.FunFrames X.base l:=by
  intro l
  induction l with
  | nil=>intro _ _;trivial
  | cons env r ih=>
   intro hs hl;obtain ⟨hk,⟨L,o,hf,hn,ho,hd⟩,hr⟩:=hl;have hL:L∈X.fs:=hs L (by unfold frs;rw [Jp,hf];exact Qs);obtain ⟨sl,e⟩:=I.base.slot L o ho (I.ok.frf L hL) hL fun z=>I.ok.exfs L z hL;exact ⟨hk,⟨L,_,hf,hn,e,hd⟩,ih (fun b hb=>hs b (by unfold frs;rw [Jp,hf];exact Qt _ hb)) hr⟩
 exact all X.outer (fun _ hb=>hb) I.ok.funs
def Inv.stack(I:Inv X pins σ H s):s.heap.FunFrames X.base X.stack:=by
 rcases I.ok.stk with e | ⟨e,hf⟩
 .rw [e];exact I.funs
 .rw [e]
  obtain ⟨m,hn,_⟩:=I.loc;refine .cons (by rw [I.ok.kind];decide) hf hn ?_ I.funs;exact Heap.get?_none_of_le (Jr I.ok.bsz I.ok.above)
def Inv.stkSub(I:Inv X pins σ H s):∀ b∈frs X.stack,b∈X.env.locals::X.fs:=fun b hb=>by
 rcases I.ok.stk with e | ⟨e,hf⟩
 .rw [e] at hb;exact Qt _ hb
 .rw [e] at hb
  unfold frs at hb;rw [Jp,hf] at hb;exact hb
def Inv.stkFree(I:Inv X pins σ H s):∀ b∈frs X.stack,H b=none:=fun b hb=>by
 rcases Jb.mp (I.stkSub b hb) with e | hb
 .rw [e];exact I.free
 .obtain ⟨_,o,ho,_⟩:=I.ok.funs.mem hb
  exact I.base.free b o ho (I.ok.frf b hb) fun z=>I.ok.exfs b z hb
def Inv.step{g':Array GenState}{t':Nat}{d':Drawn}{ch:List Addr}(I:Inv X pins σ H s)
  (hch:∀ b∈ch,(b∈X.ex\/X.s₀.heap.objs.size<=b)/\b≠X.env.locals/\(∀ x c,X.env.cells.lookup x=some c->c≠b)/\∀ p∈X.pn++pins,p.1≠b)
  (keep:∀ b o,b≠X.env.locals->b∉X.fs->b∉ch->s.heap.get? b=some o->H b=none->h'.get? b=some o)
  (slot:∀ b o,b≠X.env.locals->b∈X.fs->b∉ch->s.heap.get? b=some o->H b=none->∃ sl,h'.get? b=some { o with slots:=sl }) (free:∀ b o,b∉ch->s.heap.get? b=some o->H b=none->H' b=none)
  (there:∀ b o,b∉ch->s.heap.get? b=some o->∃ o',h'.get? b=some o')
  (tups:∀ b xs,H b=some (.tup xs)->H' b=some (.tup xs)) (frzs:∀ b o u,H b=some (.frz o u)->H' b=some (.frz o u)) (tbls:∀ b ps,H b=some (.tbl ps)->∃ more,H' b=some (.tbl (ps++more)))
  (ns:∀ m,s.heap.Ns X.env.locals m->h'.Ns X.env.locals m) (hok:HOk X.prog X.w H' h') (hg:AllBare g') :
  Inv X pins σ H' { s with heap:=h',gens:=g',drawn:=d',toks:=t' }:=by
 have neL:∀ b o,X.s₀.heap.get? b=some o->b≠X.env.locals:=fun b o e=>Jc (Qv (Qz e) I.ok.above)
 have neC:∀ b o,X.s₀.heap.get? b=some o->b∉X.ex->b∉ch:=fun b o e hx hb=>by
  rcases (hch b hb).1 with z | z
  .exact hx z
  .exact absurd (Qv (Qz e) z) (Jv _)
 have cellK:∀ x c,X.env.cells.lookup x=some c->∀ v,s.heap.IsCell c v->h'.IsCell c v:=fun x c e v ⟨o,ho,hd⟩=>by
  have nch:c∉ch:=fun z=>(hch c z).2.2.1 x c e rfl;by_cases hc:c∈X.fs
  .obtain ⟨sl,q⟩:=slot c o (I.cne x c e) hc nch ho (I.freeC x c e)
   exact ⟨_,q,hd⟩
  .exact ⟨o,keep c o (I.cne x c e) hc nch ho (I.freeC x c e),hd⟩
 refine ⟨I.ok,I.os,hg,⟨fun b o e n hb hx=>?_,fun b o e n hb hx=>?_,fun b o e n hx=>?_,fun b o e hx=>?_,fun b xs e=>tups b xs (I.base.tups b xs e),fun b o xs e=>frzs b o xs (I.base.frzs b o xs e),fun b ps e=>?_⟩,?_,fun x c e=>?_,?_,fun x c e=>?_,fun p hp=>?_,hok,I.len⟩
 .exact keep b o (neL b o e) hb (neC b o e hx) (I.base.keep b o e n hb hx) (I.base.free b o e n hx)
 .obtain ⟨sl,e1⟩:=I.base.slot b o e n hb hx
  obtain ⟨sl',e2⟩:=slot b _ (neL b o e) hb (neC b o e hx) e1 (I.base.free b o e n hx);exact ⟨sl',e2⟩
 .obtain ⟨o',e1⟩:=I.base.there b o e hx
  exact free b o' (neC b o e hx) e1 (I.base.free b o e n hx)
 .obtain ⟨o',e1⟩:=I.base.there b o e hx
  exact there b o' (neC b o e hx) e1
 .obtain ⟨m1,e1⟩:=I.base.tbls b ps e
  obtain ⟨m2,e2⟩:=tbls b _ e1;exact ⟨m1++m2,by rw [e2,Array.append_assoc]⟩
 .obtain ⟨m,hn,hl⟩:=I.loc
  refine ⟨m,ns m hn,fun i x v e1 e2 e3=>?_⟩;obtain ⟨u,r,l⟩:=hl i x v e1 e2 e3;refine ⟨u,r,?_⟩;rcases l with l | ⟨k,c,e,z⟩
  .exact .inl l
  .exact .inr ⟨k,c,e,cellK x c e _ z⟩
 .obtain ⟨v,z⟩:=I.cell x c e
  exact ⟨v,cellK x c e v z⟩
 .obtain ⟨m,⟨o,_,_,ho,_⟩,_⟩:=I.loc
  exact free _ o (fun z=>(hch _ z).2.1 rfl) ho I.free
 .obtain ⟨v,o,ho,hd⟩:=I.cell x c e
  exact free c o (fun z=>(hch c z).2.2.1 x c e rfl) ho (I.freeC x c e)
 .obtain ⟨e,n,ne,nf,d⟩:=I.pin p hp
  have nch:p.1∉ch:=fun z=>(hch p.1 z).2.2.2 p hp rfl;exact ⟨keep p.1 p.2 ne nf nch e n,free p.1 p.2 nch e n,ne,nf,d⟩
def Inv.un{t':Nat}(I:Inv X pins σ H s)(u:Un X.fs [] H H' s.heap h')(hok:HOk X.prog X.w H' h'):Inv X pins σ H' { s with heap:=h',toks:=t' }:=by
 obtain ⟨m,⟨o,es,ep,ho,r⟩,_⟩:=id I.loc;obtain ⟨sl,hL⟩:=u.any ho I.free (by simp)
 exact I.step (g':=s.gens) (d':=s.drawn) (ch:=[]) (fun _ z=>nomatch z) (fun b o _ hb _ e n=>u.keep b o e n hb (by simp)) (fun b o _ hb _ e n=>u.slot b o e n hb (by simp)) (fun b o _ e n=>u.free b o e n (by simp)) (fun b o _ e=>u.there b o e (by simp)) u.tups u.frzs u.tbls (fun m' hm=>by
  obtain ⟨o',es',ep',ho',r'⟩:=hm;rw [ho] at ho';cases ho';exact ⟨_,es',ep',hL,r'⟩) hok I.bare
def Inv.call{g':Array GenState}{t':Nat}{d':Drawn}{ch:List Addr}(I:Inv X pins σ H s)(u:Un (frs X.stack) ch H H' s.heap h')(hok:HOk X.prog X.w H' h')(hg:AllBare g')
  (hch:∀ b∈ch,(b∈X.ex\/X.s₀.heap.objs.size<=b)/\b≠X.env.locals/\(∀ x c,X.env.cells.lookup x=some c->c≠b)/\∀ p∈X.pn++pins,p.1≠b) :
  Inv X pins σ H' { s with heap:=h',gens:=g',drawn:=d',toks:=t' }:=by
 obtain ⟨m,⟨o,es,ep,ho,r⟩,_⟩:=id I.loc;obtain ⟨sl,hL⟩:=u.any ho I.free fun z=>(hch _ z).2.1 rfl
 exact I.step (ch:=ch) hch (fun b o hL hb hc e n=>u.keep b o e n (fun z=>(Jb.mp (I.stkSub b z)).elim hL hb) hc) (fun b o _ _ hc e n=>u.any e n hc) (fun b o hc e n=>u.free b o e n hc) (fun b o hc e=>u.there b o e hc) u.tups u.frzs u.tbls (fun m' hm=>by
  obtain ⟨o',es',ep',ho',r'⟩:=hm;rw [ho] at ho';cases ho';exact ⟨_,es',ep',hL,r'⟩) hok hg
def Inv.turned{t':Nat}{it:Addr}(I:Inv X pins σ H s)(k:∀ b o,b≠it->s.heap.get? b=some o->h'.get? b=some o)(hn:H it=none)(hL:it≠X.env.locals)
  (h1:it∈X.ex\/X.s₀.heap.objs.size<=it) (h2:∀ x c,X.env.cells.lookup x=some c->c≠it) (h3:∀ p∈X.pn++pins,p.1≠it):Inv X pins σ H { s with heap:=h',toks:=t' }:=by
 have nit:∀ b u,H b=some u->b≠it:=fun b u e z=>by rw [z,hn] at e;cases e
 refine I.step (g':=s.gens) (d':=s.drawn) (ch:=[it]) (fun b hb=>?_) (fun b o _ _ hc e _=>k b o (fun z=>hc (by simp [z])) e) (fun b o _ _ hc e _=>⟨o.slots,k b o (fun z=>hc (by simp [z])) e⟩) (fun _ _ _ _ n=>n)
  (fun b o hc e=>⟨o,k b o (fun z=>hc (by simp [z])) e⟩) (fun _ _ e=>e) (fun _ _ _ e=>e) (fun b ps e=>⟨#[],by rw [e];simp⟩) (fun m hm=>?_) (fun b u e=>?_) I.bare
 .have e:b=it:=by simpa using hb
  subst e;exact ⟨h1,hL,h2,h3⟩
 .obtain ⟨o,es,ep,ho,r⟩:=hm
  exact ⟨o,es,ep,k _ o (Ne.symm hL) ho,r⟩
 .refine (I.hok b u e).stay (fun c v hc q=>k c v ?_ q) (fun _ q=>q) fun _ _ q=>q
  rcases hc with z | z
  .rw [z];exact nit b u e
  .exact nit c _ z
def Inv.tok(I:Inv X pins σ H s)(t:Nat):Inv X pins σ H { s with toks:=t }:=I.un (h':=s.heap) (t':=t) Un.refl I.hok
def Inv.kept{t':Nat}(I:Inv X pins σ H s)(k:∀ b u,s.heap.get? b=some u->h'.get? b=some u):Inv X pins σ H { s with heap:=h',toks:=t' }:=I.un (Un.kept k) (I.hok.kept k)
def Inv.laid{a:Addr}{o:HO}{t':Nat}(I:Inv X pins σ H s)(k:∀ b u,s.heap.get? b=some u->h'.get? b=some u)(hp:s.heap.objs.size<=a)(new:Z01 X.prog X.w (upd H a o) h' a o) :
  Inv X pins σ (upd H a o) { s with heap:=h',toks:=t' }:=I.un (Un.laid k hp (I.hok.fresh hp)) (I.hok.laid k hp new)
def Inv.write{x e:Addr}{o:HO}{t':Nat}(I:Inv X pins σ H s)(mu:Mut (H x))(he:e=x\/H e=some (.own x))(k:∀ b u,b≠e->s.heap.get? b=some u->h'.get? b=some u)(heo:∃ u,h'.get? e=some u)
  (new:Z01 X.prog X.w (upd H x o) h' x o):Inv X pins σ (upd H x o) { s with heap:=h',toks:=t' }:=I.un (Un.write mu he k heo) (I.hok.write mu he k heo new)
def Inv.pins_of{pins':List (Addr×Obj)}(I:Inv X pins σ H s)(h:∀ p∈pins',s.heap.get? p.1=some p.2/\H p.1=none/\p.1≠X.env.locals/\p.1∉X.fs/\∀ v,p.2.data≠.cell v):Inv X pins' σ H s:=
 ⟨I.ok,I.os,I.bare,I.base,I.loc,I.cell,I.free,I.freeC,fun p hp=>(Qf.mp hp).elim (fun z=>I.pin p (Qh _ z)) (h p),I.hok,I.len⟩
def Z6H{N:List Str}(hN:N.Nodup){i j:Nat}{x:Str}(a:N[i]?=some x)(b:N[j]?=some x):i=j:=by
 obtain ⟨h1,e1⟩:=Qd.mp a;obtain ⟨h2,e2⟩:=Qd.mp b;exact (List.getElem_inj hN).mp (e1.trans e2.symm)
def Zcj{M:Model}{A:Around}{E:Value->Shared->Prop}{i:Nat}{x:Str}{v:V}{u:Value}{Q:Unit->Shared->Prop}(I:Inv X pins σ H s)(hN:X.N.Nodup)(hi:X.N[i]?=some x)(hx:Loc X.env.scope x)(r:RelV v u)
  (h:∀ s',Inv X pins (σ.set i (some v)) H s'->(∃ a,Heap.SameBut a s.heap s'.heap/\(a=X.env.locals\/X.env.cells.lookup x=some a))->Q () s') (hf:autoParam (X.fn x=true\/X.env.scope.names.lookup x=some .local) uE._auto_1):wpAny M A (storeName X.env x u) Q E s:=by
 obtain ⟨m,hn,hl⟩:=id I.loc;have hcls:(X.env.scope.kind == .class || (X.env.scope.kind == .module && X.env.locals != X.env.globals))=false:=by rw [I.ok.kind];rfl
 have hiσ:i < σ.length:=by rw [I.len];exact (Qd.mp hi).1
 have cne:=I.cne
 have tracked:∀ {a:Addr} {h':Heap},(∃ o,s.heap.get? a=some o/\H a=none)->Heap.SameBut a s.heap h'->HOk X.prog X.w H h':=fun {a h'} ha hs b ob e=>by
  obtain ⟨_,_,hfree⟩:=ha;refine (I.hok b ob e).stay (fun c w' hc q=>(hs.2 c ?_).trans q) (fun _ q=>q) fun _ _ q=>q;rintro rfl;rcases hc with rfl | hc
  .rw [hfree] at e;cases e
  .rw [hfree] at hc;cases hc
 rcases hx with hk | hk
 .refine wpAny_storeName_local hk hn (fun h' hn' hs=>?_) hcls
  obtain ⟨oL,_,_,hoL,_⟩:=id hn;refine h _ ⟨I.ok,I.os,I.bare,⟨fun b o e n hb hx=>?_,fun b o e n hb hx=>?_,I.base.free,fun b o e hx=>?_,I.base.tups,I.base.frzs,I.base.tbls⟩,⟨_,hn',fun j y v' e1 e2 e3=>?_⟩,fun y c e=>?_,I.free,I.freeC,fun p hp=>?_,tracked ⟨oL,hoL,I.free⟩ hs,by simpa using I.len⟩ ⟨_,hs,.inl rfl⟩
  .exact (hs.2 b (Jc (Qv (Qz e) I.ok.above))).trans (I.base.keep b o e n hb hx)
  .obtain ⟨sl,e1⟩:=I.base.slot b o e n hb hx
   exact ⟨sl,(hs.2 b (Jc (Qv (Qz e) I.ok.above))).trans e1⟩
  .obtain ⟨o',e1⟩:=I.base.there b o e hx
   exact ⟨o',(hs.2 b (Jc (Qv (Qz e) I.ok.above))).trans e1⟩
  .by_cases hj:j=i
   .subst hj
    rw [hi] at e1;cases e1;rw [Wv hiσ] at e2;cases e2;exact ⟨u,r,.inl ⟨hk,by simp⟩⟩
   .rw [Gq (Ne.symm hj)] at e2
    obtain ⟨u',r',q⟩:=hl j y v' e1 e2 e3;refine ⟨u',r',?_⟩;rcases q with ⟨k,e⟩ | ⟨k,c,e,z⟩
    .refine .inl ⟨k,?_⟩
     have:y≠x:=fun e=>hj (Z6H hN e1 (e ▸ hi))
     simp [this,e]
    .exact .inr ⟨k,c,e,z.sameBut hs (cne y c e)⟩
  .obtain ⟨w',z⟩:=I.cell y c e
   exact ⟨w',z.sameBut hs (cne y c e)⟩
  .obtain ⟨e,n,ne,nf,d⟩:=I.pin p hp
   exact ⟨(hs.2 p.1 ne).trans e,n,ne,nf,d⟩
 .have hfn:X.fn x=true:=by
   rcases hf with z | z
   .exact z
   .rw [z] at hk;cases hk
  obtain ⟨c,hc⟩:=I.ok.has x (.inl hk);obtain ⟨w',z⟩:=I.cell x c hc;refine wpAny_storeName_cell I.ok.kind hk hc z (fun h' hc' hs=>?_);obtain ⟨oc,hoc,hocd⟩:=id z;refine h { s with heap:=h' } ⟨I.ok,I.os,I.bare,⟨fun b o e n hb hx=>?_,fun b o e n hb hx=>?_,I.base.free,fun b o e hx=>?_,I.base.tups,I.base.frzs,I.base.tbls⟩,⟨m,hn.sameBut hs (Ne.symm (cne x c hc)),fun j y v' e1 e2 e3=>?_⟩,fun y c' e=>?_,I.free,I.freeC,fun p hp=>?_,tracked ⟨oc,hoc,I.freeC x c hc⟩ hs,by simpa using I.len⟩ ⟨c,hs,.inr hc⟩
  .exact (hs.2 b (Jc (Qv (Qz e) (I.ok.cab x c hfn hc)))).trans (I.base.keep b o e n hb hx)
  .obtain ⟨sl,e1⟩:=I.base.slot b o e n hb hx
   exact ⟨sl,(hs.2 b (Jc (Qv (Qz e) (I.ok.cab x c hfn hc)))).trans e1⟩
  .obtain ⟨o',e1⟩:=I.base.there b o e hx
   exact ⟨o',(hs.2 b (Jc (Qv (Qz e) (I.ok.cab x c hfn hc)))).trans e1⟩
  .by_cases hj:j=i
   .subst hj
    rw [hi] at e1;cases e1;rw [Wv hiσ] at e2;cases e2;exact ⟨u,r,.inr ⟨.inl hk,c,hc,hc'⟩⟩
   .rw [Gq (Ne.symm hj)] at e2
    obtain ⟨u',r',q⟩:=hl j y v' e1 e2 e3;refine ⟨u',r',?_⟩;rcases q with q | ⟨k,c',e,z'⟩
    .exact .inl q
    .refine .inr ⟨k,c',e,z'.sameBut hs ?_⟩
     rintro rfl;exact hj (Z6H hN e1 (I.ok.inj _ _ _ e hc ▸ hi))
  .by_cases hcc:c'=c
   .subst hcc;exact ⟨_,hc'⟩
   .obtain ⟨w2,z2⟩:=I.cell y c' e
    exact ⟨w2,z2.sameBut hs hcc⟩
  .obtain ⟨e,n,ne,nf,d⟩:=I.pin p hp
   refine ⟨(hs.2 p.1 ?_).trans e,n,ne,nf,d⟩;intro q;rw [q,hoc] at e;have q':oc=p.2:=Je.inj e;exact d w' (by rw [<- q'];exact hocd)
def Z6N{M:Model}{A:Around}{E:Value->Shared->Prop}{i:Nat}{x:Str}{v:V}{u:Value}{Q:Unit->Shared->Prop}(I:Inv X pins σ H s)(hN:X.N.Nodup)(hi:X.N[i]?=some x)(hx:Loc X.env.scope x)(r:RelV v u)
  (h:∀ s',Inv X pins (σ.set i (some v)) H s'->Q () s') (hf:autoParam (X.fn x=true\/X.env.scope.names.lookup x=some .local) uE._auto_1):wpAny M A (storeName X.env x u) Q E s:=
 Zcj I hN hi hx r (fun s' I' _=>h s' I') hf
def Inv.call'{s':Shared}{ch:List Addr}(I:Inv X pins σ H s)(ho:s'.os=s.os)(u:Un (frs X.stack) ch H H' s.heap s'.heap)(hok:HOk X.prog X.w H' s'.heap)(hg:AllBare s'.gens)
  (hch:∀ b∈ch,(b∈X.ex\/X.s₀.heap.objs.size<=b)/\b≠X.env.locals/\(∀ x c,X.env.cells.lookup x=some c->c≠b)/\∀ p∈X.pn++pins,p.1≠b):Inv X pins σ H' s':=by
 obtain ⟨h',g',d',t',o'⟩:=s';have e:o'=s.os:=ho;subst e;exact I.call (g':=g') (t':=t') (d':=d') u hok hg hch
end
end
mutual
private abbrev XK:=Value->Option Addr->Hp->Prop
private abbrev St:=List (Option V)
private abbrev VK:=V->Hp->Prop
private abbrev TE:=St->Hp->VK->Prop
private abbrev TT:=St->Hp->(Bool->Hp->Prop)->Prop
private abbrev TA:=St->Hp->(List V->Hp->Prop)->Prop
structure Ends where
 nx:St->Hp->Prop
 rt:VK
 bk:St->Hp->Prop:=fun _ _=>False
 ct:St->Hp->Prop:=fun _ _=>False
private abbrev TS:=Ends->St->Hp->Prop
abbrev EP(X:Cx)(pins:List (Addr×Obj))(σ:St)(Q:VK)(u:Value)(s':Shared):Prop:=∃ v H',Inv X pins σ H' s'/\RelV v u/\Q v H'
abbrev TP(X:Cx)(pins:List (Addr×Obj))(σ:St)(Q:Bool->Hp->Prop)(b:Bool)(s':Shared):Prop:=∃ H',Inv X pins σ H' s'/\Q b H'
abbrev AP(X:Cx)(pins:List (Addr×Obj))(σ:St)(Q:List V->Hp->Prop)(us:List Value)(s':Shared):Prop:=∃ vs H',Inv X pins σ H' s'/\Vals vs us/\Q vs H'
abbrev SP(X:Cx)(pins:List (Addr×Obj))(D:Ends)(f:Flow)(s':Shared):Prop:=
 match f with
 | .next=>∃ σ' H',Inv X pins σ' H' s'/\D.nx σ' H'
 | .brk=>∃ σ' H',Inv X pins σ' H' s'/\D.bk σ' H'
 | .cont=>∃ σ' H',Inv X pins σ' H' s'/\D.ct σ' H'
 | .ret u=>∃ v σ' H',Inv X pins σ' H' s'/\RelV v u/\D.rt v H'
abbrev PE(X:Cx)(e:Expr)(t:TE):Prop:=
 ∀ (pins:List (Addr×Obj)) (s:Shared) (σ:St) (H:Hp) (Q:VK),Inv X pins σ H s->t σ H Q->wpAny (model X.prog X.w) X.A (eval e X.env) (EP X pins σ Q) X.xe s
abbrev PT(X:Cx)(e:Expr)(t:TT):Prop:=
 ∀ (pins:List (Addr×Obj)) (s:Shared) (σ:St) (H:Hp) (Q:Bool->Hp->Prop),Inv X pins σ H s->t σ H Q->wpAny (model X.prog X.w) X.A (isTrue e X.env (eval e X.env)) (TP X pins σ Q) X.xe s
abbrev PW(X:Cx)(e:Expr)(t:TT):Prop:=
 ∀ (whole:Sem Value) (pins:List (Addr×Obj)) (s:Shared) (σ:St) (H:Hp) (Q:Bool->Hp->Prop),Inv X pins σ H s->t σ H Q->wpAny (model X.prog X.w) X.A (isTrue e X.env whole) (TP X pins σ Q) X.xe s
def PW.pt{X:Cx}{e:Expr}{t:TT}(h:PW X e t):PT X e t:=h _
abbrev PA(X:Cx)(es:List Expr)(t:TA):Prop:=
 ∀ (pos:Pos) (pins:List (Addr×Obj)) (s:Shared) (σ:St) (H:Hp) (Q:List V->Hp->Prop),Inv X pins σ H s->t σ H Q->wpAny (model X.prog X.w) X.A (spliced (backTo pos (starEach es X.env))) (AP X pins σ Q) X.xe s
abbrev PS(X:Cx)(st:Stmt)(t:TS):Prop:=
 ∀ (pins:List (Addr×Obj)) (s:Shared) (σ:St) (H:Hp) (D:Ends),Inv X pins σ H s->t D σ H->wpAny (model X.prog X.w) X.A (exec st X.env) (SP X pins D) X.xe s
abbrev PSs(X:Cx)(st:List Stmt)(t:TS):Prop:=
 ∀ (pins:List (Addr×Obj)) (s:Shared) (σ:St) (H:Hp) (D:Ends),Inv X pins σ H s->t D σ H->wpAny (model X.prog X.w) X.A (execs st X.env) (SP X pins D) X.xe s
def thn{α:Type}{t:Sem α}{Q Q':α->Shared->Prop}{M:Model}{A:Around}{E:Value->Shared->Prop}{s:Shared}(h:wpAny M A t Q E s)(hQ:∀ a s,Q a s->Q' a s):wpAny M A t Q' E s:=wpAny_mono h hQ fun _ _ x=>x
end
section
mutual
variable {X:Cx}
abbrev Z1q(i:Nat):TE:=fun σ H Q=>∃ v,σ[i]?=some (some v)/\Q v H
abbrev tC(v:V):TE:=fun _ H Q=>Q v H
def Zc0{i:Nat}{x:Str}{pos:Pos}(hN:X.N[i]?=some x)(hv:Vis X.env.scope x)(hd:autoParam ((x == ("__debug__":Str))=false) uB._auto_1)(hcd:autoParam ((x == ("__classdict__":Str))=false) uB._auto_1):PE X (.Name x pos) (Z1q i):=by
 intro pins s σ H Q I h;obtain ⟨v,e,h⟩:=h;obtain ⟨m,hn,hl⟩:=I.loc;obtain ⟨u,r,l⟩:=hl i x v hN e hv;have fin:EP X pins σ Q u s:=⟨v,H,I,r,h⟩;rcases l with ⟨hk,hm⟩ | ⟨hk,c,hc,hcell⟩
 .exact wpAny_Name (wpAny_loadName_local I.ok.kind hk hn hm fin) hd
 .rcases hk with hk | hk
  .exact wpAny_Name (wpAny_loadName_cell I.ok.kind hk hc hcell fin) hd
  .exact wpAny_Name (wpAny_loadName_free I.ok.kind hk hc hcell fin hcd) hd
def Z9{i j pos}:PE X (.Constant (.int i) j pos) (tC (.int i)):=fun _ _ _ H _ I h=>wpAny_Constant_int ⟨.int i,H,I.tok _,⟨_,rfl⟩,h⟩
def Z2A{b j pos}:PE X (.Constant (.bool b) j pos) (tC (.bl b)):=fun _ _ _ H _ I h=>Constant_bool ⟨.bl b,H,I,rfl,h⟩
def Z2B{j pos}:PE X (.Constant .none j pos) (tC .non):=fun _ _ _ H _ I h=>Constant_none ⟨.non,H,I,rfl,h⟩
def Zo{x j pos}:PE X (.Constant (.str x) j pos) (tC (.str x)):=fun _ _ _ H _ I h=>Calls.Constant_str ⟨.str x,H,I.tok _,⟨_,rfl⟩,h⟩
abbrev Gl(X:Cx)(x:Str):Prop:=X.env.kindOf x=some .globalImplicit
def Z1J{E:Value->Shared->Prop}{pins:List (Addr×Obj)}{s:Shared}{σ:St}{H:Hp}{x:Str}{u:Value}{pos:Pos}{Q:Value->Shared->Prop}(I:Inv X pins σ H s)(hg:Gl X x)(hm:X.mg x=some u)(h:Q u s)
  (hd:autoParam ((x == ("__debug__":Str))=false) uB._auto_1):wpAny (model X.prog X.w) X.A (eval (.Name x pos) X.env) Q E s:=
 Calls.Name_function_global I.ok.kind hg (Calls.loadGlobal_global (by rw [I.ok.glob];exact I.mod.glob.keeps I.bk) hm h) hd
def Z4k{E:Value->Shared->Prop}{pins:List (Addr×Obj)}{s:Shared}{σ:St}{H:Hp}{x:Str}{u:Value}{pos:Pos}{Q:Value->Shared->Prop}(I:Inv X pins σ H s)(hg:Gl X x)(hm:X.mg x=none)(hv:bootBuiltins x=some u)(h:Q u s)
  (hn:autoParam (x ≠ "__name__") uB._auto_1) (hd:autoParam ((x == ("__debug__":Str))=false) uB._auto_1):wpAny (model X.prog X.w) X.A (eval (.Name x pos) X.env) Q E s:=by
 obtain ⟨mb,h1,h2⟩:=I.mod.blt;exact Calls.Name_function_global I.ok.kind hg (Calls.loadGlobal_builtin (by rw [I.ok.glob];exact I.mod.glob.keeps I.bk) hm (by rw [I.ok.blt];exact h1.keeps I.bk) ((h2 x hn).trans hv) h) hd
def Zf8{x:Str}{v:V}{u:Value}{pos:Pos}(hg:Gl X x)(hm:X.mg x=some u)(r:RelV v u)(hd:autoParam ((x == ("__debug__":Str))=false) uB._auto_1):PE X (.Name x pos) (tC v):=
 fun _ _ _ H _ I h=>Z1J I hg hm ⟨v,H,I,r,h⟩ hd
def Z18{x:Str}{v:V}{u:Value}{pos:Pos}(hg:Gl X x)(hm:X.mg x=none)(hv:bootBuiltins x=some u)(r:RelV v u)(hn:autoParam (x ≠ "__name__") uB._auto_1)(hd:autoParam ((x == ("__debug__":Str))=false) uB._auto_1):PE X (.Name x pos) (tC v):=
 fun _ _ _ H _ I h=>Z4k I hg hm hv ⟨v,H,I,r,h⟩ hn hd
variable {a b:Expr}{ta tb:TE}{pos:Pos}
abbrev PC(X:Cx)(op:CmpOp)(a b:Expr)(t:TE):Prop:=
 ∀ (pins:List (Addr×Obj)) (s:Shared) (σ:St) (H:Hp) (Q:VK),Inv X pins σ H s->t σ H Q ->
  wpAny (model X.prog X.w) X.A (eval a X.env) (fun v s₁=>wpAny (model X.prog X.w) X.A (eval b X.env) (fun u s₂=>wpAny (model X.prog X.w) X.A (compareOp op v u) (EP X pins σ Q) X.xe s₂) X.xe s₁) X.xe s
abbrev tB(t:TE):TT:=fun σ H Q=>t σ H fun x H1=>∃ c,x=.bl c/\Q c H1
def Zh3{op:CmpOp}{t:TE}(h:PC X op a b t)(h1:behindInMarks op b=false):PT X (.Compare a [op] [b] pos) (tB t):=by
 intro pins s σ H Q I hw;refine wpAny_isTrue_Compare1 (thn (h pins s σ H _ I hw) fun v s1 h1=>thn h1 fun u s2 h2=>thn h2 fun c s3 ⟨x,H1,I1,r1,q1⟩=>?_) h1;obtain ⟨d,rfl,q⟩:=q1;cases r1;exact wpAny_truthy_bool ⟨H1,I1,q⟩
def Z9l{e:Expr}{t:TE}(h:PE X e t)(he:autoParam (∀ whole,isTrue e X.env whole=(do let v <- whole;standAt e.pos;holding [v] (truthy v))) uC._auto_1):PT X e (tB t):=by
 intro pins s σ H Q I hw;refine isTrue_plain (thn (h pins s σ H _ I hw) fun v s1 ⟨x,H1,I1,r1,q1⟩=>?_) (he _);obtain ⟨d,rfl,q⟩:=q1;cases r1;exact wpAny_truthy_bool ⟨H1,I1,q⟩
variable {tA tB':TT}{rest:List Expr}
abbrev tAnd(t u:TT):TT:=fun σ H Q=>t σ H fun c H1=>if c=true then u σ H1 Q else Q false H1
abbrev tOr(t u:TT):TT:=fun σ H Q=>t σ H fun c H1=>if c=true then Q true H1 else u σ H1 Q
abbrev tNot(t:TT):TT:=fun σ H Q=>t σ H fun c H1=>Q (!c) H1
def Zfj(ha:PT X a tA):PW X (.BoolOp .And [a] pos) tA:=by
 intro wh pins s σ H Q I h;refine isTrue_and (thn (ha pins s σ H Q I h) fun c s1 e=>?_)
 cases c with
 | true=>exact isTrue_and_nil e
 | false=>exact e
def Z7m(ha:PT X a tA):PW X (.BoolOp .Or [a] pos) tA:=by
 intro wh pins s σ H Q I h;refine isTrue_or (thn (ha pins s σ H Q I h) fun c s1 e=>?_)
 cases c with
 | false=>exact isTrue_or_nil e
 | true=>exact e
def Zh5(ha:PT X a tA)(hb:PW X (.BoolOp .And (b::rest) pos) tB'):PW X (.BoolOp .And (a::b::rest) pos) (tAnd tA tB'):=by
 intro wh pins s σ H Q I h;refine isTrue_and (thn (ha pins s σ H _ I h) fun c s1 ⟨H1,I1,q1⟩=>?_)
 cases c with
 | true=>exact hb wh pins s1 σ H1 Q I1 q1
 | false=>exact ⟨H1,I1,q1⟩
def pw_or(ha:PT X a tA)(hb:PW X (.BoolOp .Or (b::rest) pos) tB'):PW X (.BoolOp .Or (a::b::rest) pos) (tOr tA tB'):=by
 intro wh pins s σ H Q I h;refine isTrue_or (thn (ha pins s σ H _ I h) fun c s1 ⟨H1,I1,q1⟩=>?_)
 cases c with
 | true=>exact ⟨H1,I1,q1⟩
 | false=>exact hb wh pins s1 σ H1 Q I1 q1
def Zh4(ha:PT X a tA):PT X (.UnaryOp .Not a pos) (tNot tA):=by
 intro pins s σ H Q I h;exact isTrue_not (ha pins s σ H (fun c H1=>Q (!c) H1) I h)
abbrev tAndV(ta tb:TE):TE:=fun σ H Q=>ta σ H fun x H1=>∃ c,x=.bl c/\if c=true then tb σ H1 Q else Q (.bl false) H1
abbrev tOrV(ta tb:TE):TE:=fun σ H Q=>ta σ H fun x H1=>∃ c,x=.bl c/\if c=true then Q (.bl true) H1 else tb σ H1 Q
abbrev tNotV(ta:TE):TE:=fun σ H Q=>ta σ H fun x H1=>∃ c,x=.bl c/\Q (.bl (!c)) H1
def Z7j{op}{t:TE}(h:PE X a t):PE X (.BoolOp op [a] pos) t:=fun pins s σ H Q I hw=>BoolOp_one (h pins s σ H Q I hw)
def Z7i(ha:PE X a ta)(hb:PE X (.BoolOp .And (b::rest) pos) tb):PE X (.BoolOp .And (a::b::rest) pos) (tAndV ta tb):=by
 intro pins s σ H Q I h;refine BoolOp_and (thn (ha pins s σ H _ I h) fun v s1 ⟨x,H1,I1,r1,q1⟩=>?_);obtain ⟨c,rfl,q1⟩:=q1;cases r1;refine wpAny_truthy_bool ?_
 cases c with
 | true=>exact hb pins s1 σ H1 Q I1 q1
 | false=>exact ⟨.bl false,H1,I1,rfl,q1⟩
abbrev tIf(t:TT)(ta tb:TE):TE:=fun σ H Q=>t σ H fun c H1=>if c=true then ta σ H1 Q else tb σ H1 Q
end
end
mutual
abbrev SqL(K:Qa)(H:Hp)(a:Addr)(xs:List V):Prop:=
 Rd H a (.lst xs) \/
  ∃ (o:Obj) (its:Array Value) (n:Nat),K.lookup a=some o/\o.cls=.type "list"/\o.dict=none/\o.data=.seq its n/\its.size<=sizeLine/\Vals xs its.toList
abbrev SqT(K:Qa)(H:Hp)(a:Addr)(xs:List V):Prop:=
 Rd H a (.tup xs) \/
  ∃ (o:Obj) (its:Array Value) (n:Nat),K.lookup a=some o/\o.cls=.type "tuple"/\o.data=.seq its n/\its.size<=sizeLine/\Vals xs its.toList
abbrev absV:Value->Option V
 | .none=>some .non
 | .bool b=>some (.bl b)
 | .int i _=>some (.int i)
 | .str x _=>some (.str x)
 | .bytes b _=>some (.byt b)
 | .float b _=>some (.flt b)
 | .ref a=>some (.ref a)
 | .type n=>some (.ty n)
 | _=>none
def RelV.abs{x:V}{u:Value}(r:RelV x u):absV u=some x:=by
 cases x with
 | non=>cases r;rfl
 | bl _=>cases r;rfl
 | int _=>obtain ⟨t,rfl⟩:=r;rfl
 | str _=>obtain ⟨t,rfl⟩:=r;rfl
 | byt _=>obtain ⟨t,rfl⟩:=r;rfl
 | flt _=>obtain ⟨t,rfl⟩:=r;rfl
 | ref _=>cases r;rfl
 | ty _=>cases r;rfl
def RelV.inj{x y:V}{u:Value}(r:RelV x u)(q:RelV y u):x=y:=Je.inj (r.abs.symm.trans q.abs)
def Vals.inj:∀ {xs ys:List V} {us:List Value},Vals xs us->Vals ys us->xs=ys
 | _,_,_,.nil,.nil=>rfl
 | _,_,_,.cons r t,.cons r' t'=>by rw [r.inj r',Vals.inj t t']
end
section
mutual
variable {X:Cx}{pins:List (Addr×Obj)}{σ:St}{H:Hp}{s:Shared}{a:Addr}{xs ys:List V}
def SqL.of{K:Qa}(h:H a=some (.lst xs)):SqL K H a xs:=.inl (.inl h)
def SqT.of{K:Qa}(h:H a=some (.tup xs)):SqT K H a xs:=.inl (.inl h)
def Inv.list(I:Inv X pins σ H s)(h:SqL X.K H a xs):∃ its:List Value,Vals xs its/\PlainL s.heap a its.toArray/\xs.length<=sizeLine:=by
 rcases h with h | ⟨o,its,n,hk,hc,hd,hs,hz,r⟩
 .obtain ⟨z,its,n,r,e⟩:=h.ok I.hok
  exact ⟨its,r,⟨_,n,e,rfl,rfl,rfl⟩,z⟩
 .refine ⟨its.toList,r,⟨o,n,I.kIn a o hk,hc,hd,by simpa using hs⟩,?_⟩
  have e:=r.length;simp only [Array.length_toList] at e;omega
def Inv.tuple(I:Inv X pins σ H s)(h:SqT X.K H a xs):∃ its:List Value,Vals xs its/\IsTup s.heap a its.toArray/\xs.length<=sizeLine:=by
 rcases h with h | ⟨o,its,n,hk,hc,hs,hz,r⟩
 .obtain ⟨z,its,r,p⟩:=h.ok I.hok
  exact ⟨its,r,p,z⟩
 .refine ⟨its.toList,r,⟨o,I.kIn a o hk,hc,n,by simpa using hs⟩,?_⟩
  have e:=r.length;simp only [Array.length_toList] at e;omega
def Inv.list_inj(I:Inv X pins σ H s)(h:SqL X.K H a xs)(h':SqL X.K H a ys):xs=ys:=by
 obtain ⟨its,r,⟨o,n,e,_,_,d⟩,_⟩:=I.list h;obtain ⟨its',r',⟨o',n',e',_,_,d'⟩,_⟩:=I.list h';rw [e] at e';cases e';rw [d] at d';injection d' with d1 _
 have:its=its':=by simpa using congrArg Array.toList d1
 subst this;exact r.inj r'
def Inv.tuple_inj(I:Inv X pins σ H s)(h:SqT X.K H a xs)(h':SqT X.K H a ys):xs=ys:=by
 obtain ⟨its,r,⟨o,e,_,n,d⟩,_⟩:=I.tuple h;obtain ⟨its',r',⟨o',e',_,n',d'⟩,_⟩:=I.tuple h';rw [e] at e';cases e';rw [d] at d';injection d' with d1 _
 have:its=its':=by simpa using congrArg Array.toList d1
 subst this;exact r.inj r'
end
end
section
mutual
variable {X:Cx}{st:Stmt}{rest:List Stmt}{t u:TS}{e:Expr}{te:TE}{pos:Pos}
abbrev tNext:TS:=fun D σ H=>D.nx σ H
abbrev tSeq(t u:TS):TS:=fun D σ H=>t { D with nx:=u D } σ H
def Z4q:PSs X [] tNext:=fun _ _ σ H _ I h=>wpAny_execs_nil ⟨σ,H,I,h⟩
def Z2V(h1:PS X st t)(h2:PSs X rest u):PSs X (st::rest) (tSeq t u):=by
 intro pins s σ H D I h;refine wpAny_execs_cons (thn (h1 pins s σ H { D with nx:=u D } I h) fun f s1 q=>?_)
 cases f with
 | next=>
  obtain ⟨σ',H',I',q⟩:=q;exact h2 pins s1 σ' H' D I' q
 | ret v=>exact q
 | brk=>exact q
 | cont=>exact q
def Z20(h1:PS X st t):PSs X [st] t:=by
 intro pins s σ H D I h;refine wpAny_execs_cons (thn (h1 pins s σ H D I h) fun f s1 q=>?_)
 cases f with
 | next=>exact wpAny_execs_nil q
 | ret v=>exact q
 | brk=>exact q
 | cont=>exact q
abbrev tBreak:TS:=fun D σ H=>D.bk σ H
abbrev tCont:TS:=fun D σ H=>D.ct σ H
def Inv.quiet{pins:List (Addr×Obj)}{σ:St}{H:Hp}{s:Shared}(I:Inv X pins σ H s):interactive X.env=false:=by simp [interactive,I.ok.kind]
abbrev tDrop(te:TE):TS:=fun D σ H=>te σ H fun _ H1=>D.nx σ H1
def Zam(he:PE X e te)(hs:autoParam (swapsWith e none pos.line X.env=pure false) uA._auto_1):PS X (.Expr e pos) (tDrop te):=by
 intro pins s σ H D I h;exact wpAny_Expr_any (thn (he pins s σ H _ I h) fun v s1 ⟨x,H1,I1,r1,q1⟩=>⟨σ,H1,I1,q1⟩) I.quiet hs
abbrev tRet(te:TE):TS:=fun D σ H=>te σ H D.rt
def Z3b(he:PE X e te):PS X (.Return (some e) pos) (tRet te):=by
 intro pins s σ H D I h;exact wpAny_Return_some (thn (he pins s σ H _ I h) fun v s1 ⟨x,H1,I1,r1,q1⟩=>⟨x,σ,H1,I1,r1,q1⟩)
abbrev tRetN:TS:=fun D _ H=>D.rt .non H
abbrev tIfS(c:TT)(t u:TS):TS:=fun D σ H=>c σ H fun b H1=>if b=true then t D σ H1 else u D σ H1
def ps_if{c:Expr}{a b:List Stmt}{tc:TT}(hc:PT X c tc)(ha:PSs X a t)(hb:PSs X b u):PS X (.If c a b pos) (tIfS tc t u):=by
 intro pins s σ H D I h;refine wpAny_If (thn (hc pins s σ H _ I h) fun d s1 ⟨H1,I1,q1⟩=>?_)
 cases d with
 | true=>exact ha pins s1 σ H1 D I1 q1
 | false=>exact hb pins s1 σ H1 D I1 q1
end
end
mutual
private abbrev TG:=V->St->Hp->(St->Hp->Prop)->Prop
private abbrev TGs:=List V->St->Hp->(St->Hp->Prop)->Prop
abbrev PG(X:Cx)(target:Expr)(t:TG):Prop:=
 ∀ (pins:List (Addr×Obj)) (s:Shared) (σ:St) (H:Hp) (v:V) (u:Value) (Q:St->Hp->Prop),Inv X pins σ H s->RelV v u->t v σ H Q ->
  wpAny (model X.prog X.w) X.A (assign target X.env u) (fun _ s'=>∃ σ' H',Inv X pins σ' H' s'/\Q σ' H') X.xe s
abbrev PGs(X:Cx)(ts:List Expr)(t:TGs):Prop:=
 ∀ (pins:List (Addr×Obj)) (s:Shared) (σ:St) (H:Hp) (vs:List V) (us:List Value) (Q:St->Hp->Prop),Inv X pins σ H s->Vals vs us->t vs σ H Q ->
  wpAny (model X.prog X.w) X.A (assignInOrder ((assignEach ts X.env).map (·.2)) us) (fun _ s'=>∃ σ' H',Inv X pins σ' H' s'/\Q σ' H') X.xe s
private abbrev TIp:=V->V->Hp->VK->Prop
abbrev PIp(X:Cx)(op:Operator)(t:TIp):Prop:=
 ∀ (pins:List (Addr×Obj)) (s:Shared) (σ:St) (H:Hp) (x y:V) (v u:Value) (Q:VK),Inv X pins σ H s->RelV x v->RelV y u->t x y H Q ->
  wpAny (model X.prog X.w) X.A (inplaceOp op v u) (EP X pins σ Q) X.xe s
end
section
mutual
variable {X:Cx}{pos:Pos}
abbrev Z1l(i:Nat):TG:=fun v σ H Q=>Q (σ.set i (some v)) H
def Z2U{i:Nat}{x:Str}(hN:X.N.Nodup)(hi:X.N[i]?=some x)(hx:Loc X.env.scope x)(hf:autoParam (X.fn x=true\/X.env.scope.names.lookup x=some .local) uE._auto_1):PG X (.Name x pos) (Z1l i):=by
 intro pins s σ H v u Q I r h;exact wpAny_assign_Name (Z6N I hN hi hx r (fun s' I'=>⟨_,H,I',h⟩) hf)
abbrev gNil:TGs:=fun vs σ H Q=>vs=[]/\Q σ H
abbrev gCons(t:TG)(u:TGs):TGs:=fun vs σ H Q=>∃ v r,vs=v::r/\t v σ H fun σ' H'=>u r σ' H' Q
def Zfb:PGs X [] gNil:=by
 intro pins s σ H vs us Q I r h;obtain ⟨e,h⟩:=h;subst e;cases r;exact assignInOrder_nil ⟨σ,H,I,h⟩
def Z9j{e:Expr}{es:List Expr}{t:TG}{u:TGs}(h1:PG X e t)(h2:PGs X es u)
  (hs:autoParam ((assignEach (e::es) X.env).map (·.2)=assign e X.env::(assignEach es X.env).map (·.2)) uA._auto_1):PGs X (e::es) (gCons t u):=by
 intro pins s σ H vs us Q I r h;obtain ⟨v,vr,e1,h⟩:=h;subst e1
 cases r with
 | cons r rr=>
  rw [hs];refine assignInOrder_cons (thn (h1 pins s σ H _ _ _ I r h) fun _ s1 ⟨σ1,H1,I1,q1⟩=>?_);exact h2 pins s1 σ1 H1 _ _ Q I1 rr q1
abbrev gTup(K:Qa)(n:Nat)(t:TGs):TG:=fun v σ H Q=>∃ a xs,v=.ref a/\SqT K H a xs/\xs.length=n/\t xs σ H Q
def ZgW{es:List Expr}{k:Nat}{t:TGs}{n:Nat}(hc:X.calm=true)(h:PGs X es t)
  (hn:autoParam ((assignEach es X.env).length=n) uA._auto_1) (hst:autoParam ((assignEach es X.env).findIdx? (·.1)=none) uA._auto_1):PG X (.Tuple es k pos) (gTup X.K n t):=by
 intro pins s σ H v u Q I r hw;obtain ⟨a,xs,e1,hq,hl,hw⟩:=hw;subst e1;cases r;obtain ⟨its,rv,ht,hz⟩:=I.tuple hq;refine assign_Tuple_tuple (I.ok.hd hc) ht (by simp [hn,<- hl,rv.length]) hst fun h' hx=>?_;have I1:Inv X pins σ H { s with heap:=h' }:=I.kept (t':=s.toks) fun b o e=>hx b o (Jc (Qz e)) e;exact h pins _ σ H xs _ Q I1 (by simpa using rv) hw
abbrev tAsg(te:TE)(g:TG):TS:=fun D σ H=>te σ H fun x H1=>g x σ H1 D.nx
def Zh1{tg e:Expr}{te:TE}{g:TG}(he:PE X e te)(hg:PG X tg g)(hs:autoParam (swapsWithSole [tg] e pos.line X.env=pure false) uA._auto_1)(hw:autoParam (swappedStores [tg] e X.env=pure none) uA._auto_1)
  (h1:autoParam ((assignEach [tg] X.env).map (·.2)=[assign tg X.env]) uA._auto_1):PS X (.Assign [tg] e pos) (tAsg te g):=by
 intro pins s σ H D I h;refine wpAny_Assign_stores (thn (he pins s σ H _ I h) fun v s1 ⟨x,H1,I1,r1,q1⟩=>?_) hs hw;rw [h1];exact thn (hg pins s1 σ H1 x v _ I1 r1 q1) fun _ s2 q=>q
def Zh2{i:Nat}{x:Str}{e:Expr}{te:TE}{pos':Pos}(hN:X.N.Nodup)(hi:X.N[i]?=some x)(hx:Loc X.env.scope x)(he:PE X e te)(hs:autoParam (swapsWith e (some (.Name x pos')) pos.line X.env=pure false) uA._auto_1)(hf:autoParam (X.fn x=true\/X.env.scope.names.lookup x=some .local) uE._auto_1) :
  PS X (.Assign [.Name x pos'] e pos) (tAsg te (Z1l i)):=by
 intro pins s σ H D I h;refine wpAny_Assign_Name (thn (he pins s σ H _ I h) fun v s1 ⟨y,H1,I1,r1,q1⟩=>?_) hs;exact Z6N I1 hN hi hx r1 (fun s2 I2=>⟨_,H1,I2,q1⟩) hf
abbrev ipI(f:Int->Int->Int):TIp:=fun x y H Q=>∃ i j,x=.int i/\y=.int j/\Q (.int (f i j)) H
def Zgp:PIp X .Add (ipI fun i j=>i + j):=by
 intro pins s σ H x y v u Q I r1 r2 h;obtain ⟨i,j,e1,e2,q⟩:=h;subst e1;subst e2;obtain ⟨t,rfl⟩:=r1;obtain ⟨t',rfl⟩:=r2;exact iadd_int ⟨.int _,H,I.tok _,⟨_,rfl⟩,q⟩
end
end
section
mutual
variable {X:Cx}{pos:Pos}
abbrev tWhile(c:TT)(tb:TS):TS:=fun D σ H=>∃ W:Nat->St->Hp->Prop,(∃ m,W m σ H)/\∀ m σ H,W m σ H ->
 c σ H fun b H1=>if b=true then ∃ N:St->Hp->Prop,(∀ σ' H',N σ' H'->∃ m',m' < m/\W m' σ' H')/\tb { D with nx:=N,ct:=N,bk:=D.nx } σ H1 else D.nx σ H1
def ZdK{c:Expr}{body:List Stmt}{tc:TT}{tb:TS}(hp:PassesOwn (model X.prog X.w) X.A X.env X.xe)(hc:PT X c tc)(hb:PSs X body tb):PS X (.While c body [] pos) (tWhile tc tb):=by
 intro pins s σ H D I h;obtain ⟨W,⟨m0,w0⟩,turn⟩:=h;refine wpAny_While (codeAny_whileLoop (fun n s'=>∃ σ' H',Inv X pins σ' H' s'/\W n σ' H') ?_ m0 ⟨σ,H,I,w0⟩);rintro n s1 ⟨σ1,H1,I1,w1⟩;refine wpAny_passesOwn hp (thn (hc pins s1 σ1 H1 _ I1 (turn n σ1 H1 w1)) fun b s2 ⟨H2,I2,q2⟩=>?_)
 cases b with
 | true=>
  obtain ⟨N,hN,q2⟩:=q2;rw [if_pos rfl];refine wpAny_passesOwn hp (thn (hb pins s2 σ1 H2 _ I2 q2) fun f s3 q3=>?_)
  cases f with
  | next=>
   obtain ⟨σ3,H3,I3,n3⟩:=q3;obtain ⟨m',hm,w3⟩:=hN σ3 H3 n3;exact ⟨m',hm,σ3,H3,I3,w3⟩
  | cont=>
   obtain ⟨σ3,H3,I3,n3⟩:=q3;obtain ⟨m',hm,w3⟩:=hN σ3 H3 n3;exact ⟨m',hm,σ3,H3,I3,w3⟩
  | brk=>exact q3
  | ret v=>exact q3
 | false=>
  rw [if_neg Ql];exact wpAny_execs_nil ⟨σ1,H2,I2,q2⟩
end
end
mutual
structure It where
 go:Nat->Hp->Prop
 yld:Nat->Hp->V->Hp->Prop
 stop:Nat->Hp->Prop
abbrev Z1d(X:Cx)(pins:List (Addr×Obj))(H:Hp)(b:Addr):Prop:=
 H b=none/\b≠X.env.locals/\b∉X.fs/\(b∈X.ex\/X.s₀.heap.objs.size<=b)/\(∀ x c,X.env.cells.lookup x=some c->c≠b)/\∀ p∈X.pn++pins,p.1≠b
def Inv.fpOk{X:Cx}{pins:List (Addr×Obj)}{σ:St}{H H':Hp}{s:Shared}{b:Addr}(I:Inv X pins σ H s)(hb:s.heap.objs.size<=b)(hn:H' b=none):Z1d X pins H' b:=by
 refine ⟨hn,Nat.ne_of_gt (Qv I.lt hb),I.nofs hb,.inr (Jr I.sz hb),fun x c e z=>?_,fun p hp z=>?_⟩
 .obtain ⟨v,q⟩:=I.cell x c e
  exact absurd (Qv q.lt (by rw [z];exact hb)) (Jv _)
 .exact absurd (Qv (Qz (I.pin p hp).1) (by rw [z];exact hb)) (Jv _)
structure Turn(P:Program)(w:World)(K:Qa)(tg:Expr)(J:It)(fp:List Addr)(it:Addr)(tn:Nat->Heap->Prop):Prop where
 mem:it∈fp
 obj:∀ i h,tn i h->∀ b∈fp,∃ o,h.get? b=some o/\∀ v,o.data≠.cell v
 keep:∀ i h h',tn i h->(∀ b∈fp,∀ o,h.get? b=some o->h'.get? b=some o)->tn i h'
 item:∀ (X:Cx),X.prog=P->X.w=w->X.K=K->X.calm=true->∀ (i:Nat) (pins:List (Addr×Obj)) (s:Shared) (σ:St) (H:Hp) (E:Value->Shared->Prop),Inv X pins σ H s->(∀ b∈fp,Z1d X pins H b)->tn i s.heap->J.go i H ->
  wpAny (model P w) X.A (pyNext (.ref it)) (fun r s1=>∃ u,r=some u /\
   wpAny (model P w) X.A (letOwnedTupleGo tg (.ref it) u) (fun _ s2=>∃ x H',Inv X pins σ H' s2/\RelV x u/\J.yld i H x H'/\tn (i + 1) s2.heap/\∀ b∈fp,H' b=none) E s1) E s
 done:∀ (X:Cx),X.prog=P->X.w=w->X.K=K->X.calm=true->∀ (i:Nat) (pins:List (Addr×Obj)) (s:Shared) (σ:St) (H:Hp) (E:Value->Shared->Prop),Inv X pins σ H s->(∀ b∈fp,Z1d X pins H b)->tn i s.heap->J.stop i H ->
  wpAny (model P w) X.A (pyNext (.ref it)) (fun r s1=>r=none/\Inv X pins σ H s1) E s
 self:∀ (A:Around) (i:Nat) (s:Shared) (Q:Value->Shared->Prop) (E:Value->Shared->Prop),tn i s.heap->Q (.ref it) s->wpAny (model P w) A (pyIter (.ref it)) Q E s
private abbrev TI:=St->Hp->(It->Hp->Prop)->Prop
abbrev PIE(X:Cx)(pins:List (Addr×Obj))(σ:St)(tg:Expr)(R:It->Hp->Prop)(itv:Value)(s2:Shared):Prop:=
 ∃ (it:Addr) (fp:List Addr) (tn:Nat->Heap->Prop) (J:It) (H':Hp),itv=.ref it/\Inv X pins σ H' s2/\Turn X.prog X.w X.K tg J fp it tn/\tn 0 s2.heap/\(∀ b∈fp,Z1d X pins H' b)/\R J H'
abbrev PI(X:Cx)(tg iter:Expr)(wi:TI):Prop:=
 ∀ (pins:List (Addr×Obj)) (s:Shared) (σ:St) (H:Hp) (R:It->Hp->Prop),Inv X pins σ H s->wi σ H R ->
  wpAny (model X.prog X.w) X.A (eval iter X.env) (fun v s1=>wpAny (model X.prog X.w) X.A (pyIter v) (PIE X pins σ tg R) X.xe s1) X.xe s
def go_of{M:Model}{A:Around}{E:Value->Shared->Prop}{s:Shared}{tg:Expr}{it:Addr}{u:Value}{o:Obj}{n:String}{vs:Array Value}{Q:Unit->Shared->Prop}(ho:s.heap.get? it=some o)(hc:o.cls=.type n)(hd:o.data=.fields vs)
    (hn:["enumerate","zip","dict_itemiterator","dict_reverseitemiterator","odict_iterator","itertools.zip_longest","itertools.pairwise"].contains n=false) (hQ:Q () s):wpAny M A (letOwnedTupleGo tg (.ref it) u) Q E s:=by
  unfold letOwnedTupleGo
  cases tg <;> first
    | exact wpAny_pure hQ
    | (cases u <;> first
        | exact wpAny_pure hQ
        | (refine wpAny_bind (wpAny_load ho ?_)
           rw [hc,hd];show wpAny M A (if (["enumerate","zip","dict_itemiterator","dict_reverseitemiterator","odict_iterator","itertools.zip_longest","itertools.pairwise"].contains n && vs[0]? == some (rawInt _))=true then _ else _) Q E s;rw [if_neg (by intro h;rw [hn,Bool.false_and] at h;cases h)];exact wpAny_pure hQ))
abbrev Itl(K:Qa)(a:Addr):It:=
 ⟨fun i H=>∃ xs x,SqL K H a xs/\xs[i]?=some x,fun i H x H'=>H'=H/\∀ xs,SqL K H a xs->xs[i]?=some x,fun i H=>∃ xs,SqL K H a xs/\xs.length<=i⟩
abbrev Itt(K:Qa)(a:Addr):It:=
 ⟨fun i H=>∃ xs x,SqT K H a xs/\xs[i]?=some x,fun i H x H'=>H'=H/\∀ xs,SqT K H a xs->xs[i]?=some x,fun i H=>∃ xs,SqT K H a xs/\xs.length<=i⟩
abbrev Itr(lo:Int)(n:Nat):It:=⟨fun i _=>i < n,fun i H x H'=>H'=H/\x=.int (lo + i),fun i _=>n<=i⟩
def Z8s{P:Program}{w:World}{K:Qa}{tg:Expr}(a it:Addr):Turn P w K tg (Itl K a) [it] it (fun i h=>h.IsListIter it a i) where
 mem:=by simp
 obj:=fun i h st b hb=>by
  have e:b=it:=by simpa using hb
  subst e;obtain ⟨o,e,c,d⟩:=st;exact ⟨o,e,fun v z=>by rw [d] at z;cases z⟩
 keep:=fun i h h' st k=>st.at fun o e=>k it (by simp) o e
 item:=by
  intro X hP hw hK hc i pins s σ H E I hf st hg;subst hP hw hK;obtain ⟨xs,x,hq,hx⟩:=hg;obtain ⟨its,rv,p,hz⟩:=I.list hq;obtain ⟨u,hu,ru⟩:=rv.get hx;obtain ⟨f0,f1,f2,f3,f4,f5⟩:=hf it (by simp);refine wpAny_pyNext_list_item st p.isList (x:=u) (by simpa using hu) fun h' st' sb=>?_;have I1:Inv X pins σ H { s with heap:=h' }:=I.turned (t':=s.toks) (fun b o hb e=>(sb.2 b hb).trans e) f0 f1 f3 f4 f5;obtain ⟨o,e,c,d⟩:=id st';exact ⟨u,rfl,go_of (s:={ s with heap:=h' }) e c d (by decide) ⟨x,H,I1,ru,⟨rfl,fun ys hy=>by rw [I.list_inj hy hq];exact hx⟩,st',fun b hb=>(hf b hb).1⟩⟩
 done:=by
  intro X hP hw hK hc i pins s σ H E I hf st hg;subst hP hw hK;obtain ⟨xs,hq,hx⟩:=hg;obtain ⟨its,rv,p,hz⟩:=I.list hq;obtain ⟨f0,f1,f2,f3,f4,f5⟩:=hf it (by simp);have hl:=rv.length;exact wpAny_pyNext_list_end (I.ok.hd hc) st p.isList (by simp;omega) fun h' eb=>⟨rfl,I.turned (t':=s.toks) (fun b o hb e=>eb b o hb e) f0 f1 f3 f4 f5⟩
 self:=fun _ _ _ _ _ st h=>wpAny_pyIter_listiter st h
def ZaW{P:Program}{w:World}{K:Qa}{tg:Expr}(a it:Addr):Turn P w K tg (Itt K a) [it] it (fun i h=>h.IsTupleIter it a i) where
 mem:=by simp
 obj:=fun i h st b hb=>by
  have e:b=it:=by simpa using hb
  subst e;obtain ⟨o,e,c,d⟩:=st;exact ⟨o,e,fun v z=>by rw [d] at z;cases z⟩
 keep:=fun i h h' st k=>st.at fun o e=>k it (by simp) o e
 item:=by
  intro X hP hw hK hc i pins s σ H E I hf st hg;subst hP hw hK;obtain ⟨xs,x,hq,hx⟩:=hg;obtain ⟨its,rv,p,hz⟩:=I.tuple hq;obtain ⟨u,hu,ru⟩:=rv.get hx;obtain ⟨f0,f1,f2,f3,f4,f5⟩:=hf it (by simp);refine wpAny_pyNext_tuple_item st (show s.heap.IsTuple a its.toArray from p) (x:=u) (by simpa using hu) fun h' st' sb=>?_;have I1:Inv X pins σ H { s with heap:=h' }:=I.turned (t':=s.toks) (fun b o hb e=>(sb.2 b hb).trans e) f0 f1 f3 f4 f5;obtain ⟨o,e,c,d⟩:=id st';exact ⟨u,rfl,go_of (s:={ s with heap:=h' }) e c d (by decide) ⟨x,H,I1,ru,⟨rfl,fun ys hy=>by rw [I.tuple_inj hy hq];exact hx⟩,st',fun b hb=>(hf b hb).1⟩⟩
 done:=by
  intro X hP hw hK hc i pins s σ H E I hf st hg;subst hP hw hK;obtain ⟨xs,hq,hx⟩:=hg;obtain ⟨its,rv,p,hz⟩:=I.tuple hq;obtain ⟨f0,f1,f2,f3,f4,f5⟩:=hf it (by simp);have hl:=rv.length;exact wpAny_pyNext_tuple_end (I.ok.hd hc) st (show s.heap.IsTuple a its.toArray from p) (by simp;omega) fun h' eb=>⟨rfl,I.turned (t':=s.toks) (fun b o hb e=>eb b o hb e) f0 f1 f3 f4 f5⟩
 self:=fun _ _ _ _ _ st h=>wpAny_pyIter_tupleiter st h
def ZaV{P:Program}{w:World}{K:Qa}{tg:Expr}(it:Addr)(lo:Int)(n:Nat):Turn P w K tg (Itr lo n) [it] it (fun i h=>IsRangeIter h it (lo + (i:Nat) * 1) ((n:Int) - (i:Nat)) 1) where
 mem:=by simp
 obj:=fun i h st b hb=>by
  have e:b=it:=by simpa using hb
  subst e
  exact ⟨_,st,fun v z=>by
   have z':Data.fields _=Data.cell v:=z;cases z'⟩
 keep:=fun i h h' st k=>k it (by simp) _ st
 item:=by
  intro X hP hw hK hc i pins s σ H E I hf st hg;subst hP hw hK;obtain ⟨f0,f1,f2,f3,f4,f5⟩:=hf it (by simp);have W:=Walks.range (prog:=X.prog) (w:=X.w) (I.ok.hd hc) it lo 1 n;refine W.item i s _ _ hg st fun v h' tk hv st' kk=>?_;obtain ⟨t,rfl⟩:=hv;have I1:Inv X pins σ H { s with heap:=h',toks:=tk }:=I.turned (fun b o hb e=>kk b o (by simpa using hb) e) f0 f1 f3 f4 f5;refine ⟨_,rfl,go_of (s:={ s with heap:=h',toks:=tk }) (n :="range_iterator") st' rfl rfl (by decide) ⟨.int (lo + i),H,I1,⟨t,?_⟩,⟨rfl,rfl⟩,st',fun b hb=>(hf b hb).1⟩⟩;rw [Int.mul_one]
 done:=by
  intro X hP hw hK hc i pins s σ H E I hf st hg;subst hP hw hK;obtain ⟨f0,f1,f2,f3,f4,f5⟩:=hf it (by simp);exact wpAny_pyNext_range_end (I.ok.hd hc) st (by have:n<=i:=hg;omega) fun h' eb=>⟨rfl,I.turned (t':=s.toks) (fun b o hb e=>eb b o hb e) f0 f1 f3 f4 f5⟩
 self:=fun _ _ _ _ _ st h=>wpAny_pyIter_rangeiter st h
end
section
mutual
variable {X:Cx}{tg:Expr}
abbrev iList(K:Qa)(tl:TE):TI:=fun σ H R=>tl σ H fun x H1=>∃ a,x=.ref a/\(∃ xs,SqL K H1 a xs)/\R (Itl K a) H1
def Zfd{l:Expr}{tl:TE}(hl:PE X l tl):PI X tg l (iList X.K tl):=by
 intro pins s σ H R I h;refine thn (hl pins s σ H _ I h) fun v s1 ⟨x,H1,I1,r1,q1⟩=>?_;obtain ⟨a,e,⟨xs,hq⟩,q⟩:=q1;subst e;cases r1;obtain ⟨its,rv,p,hz⟩:=I1.list hq;refine wpAny_pyIter_list p.isList ?_;refine ⟨s1.heap.objs.size,[s1.heap.objs.size],_,_,H1,rfl,I1.kept (t':=s1.toks) fun b o e=>Qi _ e,Z8s a _,⟨_,Qy _ rfl,rfl,rfl⟩,fun b hb=>?_,q⟩;have e:b=s1.heap.objs.size:=by simpa using hb
 subst e;exact I1.fpOk (Qq _) (I1.hok.fresh (Qq _))
def Z9o{pins:List (Addr×Obj)}{σ:St}{H:Hp}{s:Shared}{R:It->Hp->Prop}{E:Value->Shared->Prop}{lo hi:Int}{t u v:Tok}{tk:Nat}(I:Inv X pins σ H s)(h1:-(2 ^ 62)<=lo)(h2:lo < 2 ^ 62)(h3:-(2 ^ 62)<=hi)(h4:hi < 2 ^ 62)
  (q:R (Itr lo (hi - lo).toNat) H):wpAny (model X.prog X.w) X.A (pyIter (.ref s.heap.objs.size)) (PIE X pins σ tg R) E { s with heap:=s.heap.push { cls:=.type "range",data:=.fields #[.int lo t,.int hi u,.int 1 v] },toks:=tk }:=by
 refine wpAny_pyIter_range (IsRange.new ..) (small_one h1 h2 h3 h4) ?_;have I1:Inv X pins σ H { s with heap:=s.heap.push { cls:=.type "range",data:=.fields #[.int lo t,.int hi u,.int 1 v] },toks:=tk }:=I.kept fun b o e=>Qi _ e
 refine ⟨(s.heap.push { cls:=.type "range",data:=.fields #[.int lo t,.int hi u,.int 1 v] }).objs.size,[(s.heap.push { cls:=.type "range",data:=.fields #[.int lo t,.int hi u,.int 1 v] }).objs.size],_,_,H,rfl,
  I1.kept (t':=tk) fun b o e=>Qi _ e,ZaV _ lo (hi - lo).toNat,?_,fun b hb=>?_,q⟩
 .have e1:lo + ((0:Nat):Int) * 1=lo:=by simp
  have e2:(((hi - lo).toNat:Nat):Int) - ((0:Nat):Int)=Builtin.Range.rangeSize lo hi 1:=by rw [rangeSize_one];split <;> omega
  show IsRangeIter _ _ (lo + ((0:Nat):Int) * 1) ((((hi - lo).toNat:Nat):Int) - ((0:Nat):Int)) 1;rw [e1,e2];exact Qy _ rfl
 .have e:b=(s.heap.push { cls:=.type "range",data:=.fields #[.int lo t,.int hi u,.int 1 v] }).objs.size:=by simpa using hb
  subst e;exact I1.fpOk (Qq _) (I1.hok.fresh (Qq _))
abbrev iRng1(ta:TA):TI:=fun σ H R=>ta σ H fun vs H1=>∃ j:Int,vs=[.int j]/\-(2 ^ 62)<=j/\j < 2 ^ 62/\R (Itr 0 j.toNat) H1
abbrev iRng2(ta:TA):TI:=fun σ H R=>ta σ H fun vs H1=>∃ i j:Int,vs=[.int i,.int j]/\(-(2 ^ 62)<=i/\i < 2 ^ 62/\-(2 ^ 62)<=j/\j < 2 ^ 62)/\R (Itr i (j - i).toNat) H1
def Z5K{a:Expr}{ta:TA}{p pos:Pos}(hg:Gl X "range")(hm:X.mg "range"=none)(ha:PA X [a] ta)(hs:autoParam (starEach [a] X.env=[(false,eval a X.env)]) uA._auto_1):PI X tg (.Call (.Name "range" p) [a] [] pos) (iRng1 ta):=by
 intro pins s σ H R I h;refine Call_ (Z4k I hg hm boot_range (PyProof.Rows.callWith_type1 (thn (ha pos pins s σ H _ I h) fun us s1 ⟨vs,H1,I1,r1,q1⟩=>?_) hs rfl));obtain ⟨j,e,q1,q2,q⟩:=q1;subst e
 cases r1 with
 | cons r rr=>
  cases rr;obtain ⟨t,rfl⟩:=r;exact call_range_1 (Z9o I1 (by omega) (by omega) q1 q2 (by simpa using q))
def Zc1{a b:Expr}{ta:TA}{p pos:Pos}(hg:Gl X "range")(hm:X.mg "range"=none)(ha:PA X [a,b] ta)(hs:autoParam (starEach [a,b] X.env=[(false,eval a X.env),(false,eval b X.env)]) uA._auto_1)(hs2:autoParam (starEach [b] X.env=[(false,eval b X.env)]) uA._auto_1) :
  PI X tg (.Call (.Name "range" p) [a,b] [] pos) (iRng2 ta):=by
 intro pins s σ H R I h;refine Call_ (Z4k I hg hm boot_range (PyProof.Rows.callWith_type1 (thn (ha pos pins s σ H _ I h) fun us s1 ⟨vs,H1,I1,r1,q1⟩=>?_) (by rw [hs,hs2]) (by rw [hs2];rfl)));obtain ⟨i,j,e,⟨q1,q2,q3,q4⟩,q⟩:=q1;subst e
 cases r1 with
 | cons r rr=>
  cases rr with
  | cons r' rr=>
   cases rr;obtain ⟨t,rfl⟩:=r;obtain ⟨t',rfl⟩:=r';exact call_range_2 (Z9o I1 q1 q2 q3 q4 q)
abbrev tFor(wi:TI)(g:TG)(tb:TS):TS:=fun D σ H=>wi σ H fun J H1=>∃ W:Nat->Nat->St->Hp->Prop,(∃ m,W 0 m σ H1)/\∀ i m σ H,W i m σ H ->
 (J.stop i H/\D.nx σ H)\/(J.go i H/\∃ N:St->Hp->Prop,(∀ σ' H',N σ' H'->∃ m',m' < m/\W (i + 1) m' σ' H')/\∀ x H',J.yld i H x H'->g x σ H' fun σ2 H2=>tb { D with nx:=N,ct:=N,bk:=D.nx } σ2 H2)
abbrev Z4p(fp:List Addr)(h:Heap):List (Addr×Obj):=fp.filterMap fun b=>(h.get? b).map fun o=>(b,o)
def Z1Z{fp:List Addr}{h:Heap}{b:Addr}{o:Obj}(hb:b∈fp)(e:h.get? b=some o):(b,o)∈Z4p fp h:=Wm.mpr ⟨b,hb,by rw [e];rfl⟩
def ZbQ{fp:List Addr}{h:Heap}{p:Addr×Obj}(hp:p∈Z4p fp h):p.1∈fp/\h.get? p.1=some p.2:=by
 obtain ⟨b,hb,e⟩:=Wm.mp hp
 cases q:h.get? b with
 | none=>rw [q] at e;cases e
 | some o=>
  rw [q] at e;have e':(b,o)=p:=Je.inj e;subst e';exact ⟨hb,q⟩
def Inv.pinned{pins:List (Addr×Obj)}{σ:St}{H:Hp}{s:Shared}{fp:List Addr}(I:Inv X pins σ H s)(hf:∀ b∈fp,Z1d X pins H b)(ho:∀ b∈fp,∃ o,s.heap.get? b=some o/\∀ v,o.data≠.cell v):Inv X (pins++Z4p fp s.heap) σ H s:=
 I.pins_of fun p hp=>(Qf.mp hp).elim (fun z=>I.pin p (Qe _ z)) fun z=>by
  obtain ⟨hb,e⟩:=ZbQ z;obtain ⟨f0,f1,f2,_⟩:=hf p.1 hb;obtain ⟨o,e',d⟩:=ho p.1 hb;rw [e] at e';cases e';exact ⟨e,f0,f1,f2,d⟩
def Inv.unpinned{pins pl:List (Addr×Obj)}{σ:St}{H:Hp}{s:Shared}(I:Inv X (pins++pl) σ H s):Inv X pins σ H s:=I.pins_of fun p hp=>I.pin p (Qe _ (Qh _ hp))
def Z7l{iter:Expr}{body:List Stmt}{wi:TI}{g:TG}{tb:TS}{pos:Pos}(hp:PassesOwn (model X.prog X.w) X.A X.env X.xe)(hc:X.calm=true)(hi:PI X tg iter wi)(hg:PG X tg g)(hb:PSs X body tb)
  (hs:autoParam (∀ x,foldedSetIterable iter X.env x=pure x) uC._auto_1):PS X (.For tg iter body [] pos) (tFor wi g tb):=by
 intro pins s σ H D I h;refine wpAny_For (thn (hi pins s σ H _ I h) fun v s1 h1=>thn h1 fun itv s2 h2=>?_) hs;obtain ⟨it,fp,tn,J,H2,e,I2,T,st2,f2,W,⟨m0,w0⟩,turn⟩:=h2;subst e;have stat:∀ {H':Hp},(∀ b∈fp,H' b=none)->∀ b∈fp,Z1d X pins H' b:=fun hn b hb=>⟨hn b hb,(f2 b hb).2⟩;refine codeAny_forLoop_any (fun n s'=>∃ i σ' H',Inv X pins σ' H' s'/\tn i s'.heap/\(∀ b∈fp,H' b=none)/\W i n σ' H') ?_ m0 ⟨0,σ,H2,I2,st2,fun b hb=>(f2 b hb).1,w0⟩;rintro n s3 ⟨i,σ3,H3,I3,st3,fr3,w3⟩;rcases turn i n σ3 H3 w3 with ⟨stop,qn⟩ | ⟨go,N,hN,step⟩
 .refine wpAny_passesOwn hp (thn (T.done X rfl rfl rfl hc i pins s3 σ3 H3 X.xe I3 (stat fr3) st3 stop) fun r s4 ⟨hr,I4⟩=>?_)
  subst hr;exact wpAny_execs_nil ⟨σ3,H3,I4,qn⟩
 .refine wpAny_passesOwn hp (thn (T.item X rfl rfl rfl hc i pins s3 σ3 H3 X.xe I3 (stat fr3) st3 go) fun r s4 ⟨u,hr,h4⟩=>?_)
  subst hr;refine wpAny_passesOwn hp (thn h4 fun _ s5 ⟨x,H5,I5,r5,y5,st5,fr5⟩=>?_);have I5':=I5.pinned (stat fr5) (T.obj _ _ st5);refine wpAny_passesOwn hp (thn (hg _ s5 σ3 H5 x u _ I5' r5 (step x H5 y5)) fun _ s6 ⟨σ6,H6,I6,q6⟩=>?_);refine wpAny_passesOwn hp (thn (hb _ s6 σ6 H6 _ I6 q6) fun f s7 q7=>?_)
  have again:∀ {σ7:St} {H7:Hp},Inv X (pins++Z4p fp s5.heap) σ7 H7 s7->N σ7 H7->∃ m,m < n/\∃ i σ' H',Inv X pins σ' H' s7/\tn i s7.heap/\(∀ b∈fp,H' b=none)/\W i m σ' H':=fun {σ7 H7} I7 n7=>by
   obtain ⟨m',hm,w7⟩:=hN σ7 H7 n7;refine ⟨m',hm,i + 1,σ7,H7,I7.unpinned,T.keep _ _ _ st5 fun b hb o e=>(I7.pin (b,o) (Qe _ (Qe _ (Z1Z hb e)))).1,fun b hb=>?_,w7⟩;obtain ⟨o,e,d⟩:=T.obj _ _ st5 b hb;exact (I7.pin (b,o) (Qe _ (Qe _ (Z1Z hb e)))).2.1
  cases f with
  | next=>obtain ⟨σ7,H7,I7,n7⟩:=q7;exact again I7 n7
  | cont=>obtain ⟨σ7,H7,I7,n7⟩:=q7;exact again I7 n7
  | brk=>obtain ⟨σ7,H7,I7,q7⟩:=q7;exact ⟨σ7,H7,I7.unpinned,q7⟩
  | ret v=>obtain ⟨x7,σ7,H7,I7,r7,q7⟩:=q7;exact ⟨x7,σ7,H7,I7.unpinned,r7,q7⟩
end
end
mutual
private abbrev R2:=V->V->Hp->VK->Prop
abbrev OpR(X:Cx)(f:Value->Value->Sem Value)(r:R2):Prop:=
 ∀ (pins:List (Addr×Obj)) (s:Shared) (σ:St) (H:Hp) (x y:V) (v u:Value) (Q:VK),Inv X pins σ H s->RelV x v->RelV y u->r x y H Q ->
  wpAny (model X.prog X.w) X.A (f v u) (EP X pins σ Q) X.xe s
abbrev UnR(X:Cx)(f:Value->Sem Value)(r:V->Hp->VK->Prop):Prop:=
 ∀ (pins:List (Addr×Obj)) (s:Shared) (σ:St) (H:Hp) (x:V) (v:Value) (Q:VK),Inv X pins σ H s->RelV x v->r x H Q ->
  wpAny (model X.prog X.w) X.A (f v) (EP X pins σ Q) X.xe s
abbrev Z0f(X:Cx)(f:Value)(r:List V->Hp->VK->Prop):Prop:=
 ∀ (pins:List (Addr×Obj)) (s:Shared) (σ:St) (H:Hp) (xs:List V) (us:List Value) (Q:VK),Inv X pins σ H s->Vals xs us->r xs H Q ->
  wpAny (model X.prog X.w) X.A (call f us) (EP X pins σ Q) X.xe s
abbrev tOp(r:R2)(ta tb:TE):TE:=fun σ H Q=>ta σ H fun x H1=>tb σ H1 fun y H2=>r x y H2 Q
abbrev tUn(r:V->Hp->VK->Prop)(ta:TE):TE:=fun σ H Q=>ta σ H fun x H1=>r x H1 Q
abbrev rI(C:Int->Int->Prop)(g:Int->Int->V):R2:=fun x y H Q=>∃ i j,x=.int i/\y=.int j/\C i j/\Q (g i j) H
abbrev rI0(g:Int->Int->V):R2:=fun x y H Q=>∃ i j,x=.int i/\y=.int j/\Q (g i j) H
abbrev rU(g:Int->V):V->Hp->VK->Prop:=fun x H Q=>∃ i,x=.int i/\Q (g i) H
end
section
mutual
variable {X:Cx}{a b c:Expr}{ta tb tc:TE}{pos:Pos}
def binT(ha:PE X a ta)(hb:PE X b tb){pins:List (Addr×Obj)}{s:Shared}{σ:St}{H:Hp}{R:V->V->Hp->Prop}(I:Inv X pins σ H s)
  (h:ta σ H fun x H1=>tb σ H1 fun y H2=>R x y H2) {Q:Value->Shared->Prop} {f:Value->Value->Sem Value}
  (hf:∀ v u s2 x y H2,Inv X pins σ H2 s2->RelV x v->RelV y u->R x y H2->wpAny (model X.prog X.w) X.A (f v u) Q X.xe s2) :
  wpAny (model X.prog X.w) X.A (eval a X.env) (fun v s₁=>wpAny (model X.prog X.w) X.A (eval b X.env) (fun u s₂=>wpAny (model X.prog X.w) X.A (f v u) Q X.xe s₂) X.xe s₁) X.xe s:=by
 refine thn (ha pins s σ H _ I h) fun v s1 ⟨x,H1,I1,r1,q1⟩=>?_;refine thn (hb pins s1 σ H1 _ I1 q1) fun u s2 ⟨y,H2,I2,r2,q2⟩=>?_;exact hf v u s2 x y H2 I2 r1 r2 q2
def pe_op{op:Operator}{r:R2}(ho:OpR X (binaryOp op) r)(ha:PE X a ta)(hb:PE X b tb):PE X (.BinOp a op b pos) (tOp r ta tb):=by
 intro pins s σ H Q I h;exact wpAny_BinOp (binT ha hb I h fun v u s2 x y H2 I2 rx ry q=>ho pins s2 σ H2 x y v u Q I2 rx ry q)
def pe_un{op:UnaryOp}{r:V->Hp->VK->Prop}(ho:UnR X (unaryOp op) r)(ha:PE X a ta):PE X (.UnaryOp op a pos) (tUn r ta):=by
 intro pins s σ H Q I h;exact UnaryOp_ (thn (ha pins s σ H _ I h) fun v s1 ⟨x,H1,I1,r1,q1⟩=>ho pins s1 σ H1 x v Q I1 r1 q1)
def opI{f:Value->Value->Sem Value}{C:Int->Int->Prop}{g:Int->Int->Int}
  (rule:∀ (i j:Int) (t u:Tok) (s:Shared) (Q:Value->Shared->Prop) (E:Value->Shared->Prop),C i j->Q (.int (g i j) s.toks) { s with toks:=s.toks + 1 }->wpAny (model X.prog X.w) X.A (f (.int i t) (.int j u)) Q E s) :
  OpR X f (rI C fun i j=>.int (g i j)):=by
 intro pins s σ H x y v u Q I rx ry h;obtain ⟨i,j,rfl,rfl,hc,q⟩:=h;obtain ⟨t,rfl⟩:=rx;obtain ⟨t',rfl⟩:=ry;exact rule i j t t' s _ _ hc ⟨.int (g i j),H,I.tok _,⟨_,rfl⟩,q⟩
def opI0{f:Value->Value->Sem Value}{g:Int->Int->Int}
  (rule:∀ (i j:Int) (t u:Tok) (s:Shared) (Q:Value->Shared->Prop) (E:Value->Shared->Prop),Q (.int (g i j) s.toks) { s with toks:=s.toks + 1 }->wpAny (model X.prog X.w) X.A (f (.int i t) (.int j u)) Q E s) :
  OpR X f (rI0 fun i j=>.int (g i j)):=by
 intro pins s σ H x y v u Q I rx ry h;obtain ⟨i,j,rfl,rfl,q⟩:=h;obtain ⟨t,rfl⟩:=rx;obtain ⟨t',rfl⟩:=ry;exact rule i j t t' s _ _ ⟨.int (g i j),H,I.tok _,⟨_,rfl⟩,q⟩
def opB0{f:Value->Value->Sem Value}{g:Int->Int->Bool}
  (rule:∀ (i j:Int) (t u:Tok) (s:Shared) (Q:Value->Shared->Prop) (E:Value->Shared->Prop),Q (.bool (g i j)) s->wpAny (model X.prog X.w) X.A (f (.int i t) (.int j u)) Q E s) :
  OpR X f (rI0 fun i j=>.bl (g i j)):=by
 intro pins s σ H x y v u Q I rx ry h;obtain ⟨i,j,rfl,rfl,q⟩:=h;obtain ⟨t,rfl⟩:=rx;obtain ⟨t',rfl⟩:=ry;exact rule i j t t' s _ _ ⟨.bl (g i j),H,I,rfl,q⟩
abbrev CDiv(i j:Int):Prop:=0 < j/\j < 1073741824
abbrev CMul(i j:Int):Prop:=(-(2 ^ 64) < i/\i < 2 ^ 64)\/(-(2 ^ 64) < j/\j < 2 ^ 64)
def CMul.ok{i j:Int}(h:CMul i j):IntMulOk i j:=by
 rcases h with ⟨h1,h2⟩ | ⟨h1,h2⟩
 .exact .of_left (intBits_le_64 h1 h2)
 .exact .of_right (intBits_le_64 h1 h2)
def ZgN:OpR X (binaryOp .Add) (rI0 fun i j=>.int (i + j)):=opI0 fun _ _ _ _ _ _ _ q=>add_int q
def ZgP:OpR X (binaryOp .Mult) (rI CMul fun i j=>.int (i * j)):=opI fun _ _ _ _ _ _ _ hc q=>mul_int q hc.ok
def Zf3:OpR X (binaryOp .FloorDiv) (rI CDiv fun i j=>.int (i / j)):=opI fun i j _ _ _ _ _ hc q=>by
 have h1:(0:Int) < j:=hc.1;have h2:j < 1073741824:=hc.2;exact floordiv_int (by omega) (by rw [Int.fdiv_eq_ediv_of_nonneg i (by omega)];exact q) (.inl (PyProof.noPylong_small (by omega)))
def ZgO:OpR X (binaryOp .Mod) (rI (fun _ j=>0 < j) fun i j=>.int (i % j)):=opI fun i j _ _ _ _ _ hc q=>by
 have h1:(0:Int) < j:=hc;exact mod_int' (by omega) (by rw [Int.fmod_eq_emod_of_nonneg i (by omega)];exact q)
def unI{f:Value->Sem Value}{g:Int->Int}
  (rule:∀ (i:Int) (t:Tok) (s:Shared) (Q:Value->Shared->Prop) (E:Value->Shared->Prop),Q (.int (g i) s.toks) { s with toks:=s.toks + 1 }->wpAny (model X.prog X.w) X.A (f (.int i t)) Q E s) :
  UnR X f (rU fun i=>.int (g i)):=by
 intro pins s σ H x v Q I rx h;obtain ⟨i,rfl,q⟩:=h;obtain ⟨t,rfl⟩:=rx;exact rule i t s _ _ ⟨.int (g i),H,I.tok _,⟨_,rfl⟩,q⟩
def Zhm:UnR X (unaryOp .USub) (rU fun i=>.int (-i)):=unI fun _ _ _ _ _ q=>neg_int q
end
end
mutual
abbrev scal:V->V->Bool
 | .non,.non=>true | .non,.int _=>true | .int _,.non=>true | .non,.bl _=>true | .bl _,.non=>true | .non,.str _=>true | .str _,.non=>true
 | .int _,.int _=>true | .bl _,.bl _=>true | .str _,.str _=>true | .byt _,.byt _=>true
 | .int _,.str _=>true | .str _,.int _=>true | .bl _,.str _=>true | .str _,.bl _=>true
 | _,_=>false
abbrev rEq:R2:=fun x y H Q=>scal x y=true/\Q (.bl (decide (x=y))) H
abbrev rNe:R2:=fun x y H Q=>scal x y=true/\Q (.bl (!decide (x=y))) H
def Za0{i j:Int}:decide (V.int i=V.int j)=(i == j):=by
 rw [Nz];simp
def Zbo{i j:Bool}:decide (V.bl i=V.bl j)=(i == j):=by
 rw [Nz];simp
def Za1{i j:Str}:decide (V.str i=V.str j)=(i == j):=by
 rw [Nz];simp
def Z9Z{i j:Array UInt8}:decide (V.byt i=V.byt j)=(i.toList == j.toList):=by
 rw [Nz];cases i;cases j;simp
end
section
mutual
variable {X:Cx}{a b c:Expr}{ta tb tc:TE}{pos:Pos}
def ZD{pins:List (Addr×Obj)}{σ:St}{H:Hp}{s:Shared}{Q:VK}{k k':Bool}(I:Inv X pins σ H s)(q:Q (.bl k) H)(e:k=k'):EP X pins σ Q (.bool k') s:=by
 subst e;exact ⟨.bl k,H,I,rfl,q⟩
def op_eq:OpR X (compareOp .Eq) rEq:=by
 intro pins s σ H x y v u Q I rx ry h;obtain ⟨hs,q⟩:=h
 cases x with
 | non=>
  cases rx
  cases y with
  | non=>cases ry;exact PySem.EqNone.eq_none_none (ZD I q (by simp))
  | bl j=>cases ry;exact PySem.EqNone.eq_none_bool (ZD I q (by simp))
  | int j=>obtain ⟨t',rfl⟩:=ry;exact PySem.EqNone.eq_none_int (ZD I q (by simp))
  | str j=>obtain ⟨t',rfl⟩:=ry;exact PySem.EqNone.eq_none_str (ZD I q (by simp))
  | _=>exact absurd (show false=true from hs) Ql
 | bl i=>
  cases rx
  cases y with
  | non=>cases ry;exact PySem.EqNone.eq_bool_none (ZD I q (by simp))
  | bl j=>cases ry;exact eq_bool (ZD I q Zbo)
  | str j=>obtain ⟨t',rfl⟩:=ry;exact PySem.EqMixed.eq_bool_str (ZD I q (by simp))
  | _=>exact absurd (show false=true from hs) Ql
 | int i=>
  obtain ⟨t,rfl⟩:=rx
  cases y with
  | non=>cases ry;exact PySem.EqNone.eq_int_none (ZD I q (by simp))
  | int j=>obtain ⟨t',rfl⟩:=ry;exact eq_int (ZD I q Za0)
  | str j=>obtain ⟨t',rfl⟩:=ry;exact PySem.EqMixed.eq_int_str (ZD I q (by simp))
  | _=>exact absurd (show false=true from hs) Ql
 | str i=>
  obtain ⟨t,rfl⟩:=rx
  cases y with
  | non=>cases ry;exact PySem.EqNone.eq_str_none (ZD I q (by simp))
  | bl j=>cases ry;exact PySem.EqMixed.eq_str_bool (ZD I q (by simp))
  | int j=>obtain ⟨t',rfl⟩:=ry;exact PySem.EqMixed.eq_str_int (ZD I q (by simp))
  | str j=>obtain ⟨t',rfl⟩:=ry;exact eq_str (ZD I q Za1)
  | _=>exact absurd (show false=true from hs) Ql
 | byt i=>
  obtain ⟨t,rfl⟩:=rx
  cases y with
  | byt j=>obtain ⟨t',rfl⟩:=ry;exact PySem.W.eq_bytes (ZD I q Z9Z)
  | _=>exact absurd (show false=true from hs) Ql
 | _=>cases y <;> exact absurd (show false=true from hs) Ql
def op_ne:OpR X (compareOp .NotEq) rNe:=by
 intro pins s σ H x y v u Q I rx ry h;obtain ⟨hs,q⟩:=h
 cases x with
 | non=>
  cases rx
  cases y with
  | non=>cases ry;exact PySem.EqNone.ne_none_none (ZD I q (by simp))
  | bl j=>cases ry;exact PySem.EqNone.ne_none_bool (ZD I q (by simp))
  | int j=>obtain ⟨t',rfl⟩:=ry;exact PySem.EqNone.ne_none_int (ZD I q (by simp))
  | str j=>obtain ⟨t',rfl⟩:=ry;exact PySem.EqNone.ne_none_str (ZD I q (by simp))
  | _=>exact absurd (show false=true from hs) Ql
 | bl i=>
  cases rx
  cases y with
  | non=>cases ry;exact PySem.EqNone.ne_bool_none (ZD I q (by simp))
  | bl j=>cases ry;exact ne_bool (ZD I q (congrArg not Zbo))
  | str j=>obtain ⟨t',rfl⟩:=ry;exact PySem.EqMixed.ne_bool_str (ZD I q (by simp))
  | _=>exact absurd (show false=true from hs) Ql
 | int i=>
  obtain ⟨t,rfl⟩:=rx
  cases y with
  | non=>cases ry;exact PySem.EqNone.ne_int_none (ZD I q (by simp))
  | int j=>obtain ⟨t',rfl⟩:=ry;exact ne_int (ZD I q (congrArg not Za0))
  | str j=>obtain ⟨t',rfl⟩:=ry;exact PySem.EqMixed.ne_int_str (ZD I q (by simp))
  | _=>exact absurd (show false=true from hs) Ql
 | str i=>
  obtain ⟨t,rfl⟩:=rx
  cases y with
  | non=>cases ry;exact PySem.EqNone.ne_str_none (ZD I q (by simp))
  | bl j=>cases ry;exact PySem.EqMixed.ne_str_bool (ZD I q (by simp))
  | int j=>obtain ⟨t',rfl⟩:=ry;exact PySem.EqMixed.ne_str_int (ZD I q (by simp))
  | str j=>obtain ⟨t',rfl⟩:=ry;exact ne_str (ZD I q (congrArg not Za1))
  | _=>exact absurd (show false=true from hs) Ql
 | byt i=>
  obtain ⟨t,rfl⟩:=rx
  cases y with
  | byt j=>obtain ⟨t',rfl⟩:=ry;exact PySem.W.ne_bytes (ZD I q (congrArg not Z9Z))
  | _=>exact absurd (show false=true from hs) Ql
 | _=>cases y <;> exact absurd (show false=true from hs) Ql
def op_lt:OpR X (compareOp .Lt) (rI0 fun i j=>.bl (decide (i < j))):=opB0 fun _ _ _ _ _ _ _ q=>lt_int q
def op_gt:OpR X (compareOp .Gt) (rI0 fun i j=>.bl (decide (j < i))):=opB0 fun _ _ _ _ _ _ _ q=>gt_int q
def op_ge:OpR X (compareOp .GtE) (rI0 fun i j=>.bl (decide (j<=i))):=opB0 fun _ _ _ _ _ _ _ q=>ge_int q
def Z5J:OpR X (compareOp .Is) (fun x y H Q=>y=.non/\Q (.bl (decide (x=.non))) H):=by
 intro pins s σ H x y v u Q I rx ry h;obtain ⟨rfl,q⟩:=h;cases ry;refine is_none_gen (ZD I q ?_)
 cases x <;> first
  | (cases rx;rfl)
  | (obtain ⟨t,rfl⟩:=rx;rfl)
def Z9g:OpR X (compareOp .NotIn) (fun x y H Q=>∃ i j,x=.str i/\y=.str j/\Q (.bl (!(!(Builtin.Str.occurrences j i 0 j.length 1).isEmpty))) H):=by
 intro pins s σ H x y v u Q I rx ry h;obtain ⟨i,j,rfl,rfl,q⟩:=h;obtain ⟨t,rfl⟩:=rx;obtain ⟨t',rfl⟩:=ry;exact notIn_str (ZD I q rfl)
def Zw(b:Expr){op:CmpOp}(h:autoParam (op≠.In) uB._auto_1)(h2:autoParam (op≠.NotIn) uB._auto_1):behindInMarks op b=false:=by
 have e1:(op == CmpOp.In)=false:=by cases op <;> first | rfl | exact absurd rfl h
 have e2:(op == CmpOp.NotIn)=false:=by cases op <;> first | rfl | exact absurd rfl h2
 cases b <;> simp [behindInMarks,e1,e2]
def Z4n{op:CmpOp}{r:R2}(ho:OpR X (compareOp op) r)(ha:PE X a ta)(hb:PE X b tb)(hm:behindInMarks op b=false):PE X (.Compare a [op] [b] pos) (tOp r ta tb):=by
 intro pins s σ H Q I h;exact wpAny_Compare1 (binT ha hb I h fun v u s2 x y H2 I2 rx ry q=>ho pins s2 σ H2 x y v u Q I2 rx ry q) hm
abbrev tTest(t:TE):TT:=fun σ H Q=>t σ H fun x H'=>∃ k,x=.bl k/\Q k H'
def Z2W{op:CmpOp}{r:R2}(ho:OpR X (compareOp op) r)(ha:PE X a ta)(hb:PE X b tb)(hm:behindInMarks op b=false):PT X (.Compare a [op] [b] pos) (tTest (tOp r ta tb)):=by
 intro pins s σ H Q I h
 refine wpAny_isTrue_Compare1 (thn (ha pins s σ H _ I h) fun v s1 ⟨x,H1,I1,r1,q1⟩=>thn (hb pins s1 σ H1 _ I1 q1) fun u s2 ⟨y,H2,I2,r2,q2⟩=>
  thn (ho pins s2 σ H2 x y v u _ I2 r1 r2 q2) fun c s3 ⟨z,H3,I3,r3,k,e,q3⟩=>?_) hm
 subst e;cases r3;exact wpAny_truthy_bool ⟨H3,I3,q3⟩
def line63:(sizeLine:Nat) < 2 ^ 63:=by rw [sizeLine_eq];decide
def ZaO:OpR X (binaryOp .Add) (fun x y H Q=>∃ i j,x=.str i/\y=.str j/\i.length + j.length<=sizeLine/\Q (.str (i++j)) H):=by
 intro pins s σ H x y v u Q I rx ry h;obtain ⟨i,j,rfl,rfl,hz,q⟩:=h;obtain ⟨t,rfl⟩:=rx;obtain ⟨t',rfl⟩:=ry;exact add_str (fun t' tk=>⟨.str (i++j),H,I.tok _,⟨_,rfl⟩,q⟩) hz
def vals1{x:V}{us:List Value}(r:Vals [x] us):∃ u,us=[u]/\RelV x u:=by
 cases r with
 | cons r1 r2=>cases r2;exact ⟨_,rfl,r1⟩
def vals2{x y:V}{us:List Value}(r:Vals [x,y] us):∃ u w',us=[u,w']/\RelV x u/\RelV y w':=by
 cases r with
 | cons r1 r2=>
  cases r2 with
  | cons r3 r4=>cases r4;exact ⟨_,_,rfl,r1,r3⟩
def Zb3(hc:X.calm=true):Z0f X (.builtin "min") (fun xs H Q=>∃ i j,xs=[.int i,.int j]/\Q (.int (if j < i then j else i)) H):=by
 intro pins s σ H xs us Q I r h;obtain ⟨i,j,rfl,q⟩:=h;obtain ⟨u,w',rfl,⟨t,rfl⟩,⟨t',rfl⟩⟩:=vals2 r;refine min_two_ints (I.ok.hd hc) fun h' tk k=>⟨_,H,I.kept k,?_,q⟩;by_cases hj:j < i
 .rw [if_pos hj,if_pos hj];exact ⟨_,rfl⟩
 .rw [if_neg hj,if_neg hj];exact ⟨_,rfl⟩
def Z8S:Z0f X (.type "str") (fun xs H Q=>∃ i,xs=[.int i]/\i.natAbs.log2 < 1920/\Q (.str (toString i)) H):=by
 intro pins s σ H xs us Q I r h;obtain ⟨i,rfl,hz,q⟩:=h;obtain ⟨u,rfl,t,rfl⟩:=vals1 r;exact PySem.P.str_of_int hz ⟨.str _,H,I.tok _,⟨_,rfl⟩,q⟩
abbrev LenV(K:Qa)(x:V)(H:Hp)(n:Nat):Prop:=
 match x with
 | .str y=>y.length<=sizeLine/\n=y.length
 | .byt y=>y.size<=sizeLine/\n=y.size
 | .ref p=>(∃ xs,SqL K H p xs/\n=xs.length)\/∃ xs,SqT K H p xs/\n=xs.length
 | _=>False
def call_len:Z0f X (.builtin "len") (fun xs H Q=>∃ x n,xs=[x]/\LenV X.K x H n/\Q (.int n) H):=by
 intro pins s σ H xs us Q I r h;obtain ⟨x,n,rfl,e,q⟩:=h;obtain ⟨u,rfl,rx⟩:=vals1 r;have hl:=line63;have hs:sizeLine=16777216:=sizeLine_eq
 cases x with
 | str y=>
  obtain ⟨t,rfl⟩:=rx;obtain ⟨hy,e'⟩:y.length<=sizeLine/\n=y.length:=e;subst e';exact len_str (by omega) ⟨.int _,H,I.tok _,⟨_,rfl⟩,q⟩
 | byt y=>
  obtain ⟨t,rfl⟩:=rx;obtain ⟨hy,e'⟩:y.size<=sizeLine/\n=y.size:=e;subst e';exact PySem.W.len_bytes (by omega) ⟨.int _,H,I.tok _,⟨_,rfl⟩,q⟩
 | ref p=>
  cases rx;have e':(∃ xs,SqL X.K H p xs/\n=xs.length)\/∃ xs,SqT X.K H p xs/\n=xs.length:=e;rcases e' with ⟨xs,hx,e'⟩ | ⟨xs,hx,e'⟩
  .subst e'
   obtain ⟨its,r',pl,hz⟩:=I.list hx;have hlen:=r'.length;exact Calls.call_len_list pl.isList (by simp only [Jh];omega) ⟨.int xs.length,H,I.tok _,⟨_,by simp only [Jh];rw [hlen]⟩,q⟩
  .subst e'
   obtain ⟨its,r',pl,hz⟩:=I.tuple hx;have hlen:=r'.length;exact len_tuple pl (by simp only [Jh];omega) ⟨.int xs.length,H,I.tok _,⟨_,by simp only [Jh];rw [hlen]⟩,q⟩
 | _=>exact (show False from e).elim
end
end
mutual
structure ObjM(h:Heap)(x dx C:Addr)(mA:Str->Option Value):Prop where
 obj:h.get? x=some (Ws C dx)
 ns:h.Ns1 dx mA
 ne:dx≠x
def ZbI{h:Heap}{dx:Addr}{mA:Str->Option Value}(n:h.Ns1 dx mA):∃ od,h.get? dx=some od/\∀ name,Qab name od=some (mA name):=by
 obtain ⟨o,es,ep,ho,hd,hk,_,hm⟩:=n;refine ⟨o,ho,fun name=>?_⟩;have e:=hm name;unfold nsFind findBy at e;rw [<- Array.find?_toList] at e;unfold Qab;rw [hd];dsimp only
 split
 .rename_i y q
  rw [q] at e;exact congrArg some e
 .rename_i q
  rw [q] at e
  have a:es.toList.any (·.refKey)=false:=by
   rw [List.any_eq_false];intro y hy;obtain ⟨z,t,hkey⟩:=hk y (Array.mem_toList_iff.mp hy);simp [DictEntry.refKey,hkey]
  have a':¬ es.toList.any (·.refKey)=true:=by rw [a];exact Ql
  rw [if_neg a'];exact congrArg some e
def ObjM.look{h:Heap}{x dx C:Addr}{mA:Str->Option Value}(I:ObjM h x dx C mA):∃ od,PySem.W.InstAt h x (Ws C dx) C (some od)/\∀ name,Qab name od=some (mA name):=
 let ⟨od,ho,hl⟩:=ZbI I.ns
 ⟨od,⟨I.obj,rfl,rfl,ho⟩,hl⟩
end
section
mutual
variable {prog:Program}{w:World}{A:Around}{E:Value->Shared->Prop}{s:Shared}{K:Qa}{x dx C f:Addr}{mA:Str->Option Value}{name:Str}{v:Value}
def Zez{expr:Bool}{Q:Value->Shared->Prop}(X:K.In s.heap)(I:ObjM s.heap x dx C mA)(hg:Nv K C name=true)(hh:Gg K C=true)
  (ha:Ji K (.ref C) name=some none) (hv:mA name=some v) (hv':PySem.W.handedIn v=true) (h:Q v { s with toks:=s.toks + 1 }) :
  wpAny (model prog w) A (getAttr (.ref x) name expr) Q E s:=by
 obtain ⟨od,J,hl⟩:=I.look;exact PySem.W.get_value X J (Gv hg).1 (PySem.W.findObj_own hh ha rfl (by rw [hl,hv])) hv' h
def Zdh{pl:Sem Bool}{Q:Value×List Value->Shared->Prop}(X:K.In s.heap)(I:ObjM s.heap x dx C mA)(hg:Nv K C name=true)
  (hf:Ji K (.ref C) name=some (some (.ref f))) (ht:Gy K (.ref f)=true) (hv:mA name=none) (h:Q (.ref f,[.ref x]) s) :
  wpAny (model prog w) A (getMethod (.ref x) name pl) Q E s:=by
 obtain ⟨od,J,hl⟩:=I.look;exact PySem.W.method_fn X J (Gv hg).1 (Gv hg).2 hf (beq_iff_eq.mp ht) (by show (Qab name od).map (·.isSome)=some false;rw [hl,hv];rfl) h
def Zfx{ns:List Str}{Q:Unit->Shared->Prop}(X:K.In s.heap)(I:ObjM s.heap x dx C mA)
  (hs:Ji K (.ref C) "__setattr__"=some (some (.builtin "object.__setattr__"))) (hp:Qak K C=true) (ht:PySem.W.takerIn K C name=some none) (hh:Gg K C=true)
  (hw:PySem.Within mA ns) (hsz:ns.length<=sizeLine)
  (h:∀ h',ObjM h' x dx C (fun y=>if y=name then some v else mA y)->Heap.SameBut dx s.heap h'->Q () { s with heap:=h',toks:=s.toks + 2 }) :
  wpAny (model prog w) A (setAttr (.ref x) name v) Q E s:=by
 obtain ⟨od,J,hl⟩:=I.look;refine PySem.W.set_plain X J hs (PySem.W.osa_open (s:={ s with toks:=s.toks + 1 }) (r:=none) X J hp ht fun b=>?_);obtain ⟨cd,hc,hd'⟩:=PySem.W.any_some hh;have hx:s.heap.get? x=some ⟨.ref C,some dx,.plain,#[]⟩:=I.obj;refine wpAny_bind (wpAny_pure (wpAny_bind (wpAny_bind (wpAny_loadPart hx (wpAny_bind (PySem.W.Looks.here (s:={ s with toks:=s.toks + 1 }) (PySem.W.looks_clsIn X hc) ?_))))));rw [hd'];refine wpAny_pure (a:=some dx) (wpAny_bind (wpAny_pure (wpAny_bind ?_)));refine wpAny_nsSet1 (s:={ s with toks:=s.toks + 1 }) I.ns fun h' hn2 hs2=>?_;obtain ⟨oD,esD,epD,hoD,hdD,hcD⟩:=hn2.count (PySem.Within.cons name v hw);refine wpAny_bind (wpAny_lookBehind hoD (by rw [hdD];exact pastItsLine_dict (Jr hcD (by rw [Jy];omega))) ?_);exact wpAny_pure (h _ ⟨(hs2.2 _ (Ne.symm I.ne)).trans I.obj,hn2,I.ne⟩ hs2)
def ZdA{R:Result->Shared->Prop}{vs:List Value}{kw:List (Str×Value)}(X:K.In s.heap)(hm:PySem.W.makesIn K C=true)
  (hi:Ji K (.ref C) "__init__"=some (some (.ref f))) (hf:PySem.W.typeIn K (.ref f)=some (.type "function"))
  (h:codeAny (model prog w) (A.under (.builtin "type.__call__" ⟨.ref C::vs,kw⟩)) (.call (.ref f) ⟨.ref (s.heap.objs.size + 1)::vs,kw⟩) (PySem.W.InitBack (s.heap.objs.size + 1) R)
   { s with heap:=(s.heap.push Wc).push (Ws C s.heap.objs.size) }) :
  codeAny (model prog w) A (.call (.ref C) ⟨vs,kw⟩) R s:=by
 obtain ⟨hh,g,d,t,os⟩:=s;exact PySem.W.make_core (PySem.W.makes_of X hm) (Nt X hi) (fun self=>PySem.W.bind_fn X self hf) (.inl rfl) h
end
end
mutual
abbrev Z1g(f:Str)(v:V):List (Str×V)->List (Str×V)
 | []=>[(f,v)]
 | (g,x)::r=>if g=f then (g,v)::r else (g,x)::Z1g f v r
def Z6r(f g:Str)(v:V):∀ fs:List (Str×V),(Z1g f v fs).lookup g=if g=f then some v else fs.lookup g
 | []=>by
  show Gd g [(f,v)]=_;by_cases h:g=f
  .have hb:(g == f)=true:=beq_iff_eq.mpr h
   simp only [Gd,hb,if_pos h]
  .have hb:(g == f)=false:=beq_eq_false_iff_ne.mpr h
   simp only [Gd,hb,if_neg h]
 | (k,x)::r=>by
  have ih:=Z6r f g v r;rw [show Z1g f v ((k,x)::r)=(if k=f then (k,v)::r else (k,x)::Z1g f v r) from rfl];by_cases hk:k=f
  .rw [if_pos hk]
   by_cases h:g=k
   .have hb:(g == k)=true:=beq_iff_eq.mpr h
    simp only [Gd,hb,if_pos (h.trans hk)]
   .have hb:(g == k)=false:=beq_eq_false_iff_ne.mpr h
    simp only [Gd,hb,if_neg (fun e:g=f=>h (e.trans hk.symm))]
  .rw [if_neg hk]
   by_cases h:g=k
   .have hb:(g == k)=true:=beq_iff_eq.mpr h
    simp only [Gd,hb,if_neg (fun e:g=f=>hk (h.symm.trans e))]
   .have hb:(g == k)=false:=beq_eq_false_iff_ne.mpr h
    simp only [Gd,hb];exact ih
def Z5y(f:Str)(v:V):∀ fs:List (Str×V),f∈(Z1g f v fs).map (·.1)/\∀ g,g∈fs.map (·.1)->g∈(Z1g f v fs).map (·.1)
 | []=>⟨by simp [Z1g],fun g h=>by simp at h⟩
 | (k,x)::r=>by
  obtain ⟨i1,i2⟩:=Z5y f v r;rw [show Z1g f v ((k,x)::r)=(if k=f then (k,v)::r else (k,x)::Z1g f v r) from rfl];by_cases hk:k=f
  .rw [if_pos hk]
   subst hk;exact ⟨by simp,fun g h=>by simpa using h⟩
  .rw [if_neg hk]
   refine ⟨?_,fun g h=>?_⟩
   .rw [Qj]
    exact Qt _ i1
   .rw [Qj] at h ⊢
    rcases Jb.mp h with e | e
    .exact Jb.mpr (.inl e)
    .exact Qt _ (i2 g e)
def Z6q(f:Str)(v:V):∀ fs:List (Str×V),(Z1g f v fs).length<=fs.length + 1
 | []=>by simp [Z1g]
 | (k,x)::r=>by
  have ih:=Z6q f v r;rw [show Z1g f v ((k,x)::r)=(if k=f then (k,v)::r else (k,x)::Z1g f v r) from rfl];by_cases hk:k=f
  .rw [if_pos hk,Jy,Jy];omega
  .rw [if_neg hk,Jy,Jy];omega
def RelO.some_of{v:V}{o:Option Value}(r:RelO (some v) o):∃ u,o=some u/\RelV v u:=by
 cases o with
 | none=>exact (show False from r).elim
 | some u=>exact ⟨u,rfl,r⟩
def RelO.none_of{o:Option Value}(r:RelO none o):o=none:=by
 cases o with
 | none=>rfl
 | some u=>exact (show False from r).elim
def Zby{v:V}{u:Value}(r:RelV v u):PySem.W.handedIn u=true:=by
 cases v with
 | non=>cases (show u=Value.none from r);rfl
 | bl b=>cases (show u=Value.bool b from r);rfl
 | int i=>obtain ⟨t,e⟩:=(show ∃ t,u=Value.int i t from r);cases e;rfl
 | str x=>obtain ⟨t,e⟩:=(show ∃ t,u=Value.str x t from r);cases e;rfl
 | byt b=>obtain ⟨t,e⟩:=(show ∃ t,u=Value.bytes b t from r);cases e;rfl
 | flt b=>obtain ⟨t,e⟩:=(show ∃ t,u=Value.float b t from r);cases e;rfl
 | ref a=>cases (show u=Value.ref a from r);rfl
 | ty n=>cases (show u=Value.type n from r);rfl
end
section
variable {P:Program}{w:World}{H H':Hp}{h h':Heap}{a C dx:Addr}{fs fs':List (Str×V)}
theorem Z7F(hok:HOk P w H h)(e:H a=some (.ins C dx fs)):∃ mA,ObjM h a dx C mA/\(∀ f,RelO (fs.lookup f) (mA f))/\PySem.Within mA (fs.map (·.1))/\fs.length<=1000/\H dx=some (.own a):=by
 obtain ⟨d,z,ne,ob,mA,n,r,q⟩:=(show Z01 P w H h a (.ins C dx fs) from hok a _ e);exact ⟨mA,⟨ob,n,ne⟩,r,q,z,d⟩
end
mutual
structure Cls(K:Qa)(C:Addr):Prop where
 pg:Nv K C Str.empty=true
 hd:Gg K C=true
 po:Qak K C=true
 sa:Ji K (.ref C) "__setattr__"=some (some (.builtin "object.__setattr__"))
def Cls.get{K:Qa}{C:Addr}(c:Cls K C)(f:Str):Nv K C f=true:=c.pg
abbrev Zv(K:Qa)(C:Addr)(f:Str):Prop:=Ji K (.ref C) f=some none
def Zv.taker{K:Qa}{C:Addr}{f:Str}(n:Zv K C f):PySem.W.takerIn K C f=some none:=by
 unfold PySem.W.takerIn;rw [show Ji K (.ref C) f=some none from n];rfl
structure Con(K:Qa)(C:Addr)(f:Str)(v:V)(u:Value):Prop where
 at_:Ji K (.ref C) f=some (some u)
 rel:RelV v u
 get:PySem.W.specialIn K u "__get__"=some none
 cp:PySem.W.copiedNames.contains f=false
structure Meth(K:Qa)(C:Addr)(m:Str)(f:Addr):Prop where
 at_:Ji K (.ref C) m=some (some (.ref f))
 fn:Gy K (.ref f)=true
 kp:Jt K (.ref f)=true
end
section
mutual
variable {X:Cx}{pins:List (Addr×Obj)}{σ:St}{H:Hp}{s:Shared}{a C dx:Addr}{fs:List (Str×V)}{f:Str}{v:V}{A:Around}{E:Value->Shared->Prop}
def ZaI{b:Bool}{Q:Value->Shared->Prop}(I:Inv X pins σ H s)(e:H a=some (.ins C dx fs))(c:Cls X.K C)(n:Zv X.K C f)(l:fs.lookup f=some v)
  (h:∀ u s',Inv X pins σ H s'->RelV v u->Q u s'):wpAny (model X.prog X.w) A (getAttr (.ref a) f b) Q E s:=by
 obtain ⟨mA,O,r,_,_,_⟩:=Z7F I.hok e;obtain ⟨u,hu,ru⟩:=RelO.some_of (v:=v) (o:=mA f) (by rw [<- l];exact r f);exact Zez I.kIn O (c.get f) c.hd n hu (Zby ru) (h u _ (I.tok _) ru)
def Z6X{m:Str}{g:Addr}{pl:Sem Bool}{Q:Value×List Value->Shared->Prop}(I:Inv X pins σ H s)(e:H a=some (.ins C dx fs))(c:Cls X.K C)(k:Meth X.K C m g)(l:fs.lookup m=none)
  (h:Q (.ref g,[.ref a]) s):wpAny (model X.prog X.w) A (getMethod (.ref a) m pl) Q E s:=by
 obtain ⟨mA,O,r,_,_,_⟩:=Z7F I.hok e;have hn:mA m=none:=RelO.none_of (by rw [<- l];exact r m);exact Zdh I.kIn O (c.get m) k.at_ k.fn hn h
def ZaS{y:V}{u:Value}{Q:Unit->Shared->Prop}(I:Inv X pins σ H s)(e:H a=some (.ins C dx fs))(c:Cls X.K C)(n:Zv X.K C f)(hl:fs.length < 1000)(ry:RelV y u)
  (h:∀ s',Inv X pins σ (upd H a (.ins C dx (Z1g f y fs))) s'->Q () s'):wpAny (model X.prog X.w) A (setAttr (.ref a) f u) Q E s:=by
 obtain ⟨mA,O,r,wi,_,ho⟩:=Z7F I.hok e;have hz:(fs.map (·.1)).length<=sizeLine:=by rw [Qx,sizeLine_eq];omega
 refine Zfx I.kIn O c.sa c.po n.taker c.hd wi hz fun h' O' sb=>h _ ?_;have hd:∃ o,h'.get? dx=some o:=let ⟨o,_,_,e',_⟩:=O'.ns;⟨o,e'⟩;refine I.write (x:=a) (e:=dx) (by rw [e];exact True.intro) (.inr ho) (fun b q hb z=>(sb.2 b hb).trans z) hd ?_;refine ⟨by rw [Zb O.ne];exact ho,?_,O.ne,O'.obj,_,O'.ns,fun g=>?_,fun g hg=>?_⟩
 .have:=Z6q f y fs;omega
 .show RelO ((Z1g f y fs).lookup g) (if g=f then some u else mA g)
  rw [Z6r];by_cases q:g=f
  .rw [if_pos q,if_pos q];exact ry
  .rw [if_neg q,if_neg q];exact r g
 .by_cases q:g=f
  .rw [q];exact (Z5y f y fs).1
  .refine (Z5y f y fs).2 g (wi g fun z=>hg ?_)
   show (if g=f then some u else mA g)=none;rw [if_neg q];exact z
def Inv.made(I:Inv X pins σ H s):Inv X pins σ (upd (upd H s.heap.objs.size (.own (s.heap.objs.size + 1))) (s.heap.objs.size + 1) (.ins C s.heap.objs.size []))
  { s with heap:=(s.heap.push Wc).push (Ws C s.heap.objs.size) }:=by
 have e1:(s.heap.push Wc).get? s.heap.objs.size=some Wc:=Qy s.heap rfl
 have e2:((s.heap.push Wc).push (Ws C s.heap.objs.size)).get? (s.heap.objs.size + 1)=some (Ws C s.heap.objs.size):=by
  have:=Qy (s.heap.push Wc) (o:=Ws C s.heap.objs.size) rfl
  rwa [Wj] at this
 have e3:(s.heap.push Wc).Ns s.heap.objs.size (fun _=>none):=⟨Wc,#[],_,e1,rfl,(fun e he=>absurd he (by simp)),fun _=>rfl⟩;have I1:=I.laid (a:=s.heap.objs.size) (o:=.own (s.heap.objs.size + 1)) (h':=s.heap.push Wc) (t':=s.toks) (fun b u q=>Qi _ q) (Qq _) ⟨_,e1⟩;refine I1.laid (a:=s.heap.objs.size + 1) (o:=.ins C s.heap.objs.size []) (t':=s.toks) (fun b u q=>Qi _ q) (Nat.le_of_eq (Wj _ _)) ?_;have ne:s.heap.objs.size≠s.heap.objs.size + 1:=Jc (Wn _);refine ⟨by rw [Zb ne,Zj],Ge _,ne,e2,fun _=>none,(Heap.Ns1.of_empty e3).at fun o q=>Qi _ q,fun _=>True.intro,fun y hy=>absurd rfl hy⟩
def Zeb{prog:Program}{w:World}{env:Env}{e:Expr}{f:Str}{pos:Pos}{s:Shared}{Q:Value->Shared->Prop}(hb:attributeBase e f env (eval e env)=eval e env)
  (h:wpAny (model prog w) A (eval e env) (fun o s₁=>wpAny (model prog w) A (getAttr o f true) Q E s₁) E s):wpAny (model prog w) A (eval (.Attribute e f pos) env) Q E s:=
 Attribute_any_ h (by rw [arm_eval_Attribute,hb])
end
end
noncomputable def InOp(X:Cx)(op:Operator)(rd:V->V->Hp->VK->Prop):Prop:=
 ∀ (pins:List (Addr×Obj)) (s:Shared) (σ:St) (H:Hp) (x y:V) (u v:Value) (Q:VK),Inv X pins σ H s->RelV x u->RelV y v->rd x y H Q->wpAny (model X.prog X.w) X.A (inplaceOp op u v) (EP X pins σ Q) X.xe s
section
mutual
variable {X:Cx}{pins:List (Addr×Obj)}{σ:St}{H:Hp}{s:Shared}{A:Around}{E:Value->Shared->Prop}{Q:Value->Shared->Prop}{c:Value}{b:Bool}
inductive TyOf(K:Qa)(H:Hp):V->Value->Prop where
 | non:TyOf K H .non (.type "NoneType")
 | bl (x:Bool):TyOf K H (.bl x) (.type "bool")
 | int (i:Int):TyOf K H (.int i) (.type "int")
 | str (x:Str):TyOf K H (.str x) (.type "str")
 | flt (x:UInt64):TyOf K H (.flt x) (.type "float")
 | lst {a:Addr} {xs:List V} (e:H a=some (.lst xs)):TyOf K H (.ref a) (.type "list")
 | frz {a:Addr} {o:Obj} {xs:List V} (e:H a=some (.frz o (.lst xs))):TyOf K H (.ref a) (.type "list")
 | tup {a:Addr} {xs:List V} (e:H a=some (.tup xs)):TyOf K H (.ref a) (.type "tuple")
 | dK {a:Addr} {kvs:List (Key×V)} (e:H a=some (.dK kvs)):TyOf K H (.ref a) (.type "dict")
 | dT {a:Addr} {kvs:List (List Key×V)} (e:H a=some (.dT kvs)):TyOf K H (.ref a) (.type "dict")
 | ins {a C dx:Addr} {fs:List (Str×V)} (e:H a=some (.ins C dx fs)) (cl:Cls K C) (ha:Ji K (.ref C) "__class__"=some (some (.builtin "object.__class__")))
   (hn:PySem.W.specialIn K (.builtin "object.__class__") "__get__"=some (some (.builtin "getset_descriptor.__get__"))) (htk:PySem.W.takesIn K (.builtin "object.__class__")=some true)
   (hm:PySem.W.mroIn K C (.type "object")=some true):TyOf K H (.ref a) (.ref C)
end
end
mutual
structure Room(k:Nat)(A:Around):Prop where
 hd:A.handled=none
 dp:A.depth + 3 * k + 5 < recursionLimit
 un:A.units + 16 * k + 200 < cLine
 gd:A.guards=some []
def Room.mono{j k:Nat}{A:Around}(r:Room k A)(h:j<=k):Room j A:=⟨r.hd,by have:=r.dp;omega,by have:=r.un;omega,r.gd⟩
def Room.deeper{k:Nat}{A:Around}(r:Room (k + 1) A)(env:Env):Room k (A.deeper env):=
 ⟨r.hd,by have:=r.dp;show A.depth + 1 + 3 * k + 5 < _;omega,by have:=r.un;show A.units + 3 + 16 * k + 200 < _;omega,r.gd⟩
def ZaK{A:Around}{C:Addr}{us:List Value}{kw:List (Str×Value)}:(A.under (.builtin "type.__call__" ⟨.ref C::us,kw⟩)).depth=A.depth + 1:=by
 first | rfl | simp [Around.under,Code.weight,Code.isCreation,Code.isGuard,Code.isCaller,Code.frames,Code.isFrame,guardIds]
def ZaL{A:Around}{C:Addr}{us:List Value}{kw:List (Str×Value)}:(A.under (.builtin "type.__call__" ⟨.ref C::us,kw⟩)).units=A.units + 1:=by
 first | rfl | simp [Around.under,Code.cUnits,Code.frames,Code.isFrame]
def Room.make{k:Nat}{A:Around}(r:Room (k + 1) A)(C:Addr)(us:List Value)(kw:List (Str×Value)):Room k (A.under (.builtin "type.__call__" ⟨.ref C::us,kw⟩)):=
 ⟨r.hd,by have:=r.dp;rw [ZaK];omega,by have:=r.un;rw [ZaL];omega,by show pushGuards [] A.guards=_;rw [r.gd];rfl⟩
def Room.depth{k:Nat}{A:Around}(r:Room k A):A.depth < recursionLimit:=by have:=r.dp;omega
def Room.units{k:Nat}{A:Around}(r:Room k A):A.units + 64 < cLine:=by have:=r.un;omega
abbrev tNil:TA:=fun _ H Q=>Q [] H
abbrev Z2e(ta:TE)(tr:TA):TA:=fun σ H Q=>ta σ H fun x H1=>tr σ H1 fun xs H2=>Q (x::xs) H2
end
section
mutual
variable {X:Cx}{e:Expr}{es:List Expr}{te:TE}{t:TA}{pos:Pos}
def ZF:PA X [] tNil:=fun _ _ _ _ H Q I h=>Calls.spliced_nil ⟨[],H,I,.nil,h⟩
def Zg(ha:PE X e te)(hr:PA X es t)(hs:autoParam (starEach (e::es) X.env=(false,eval e X.env)::starEach es X.env) uA._auto_1):PA X (e::es) (Z2e te t):=by
 intro pos pins s σ H Q I h;rw [hs];show wpAny _ _ (spliced ((false,eval e X.env)::backTo pos (starEach es X.env))) _ _ s;refine Calls.spliced_cons (thn (ha pins s σ H _ I h) fun u s1 ⟨x,H1,I1,r1,q1⟩=>?_);exact thn (hr pos pins s1 σ H1 _ I1 q1) fun us s2 ⟨xs,H2,I2,r2,q2⟩=>⟨x::xs,H2,I2,.cons r1 r2,q2⟩
abbrev tTup(t:TA):TE:=fun σ H Q=>t σ H fun xs H1=>xs.length<=sizeLine/\∀ p,H1 p=none->Q (.ref p) (upd H1 p (.tup xs))
abbrev tLst(t:TA):TE:=fun σ H Q=>t σ H fun xs H1=>xs.length<=sizeLine/\∀ p,H1 p=none->Q (.ref p) (upd H1 p (.lst xs))
def ZbZ{x1}(h:PA X es t):PE X (.Tuple es x1 pos) (tTup t):=by
 intro pins s σ H Q I hq;refine wpAny_Tuple_spliced (thn (h pos pins s σ H _ I hq) fun us s1 ⟨xs,H1,I1,r,z,q⟩=>⟨by rw [<- r.length];exact z,?_⟩);have hf:H1 s1.heap.objs.size=none:=I1.hok.fresh (Qq _);refine ⟨.ref s1.heap.objs.size,upd H1 s1.heap.objs.size (.tup xs),I1.laid (t':=s1.toks) (fun b u e=>Qi _ e) (Qq _) ?_,rfl,q _ hf⟩;exact ⟨z,us,r,⟨_,Qy _ rfl,rfl,_,rfl⟩⟩
def ZbY(h:PA X es t):PE X (.List es pos) (tLst t):=by
 intro pins s σ H Q I hq;refine wpAny_List_spliced (thn (h pos pins s σ H _ I hq) fun us s1 ⟨xs,H1,I1,r,z,q⟩=>⟨by rw [<- r.length];exact z,?_⟩);have hf:H1 s1.heap.objs.size=none:=I1.hok.fresh (Qq _);refine ⟨.ref s1.heap.objs.size,upd H1 s1.heap.objs.size (.lst xs),I1.laid (t':=s1.toks) (fun b u e=>Qi _ e) (Qq _) ?_,rfl,q _ hf⟩;exact ⟨z,us,0,r,Qy _ rfl⟩
end
end
mutual
private abbrev Sp:=List V->Hp->VK->XK->Prop
private abbrev CXT:=List Env->Hp->Shared->XK->Value->Shared->Prop
structure Env0(P:Program)(w:World)(K:Qa)(mg:Str->Option Value)(base:Heap)(A:Around)(outer:List Env)(s:Shared)(H:Hp):Prop where
 frames:A.frames=some outer
 mod:Mod K mg base
 bs:∀ b o,base.get? b=some o->s.heap.get? b=some o/\H b=none
 bsz:base.objs.size<=s.heap.objs.size
 funs:s.heap.FunFrames base outer
 frf:∀ b∈frs outer,H b=none
 hok:HOk P w H s.heap
 bare:AllBare s.gens
abbrev CE(outer:List Env)(P:Program)(w:World)(H:Hp)(s:Shared)(Q:VK)(u:Value)(s':Shared):Prop:=
 ∃ v H',s'.os=s.os/\AllBare s'.gens/\Un (frs outer) [] H H' s.heap s'.heap/\HOk P w H' s'.heap/\RelV v u/\Q v H'
abbrev CR(CX:CXT)(outer:List Env)(P:Program)(w:World)(H:Hp)(s:Shared)(Q:VK)(E:XK)(r:Result)(s':Shared):Prop:=
 match r with
 | .ok (.ret u)=>CE outer P w H s Q u s'
 | .ok _=>False
 | .error e=>CX outer H s E e s'
structure FnOk(P:Program)(w:World)(K:Qa)(mg:Str->Option Value)(base:Heap)(CX:CXT)(k:Nat)(f:Addr)(fd:FuncData)(ps:List Str)(sp:Sp):Prop where
 len:∀ vs H Q E,sp vs H Q E->vs.length=ps.length
 run:∀ (A:Around) (outer:List Env) (s:Shared) (H:Hp) (args:Args) (us:List Value) (vs:List V) (Q:VK) (E:XK),Room k A->Env0 P w K mg base A outer s H->BindsTo s fd args (ps.zip us)->Vals vs us->sp vs H Q E ->
  codeAny (model P w) A (.call (.ref f) args) (CR CX outer P w H s Q E) s
def FnOk.mono{P:Program}{w:World}{K:Qa}{mg:Str->Option Value}{base:Heap}{CX:CXT}{j k:Nat}{f:Addr}{fd:FuncData}{ps:List Str}{sp:Sp}(F:FnOk P w K mg base CX j f fd ps sp)(h:j<=k) :
  FnOk P w K mg base CX k f fd ps sp:=⟨F.len,fun A outer s H args us vs Q E hr=>F.run A outer s H args us vs Q E (hr.mono h)⟩
def FnOk.imp{P:Program}{w:World}{K:Qa}{mg:Str->Option Value}{base:Heap}{CX:CXT}{k:Nat}{f:Addr}{fd:FuncData}{ps:List Str}{sp sp':Sp}(F:FnOk P w K mg base CX k f fd ps sp)
  (h:∀ vs H Q E,sp' vs H Q E->sp vs H Q E):FnOk P w K mg base CX k f fd ps sp':=
 ⟨fun vs H Q E q=>F.len vs H Q E (h _ _ _ _ q),fun A outer s H args us vs Q E hr he hb hv hs=>F.run A outer s H args us vs Q E hr he hb hv (h _ _ _ _ hs)⟩
def Env0.make{P:Program}{w:World}{K:Qa}{mg:Str->Option Value}{base:Heap}{A:Around}{outer:List Env}{s:Shared}{H:Hp}(e:Env0 P w K mg base A outer s H)(C:Addr)(us:List Value)(kw:List (Str×Value)) :
  Env0 P w K mg base (A.under (.builtin "type.__call__" ⟨.ref C::us,kw⟩)) outer s H:=⟨by first | exact e.frames | (simpa [Around.under,Code.envs,Code.isFrame,pushEnvs] using e.frames),e.mod,e.bs,e.bsz,e.funs,e.frf,e.hok,e.bare⟩
end
section
mutual
variable {X:Cx}{pins:List (Addr×Obj)}{σ:St}{H:Hp}{s s':Shared}
def Inv.env0(I:Inv X pins σ H s):Env0 X.prog X.w X.K X.mg X.base X.A X.stack s H:=
 ⟨I.ok.frames,I.ok.mod,I.bs,Jr I.ok.bsz I.sz,I.stack,I.stkFree,I.hok,I.bare⟩
def Inv.after{Q:VK}{u:Value}(I:Inv X pins σ H s)(h:CE X.stack X.prog X.w H s Q u s'):EP X pins σ Q u s':=by
 obtain ⟨v,H',os,bare,un,hok,r,q⟩:=h;obtain ⟨hh,g,d,t,os'⟩:=s';obtain rfl:os'=s.os:=os;exact ⟨v,H',I.call (h':=hh) (g':=g) (d':=d) (t':=t) (ch:=[]) un hok bare (fun b z=>absurd z (by simp)),r,q⟩
end
end
mutual
abbrev tCall(sp:Sp)(dvs:List V)(E:XK)(t:TA):TE:=fun σ H Q=>t σ H fun vs H1=>sp (vs++dvs) H1 Q E
abbrev Binds(K:Qa)(fd:FuncData)(ps:List Str)(ds:List Value):Prop:=
 ∀ (s:Shared) (us:List Value),K.In s.heap->(us++ds).length=ps.length->BindsTo s fd ⟨us,[]⟩ (ps.zip (us++ds))
def Binds.all{K:Qa}{fd:FuncData}{ps:List Str}(h:∀ us:List Value,us.length=ps.length->bindArgs fd ⟨us,[]⟩=pure (ps.zip us)):Binds K fd ps []:=fun s us _ hl=>by
 rw [Jo] at hl ⊢;exact .of_eq (h us hl)
abbrev Z3z(CX:CXT)(X:Cx)(E:XK):Prop:=∀ (pins:List (Addr×Obj)) (σ:St) (H:Hp) (s:Shared) (e:Value) (s':Shared),Inv X pins σ H s->CX X.stack H s E e s'->X.xe e s'
end
section
mutual
variable {X:Cx}{CX:CXT}{k:Nat}{f C:Addr}{fd:FuncData}{ps:List Str}{sp:Sp}{dvs:List V}{ds:List Value}{E:XK}{x m:Str}{p pos apos:Pos}{e o:Expr}{es:List Expr}{ta:TE}{t:TA}
def Zhe{pins:List (Addr×Obj)}{σ:St}{H:Hp}{s:Shared}{Q:VK}{us:List Value}{vs:List V}(F:FnOk X.prog X.w X.K X.mg X.base CX k f fd ps sp)(hr:Room k X.A)(hb:Binds X.K fd ps ds)(hd:Vals dvs ds)(hx:Z3z CX X E)
  (I:Inv X pins σ H s) (r:Vals vs us) (h:sp (vs++dvs) H Q E):wpAny (model X.prog X.w) X.A (call (.ref f) us) (EP X pins σ Q) X.xe s:=by
 have r2:Vals (vs++dvs) (us++ds):=r.append hd;have hl:(us++ds).length=ps.length:=by rw [<- r2.length];exact F.len _ _ _ _ h
 refine wpAny_call (codeAny_mono (F.run X.A X.stack s H ⟨us,[]⟩ (us++ds) (vs++dvs) Q E hr I.env0 (hb s us I.kIn hl) r2 h) fun r s' hq=>?_)
 cases r with
 | error e=>exact hx pins σ H s e s' I hq
 | ok fl=>
  cases fl with
  | ret u=>exact I.after hq
  | next=>exact False.elim hq
  | brk=>exact False.elim hq
  | cont=>exact False.elim hq
def Zf4(F:FnOk X.prog X.w X.K X.mg X.base CX k f fd ps sp)(hr:Room k X.A)(hg:Gl X x)(hm:X.mg x=some (.ref f))(hk:Jt X.K (.ref f)=true)(hb:Binds X.K fd ps ds)(hd:Vals dvs ds)(hx:Z3z CX X E)
  (ha:PA X (e::es) t) (hdb:autoParam ((x == ("__debug__":Str))=false) uB._auto_1) (he:autoParam (starEach (e::es) X.env=(false,eval e X.env)::starEach es X.env) uA._auto_1) (hpl:autoParam ((backTo pos (starEach es X.env)).any (·.1)=false) uA._auto_1) :
  PE X (.Call (.Name x p) (e::es) [] pos) (tCall sp dvs E t):=by
 intro pins s σ H Q I h;refine wpAny_Call_Name_kw (Z1J I hg hm ?_ hdb);refine Nj (h₀:=X.base) I.ok.mod.kin hk (thn (ha pos pins s σ H _ I h) fun us s1 ⟨vs,H1,I1,r,q⟩=>⟨I1.kIn,?_⟩) he hpl;exact Zhe F hr hb hd hx I1 r q
structure Mk(K:Qa)(C f:Addr):Prop where
 makes:PySem.W.makesIn K C=true
 init:Ji K (.ref C) "__init__"=some (some (.ref f))
 fn:Gy K (.ref f)=true
 kp:Jt K (.ref C)=true
def ZdW{pins:List (Addr×Obj)}{σ:St}{H:Hp}{s:Shared}{Q:VK}{us:List Value}{vs:List V}(M:Mk X.K C f)(F:FnOk X.prog X.w X.K X.mg X.base CX k f fd ps sp)(hr:Room (k + 1) X.A)(hb:Binds X.K fd ps ds)(hd:Vals dvs ds)
  (hx:Z3z CX X E) (I:Inv X pins σ H s) (r:Vals vs us)
  (h:∀ x dx,H x=none->H dx=none->dx≠x->sp (.ref x::(vs++dvs)) (upd (upd H dx (.own x)) x (.ins C dx [])) (fun v H2=>v=.non/\Q (.ref x) H2) E) :
  wpAny (model X.prog X.w) X.A (call (.ref C) us) (EP X pins σ Q) X.xe s:=by
 have hq:=h (s.heap.objs.size + 1) s.heap.objs.size (I.hok.fresh (Nat.le_succ _)) (I.hok.fresh (Qq _)) (Jc (Wn _));have I2:=Inv.made (C:=C) I;have r2:Vals (V.ref (s.heap.objs.size + 1)::(vs++dvs)) (Value.ref (s.heap.objs.size + 1)::(us++ds)):=.cons rfl (r.append hd)
 have hl:(Value.ref (s.heap.objs.size + 1)::us++ds).length=ps.length:=by
  have e:=r2.length;rw [F.len _ _ _ _ hq] at e;exact e.symm
 refine wpAny_call (ZdA (f:=f) I.kIn M.makes M.init (beq_iff_eq.mp M.fn) (codeAny_mono (F.run _ X.stack _ _ ⟨Value.ref (s.heap.objs.size + 1)::us,[]⟩ (Value.ref (s.heap.objs.size + 1)::(us++ds)) _ _ E (hr.make C us [])
  (I2.env0.make C us []) (hb _ (Value.ref (s.heap.objs.size + 1)::us) I2.kIn hl) r2 hq) fun r s' hq'=>?_))
 cases r with
 | error e=>exact hx pins σ _ _ e s' I2 hq'
 | ok fl=>
  cases fl with
  | ret u=>
   obtain ⟨v,H',I3,rv,ev,q3⟩:=I2.after hq';subst ev;exact ⟨rv,⟨V.ref (s.heap.objs.size + 1),H',I3,rfl,q3⟩⟩
  | next=>exact False.elim hq'
  | brk=>exact False.elim hq'
  | cont=>exact False.elim hq'
end
end
section
mutual
variable {X:Cx}{CX:CXT}{k:Nat}{f C:Addr}{fd:FuncData}{ps ks:List Str}{sp:Sp}{E:XK}{x m:Str}{p pos apos kpos:Pos}{e o:Expr}{es:List Expr}{kws:List Keyword}{te ta:TE}{t tk:TA}{nm:Option Str}
structure KBinds(K:Qa)(fd:FuncData)(ps ks:List Str)(g:List Value->List Value->List Value)(gV:List V->List V->List V):Prop where
 to:∀ (s:Shared) (us ws:List Value),K.In s.heap->(g us ws).length=ps.length->BindsTo s fd ⟨us,ks.zip ws⟩ (ps.zip (g us ws))
 rel:∀ {vs:List V} {us:List Value} {zs:List V} {ws:List Value},Vals vs us->Vals zs ws->Vals (gV vs zs) (g us ws)
variable {g:List Value->List Value->List Value}{gV:List V->List V->List V}
end
end
mutual
structure FnScope(N P:List Str)(sc:Scope):Prop where
 kind:sc.kind=.function
 co:sc.isCoroutine=false
 gen:sc.isGenerator=false
 nd:N.Nodup
 pre:N.take P.length=P
 par:∀ x∈P,sc.names.lookup x=some .local\/sc.names.lookup x=some .cell
 nofree:∀ y∈sc.names,y.2≠.free
def Z88{kindOf:Str->Option NameKind}{x:Str}:∀ {binds:List (Str×Value)} {m:Str->Option Value},(∀ v,(x,v)∉binds)->bindL kindOf binds m x=m x
 | [],_,_=>rfl
 | (n,v)::r,m,h=>by
  unfold bindL;rw [Z88 fun w hw=>h w (Qt _ hw)]
  split
  .have:x≠n:=by rintro rfl;exact h v Qs
   simp [this]
  .rfl
def Z86{kindOf:Str->Option NameKind}{x:Str}:∀ {binds:List (Str×Value)} {m:Str->Option Value},(∀ v,(x,v)∉binds)->bindC kindOf binds m x=m x
 | [],_,_=>rfl
 | (n,v)::r,m,h=>by
  unfold bindC;rw [Z86 fun w hw=>h w (Qt _ hw)]
  split
  .rfl
  .have:x≠n:=by rintro rfl;exact h v Qs
   simp [this]
def Z87{kindOf:Str->Option NameKind}{x:Str}{v:Value}:∀ {P:List Str} {vs:List Value} {i:Nat} {m:Str->Option Value},P.Nodup->P[i]?=some x->vs[i]?=some v->kindOf x=some .local ->
  bindL kindOf (P.zip vs) m x=some v
 | [],_,_,_,_,h,_,_=>by simp at h
 | _::_,[],_,_,_,_,h,_=>by simp at h
 | p::P,w::vs,0,m,nd,h1,h2,hk=>by
  simp at h1 h2;subst h1;subst h2;show bindL kindOf ((p,w)::P.zip vs) m p=_;unfold bindL;rw [Z88 fun v hv=>(Jx.mp nd).1 (List.of_mem_zip hv).1,if_pos hk];simp
 | p::P,w::vs,i + 1,m,nd,h1,h2,hk=>by
  show bindL kindOf ((p,w)::P.zip vs) m x=_;unfold bindL;exact Z87 (i:=i) (Jx.mp nd).2 (by simpa using h1) (by simpa using h2) hk
def Z85{kindOf:Str->Option NameKind}{x:Str}{v:Value}:∀ {P:List Str} {vs:List Value} {i:Nat} {m:Str->Option Value},P.Nodup->P[i]?=some x->vs[i]?=some v->kindOf x≠some .local ->
  bindC kindOf (P.zip vs) m x=some v
 | [],_,_,_,_,h,_,_=>by simp at h
 | _::_,[],_,_,_,_,h,_=>by simp at h
 | p::P,w::vs,0,m,nd,h1,h2,hk=>by
  simp at h1 h2;subst h1;subst h2;show bindC kindOf ((p,w)::P.zip vs) m p=_;unfold bindC;rw [Z86 fun v hv=>(Jx.mp nd).1 (List.of_mem_zip hv).1,if_neg hk];simp
 | p::P,w::vs,i + 1,m,nd,h1,h2,hk=>by
  show bindC kindOf ((p,w)::P.zip vs) m x=_;unfold bindC;exact Z85 (i:=i) (Jx.mp nd).2 (by simpa using h1) (by simpa using h2) hk
abbrev start(N:List Str)(vs:List V):St:=vs.map some++List.replicate (N.length - vs.length) none
abbrev ZJ(CX:CXT)(P:Program)(w:World)(K:Qa)(mg:Str->Option Value)(base:Heap)(N:List Str)(qual:Str)(scope:Scope)(f:Addr)(cd:Value)(A:Around)(outer:List Env)(s:Shared)(H:Hp)(E:XK):Cx where
 prog:=P
 w:=w
 K:=K
 mg:=mg
 base:=base
 A:=A.deeper (envOfC qual scope s.heap.objs.size f cd)
 N:=N
 s₀:=s
 H₀:=H
 env:=envOfC qual scope s.heap.objs.size f cd
 outer:=outer
 stack:=envOfC qual scope s.heap.objs.size f cd::outer
 ex:=[]
 calm:=true
 fn:=fun _=>true
 pn:=[]
 xe:=fun e s'=>wpAny (model P w) (A.deeper (envOfC qual scope s.heap.objs.size f cd)) («leaving» (envOfC qual scope s.heap.objs.size f cd) e) (fun _ s''=>CX outer H s E e s'') (fun e' s''=>CX outer H s E e' s'') s'
def Z8T{sc:Scope}{n:Nat}{x:Str}(h:sc.names.lookup x=some .cell):∃ c,(cellsFrom n sc.names []).lookup x=some c:=by
 have q:=Gh sc.names n [] (.inl h);exact Nb.mp q
def Z8h{CX:CXT}{P:Program}{w:World}{K:Qa}{mg:Str->Option Value}{base:Heap}{N ps:List Str}{qual:Str}{scope:Scope}{f:Addr}{cd:Value}{A:Around}{outer:List Env}{s s1:Shared}{H:Hp}{E:XK}{us:List Value}{vs:List V}
  (S:FnScope N ps scope) (hd:A.handled=none) (e0:Env0 P w K mg base A outer s H) (hl:vs.length=ps.length) (r:Vals vs us)
  (x:InCallC s s.heap.objs.size (bindL (envOfC qual scope s.heap.objs.size f cd).kindOf (ps.zip us) fun _=>none) (cellsFrom (s.heap.objs.size + 1) scope.names []) (bindC (envOfC qual scope s.heap.objs.size f cd).kindOf (ps.zip us) fun _=>none) s1) :
  Inv (ZJ CX P w K mg base N qual scope f cd A outer s H E) [] (start N vs) H s1:=by
 have hpl:ps.length<=N.length:=by have:=congrArg List.length S.pre;rw [Nf] at this;omega
 obtain ⟨h1,tk,rfl,hk⟩:=x.done;have noA:∀ b:Addr,b∉(ZJ CX P w K mg base N qual scope f cd A outer s H E).ex:=fun b z=>absurd (show b∈([]:List Addr) from z) (by simp)
 refine ⟨⟨e0.mod,S.kind,rfl,rfl,Qq _,fun y z c h1 h2=>?_,fun y hy=>?_,fun y c _ h=>?_,fun _=>hd,Around.frames_deeper e0.frames,.inr ⟨rfl,rfl⟩,fun b z=>absurd z (noA b),e0.bs,e0.bsz,fun b _ _=>noA b,fun b z=>absurd z (noA b),e0.funs,e0.frf⟩,
  rfl,e0.bare,Un.kept hk,⟨_,x.toInCall.ns,fun i y v h1 h2 h3=>?_⟩,fun y c h=>⟨_,x.cell y c h⟩,e0.hok.fresh (Qq _),fun y c h=>?_,fun p hp=>absurd (show p∈([]:List (Addr×Obj)) from hp) (by simp),e0.hok.kept hk,?_⟩
 .exact name_of_addr x.apart (PySem.mem_of_lookup h1) (PySem.mem_of_lookup h2)
 .have hy:scope.names.lookup y=some .cell\/scope.names.lookup y=some .free:=hy
  rcases hy with hy | hy
  .exact Z8T hy
  .exact absurd rfl (S.nofree _ (PySem.mem_of_lookup hy))
 .exact Gx (x.above y c (PySem.mem_of_lookup h))
 .have hi:i < vs.length:=by
   unfold start at h2;by_cases hi:i < vs.length
   .exact hi
   .rw [Jd (by simpa using hi)] at h2
    rw [Gf] at h2
    split at h2 <;> cases h2
  have ha:vs[i]?=some v:=by
   unfold start at h2;rw [Qo (by simpa using hi),Qc] at h2
   cases e:vs[i]? with
   | none=>rw [e] at h2;cases h2
   | some a=>rw [e] at h2;cases h2;rfl
  obtain ⟨u,hu,rv⟩:=r.get ha
  have hp:ps[i]?=some y:=by
   rw [<- S.pre,Qan (by omega)];exact h1
  have ndP:ps.Nodup:=by rw [<- S.pre];exact S.nd.sublist (Qal _ _)
  refine ⟨u,rv,?_⟩;rcases S.par y (Qg hp) with k | k
  .exact .inl ⟨k,Z87 ndP hp hu k⟩
  .obtain ⟨c,e⟩:=Z8T (n:=s.heap.objs.size + 1) k
   refine .inr ⟨.inl k,c,e,?_⟩;have q:=x.cell y c e;rw [Z85 ndP hp hu (by show scope.names.lookup y≠_;rw [k];decide)] at q;exact q
 .exact e0.hok.fresh (Gx (x.above y c (PySem.mem_of_lookup h)))
 .unfold start
  show _=N.length;rw [Jf,Qx,Wl];omega
def fn_of{CX:CXT}{P:Program}{w:World}{K:Qa}{mg:Str->Option Value}{base:Heap}{k:Nat}{f:Addr}{name qual:Str}{params:Arguments}{body:List Stmt}{scope:Scope}{dV kV doc pm cdv ct oc:Value}{an od:Option Addr}
  {osl:Array (Option Value)} {N ps:List Str} {sp:Sp} (lk:K.lookup f=some ⟨oc,od,.func (Wo name qual params body scope dV kV doc pm an cdv ct),osl⟩) (hcd:Nu K cdv qual=true) (S:FnScope N ps scope)
  (len:∀ vs H Q E,sp vs H Q E->vs.length=ps.length)
  (hbody:∀ (A:Around) (outer:List Env) (s:Shared) (H:Hp) (vs:List V) (Q:VK) (E:XK),Room k (A.deeper (envOfC qual scope s.heap.objs.size f cdv))->sp vs H Q E ->
   ∃ t,PSs (ZJ CX P w K mg base N qual scope f cdv A outer s H E) body t/\t { nx:=fun _ H'=>Q .non H',rt:=Q } (start N vs) H) :
  FnOk P w K mg base CX (k + 1) f (Wo name qual params body scope dV kV doc pm an cdv ct) ps sp:=by
 refine ⟨len,fun A outer s H args us vs Q E hr e0 hb r hsp=>?_⟩;have hl:=len _ _ _ _ hsp;have KX:K.In s.heap:=e0.mod.kin.keeps fun b o e=>(e0.bs b o e).1;have lim:s.heap.NoLimit:=e0.mod.nolimit.keeps fun b o e=>(e0.bs b o e).1
 have hkind:∀ y∈ps.zip us,scope.names.lookup y.1=some .local\/(scope.names.lookup y.1=some .cell/\((cellsFrom (s.heap.objs.size + 1) scope.names []).lookup y.1).isSome=true):=fun ⟨n,v⟩ hy=>by
  rcases S.par n (List.of_mem_zip hy).1 with q | q
  .exact .inl q
  .exact .inr ⟨q,Gh _ _ _ (.inl q)⟩
 refine codeAny_call_function hr.depth (KX _ _ lk) rfl S.co S.gen rfl (PySem.W.codeRec_of KX hcd) (hb _ _ _ _ ?_);refine wpAny_newFunctionEnv_cells S.kind hkind fun env he s1 x=>?_;subst he;refine ⟨lim.keeps x.toInCall.keep,codeAny_func ?_⟩;obtain ⟨t,ht,hq⟩:=hbody A outer s H vs Q E (hr.deeper _) hsp;have I:Inv (ZJ CX P w K mg base N qual scope f cdv A outer s H E) [] (start N vs) H s1:=Z8h S hr.hd e0 hl r x;refine wpAny_mono (ht [] s1 (start N vs) H _ I hq) (fun fl s' hs=>?_) fun e s' hs=>hs
 have fin:∀ {σ':St} {H':Hp} {v:V} {u:Value},Inv (ZJ CX P w K mg base N qual scope f cdv A outer s H E) [] σ' H' s'->RelV v u->Q v H'->CE outer P w H s Q u s':=
  fun {σ' H' v u} J rv q=>⟨v,H',J.os,J.bare,J.base,J.hok,rv,q⟩
 cases fl with
 | ret u=>
  obtain ⟨v,σ',H',J,rv,q⟩:=hs;exact fin J rv q
 | next=>
  obtain ⟨σ',H',J,q⟩:=hs;exact fin (v:=V.non) (u:=Value.none) J rfl q
 | brk=>
  obtain ⟨_,_,_,q⟩:=hs;exact False.elim q
 | cont=>
  obtain ⟨_,_,_,q⟩:=hs;exact False.elim q
end
section
mutual
variable {X:Cx}{x:Str}{p pos:Pos}{e:Expr}{es:List Expr}{t:TA}{id T:String}{r:List V->Hp->VK->Prop}
abbrev tCB(r:List V->Hp->VK->Prop)(t:TA):TE:=fun σ H Q=>t σ H fun vs H1=>r vs H1 Q
def Z0q(hc:Z0f X (.builtin id) r)(hg:Gl X x)(hm:X.mg x=none)(hv:bootBuiltins x=some (.builtin id))(ha:PA X (e::es) t)(hn:autoParam (x ≠ "__name__") uB._auto_1)(hdb:autoParam ((x == ("__debug__":Str))=false) uB._auto_1)
  (he:autoParam (starEach (e::es) X.env=(false,eval e X.env)::starEach es X.env) uA._auto_1) (hpl:autoParam ((backTo pos (starEach es X.env)).any (·.1)=false) uA._auto_1):PE X (.Call (.Name x p) (e::es) [] pos) (tCB r t):=by
 intro pins s σ H Q I h;refine wpAny_Call_Name_kw (Z4k I hg hm hv ?_ hn hdb);exact PyProof.Rows.callWith_builtin1 (thn (ha pos pins s σ H _ I h) fun us s1 ⟨vs,H1,I1,r1,q1⟩=>hc pins s1 σ H1 vs us Q I1 r1 q1) he hpl
def ZbV(hc:Z0f X (.type T) r)(hg:Gl X x)(hm:X.mg x=none)(hv:bootBuiltins x=some (.type T))(ha:PA X (e::es) t)(hn:autoParam (x ≠ "__name__") uB._auto_1)(hdb:autoParam ((x == ("__debug__":Str))=false) uB._auto_1)
  (he:autoParam (starEach (e::es) X.env=(false,eval e X.env)::starEach es X.env) uA._auto_1) (hpl:autoParam ((backTo pos (starEach es X.env)).any (·.1)=false) uA._auto_1):PE X (.Call (.Name x p) (e::es) [] pos) (tCB r t):=by
 intro pins s σ H Q I h;refine wpAny_Call_Name_kw (Z4k I hg hm hv ?_ hn hdb);exact PyProof.Rows.callWith_type1 (thn (ha pos pins s σ H _ I h) fun us s1 ⟨vs,H1,I1,r1,q1⟩=>hc pins s1 σ H1 vs us Q I1 r1 q1) he hpl
end
end
end L2
namespace HT
open PySem PyProof.Rows
section
variable {prog:Program}{w:World}{A:Around}{E:Value->Shared->Prop}{s:Shared}
noncomputable def sIx(n d:Nat):Option Int->Nat
 | none=>d
 | some v=>if v < 0 then (v + (n:Int)).toNat else min v.toNat n
end
end HT
namespace L2
open PySem PySem.Spec PyProof.Rows
mutual
private abbrev TO:=St->Hp->(Option Int->Hp->Prop)->Prop
abbrev PO(X:Cx)(e:Option Expr)(t:TO):Prop:=
 ∀ (pins:List (Addr×Obj)) (s:Shared) (σ:St) (H:Hp) (Q:Option Int->Hp->Prop),Inv X pins σ H s->t σ H Q ->
  wpAny (model X.prog X.w) X.A (evalPart e X.env) (fun u s'=>∃ o H',Inv X pins σ H' s'/\IsPart u o/\Q o H') X.xe s
abbrev tNoPart:TO:=fun _ H Q=>Q none H
abbrev tPart(t:TE):TO:=fun σ H Q=>t σ H fun x H1=>∃ i,x=.int i/\Q (some i) H1
end
section
mutual
variable {X:Cx}{e:Expr}{te:TE}{lo hi:Option Expr}{tl th:TO}{pos p2:Pos}
def Z6a:PO X none tNoPart:=by
 intro pins s σ H Q I h;rw [evalPart_none];exact wpAny_pure ⟨none,H,I,.none,h⟩
def Z6b(h:PE X e te):PO X (some e) (tPart te):=by
 intro pins s σ H Q I hw;rw [evalPart_some];refine thn (h pins s σ H _ I hw) fun u s1 ⟨x,H1,I1,r1,q1⟩=>?_;obtain ⟨i,rfl,q⟩:=q1;obtain ⟨t,rfl⟩:=r1;exact ⟨some i,H1,I1,.int i t,q⟩
abbrev SlR(X:Cx)(r:V->Option Int->Option Int->Hp->VK->Prop):Prop:=
 ∀ (pins:List (Addr×Obj)) (s:Shared) (σ:St) (H:Hp) (x:V) (v vl vu:Value) (lo hi:Option Int) (sl:Addr) (Q:VK),Inv X pins σ H s->RelV x v->s.heap.IsSliceOf sl vl vu .none->IsPart vl lo->IsPart vu hi->r x lo hi H Q ->
  ∃ T id,typeLookup (.type T) "__getitem__"=pure (some (.builtin id))/\s.TypeIs v T/\wpAny (model X.prog X.w) X.A (getItem v (.ref sl)) (EP X pins σ Q) X.xe s
abbrev tSl(r:V->Option Int->Option Int->Hp->VK->Prop)(te:TE)(tl th:TO):TE:=fun σ H Q=>te σ H fun x H1=>tl σ H1 fun l H2=>th σ H2 fun u H3=>r x l u H3 Q
def Z4U{r:V->Option Int->Option Int->Hp->VK->Prop}(hr:SlR X r)(he:PE X e te)(hl:PO X lo tl)(hu:PO X hi th):PE X (.Subscript e (.Slice lo hi none p2) pos) (tSl r te tl th):=by
 intro pins s σ H Q I h;refine Subscript_ (thn (he pins s σ H _ I h) fun v s1 ⟨x,H1,I1,r1,q1⟩=>?_);refine wpAny_Slice (thn (hl pins s1 σ H1 _ I1 q1) fun vl s2 ⟨l,H2,I2,pl,q2⟩=>thn (hu pins s2 σ H2 _ I2 q2) fun vu s3 ⟨u,H3,I3,pu,q3⟩=>?_);rw [evalPart_none];refine wpAny_pure ?_;have I4:Inv X pins σ H3 { s3 with heap:=s3.heap.push { cls:=.type "slice",data:=.fields #[vl,vu,.none] } }:=I3.kept (t':=s3.toks) fun b ob q=>Qi _ q;obtain ⟨T,id,hT,ht,hg⟩:=hr pins { s3 with heap:=s3.heap.push { cls:=.type "slice",data:=.fields #[vl,vu,.none] } } σ H3 x v vl vu l u s3.heap.objs.size Q I4 r1 (Heap.IsSliceOf.new ..) pl pu q3;show wpAny (model X.prog X.w) X.A (subscriptTail e (.Slice lo hi none p2) v (.ref s3.heap.objs.size)) (EP X pins σ Q) X.xe { s3 with heap:=s3.heap.push { cls:=.type "slice",data:=.fields #[vl,vu,.none] } };exact tail_any (ops:=[.ref s3.heap.objs.size,v]) ht hT hg (by with_unfolding_all rfl)
abbrev cutV(xs:List V)(lo hi:Option Int):List V:=(xs.drop (HT.sIx xs.length 0 lo)).take (HT.sIx xs.length xs.length hi - HT.sIx xs.length 0 lo)
def Z9L(xs:List V)(lo hi:Option Int):(cutV xs lo hi).length<=xs.length:=by
 unfold cutV;rw [Nf,List.length_drop];omega
end
end
mutual
abbrev ixN(n:Nat)(i:Int):Option Nat:=if 0<=i then (if i < n then some i.toNat else none) else if -(n:Int)<=i then some (i + n).toNat else none
abbrev atI{α:Type}(xs:List α)(i:Int):Option α:=(ixN xs.length i).bind fun j=>xs[j]?
def ZeK{n:Nat}{i:Int}{j:Nat}(h:ixN n i=some j):seqIndex? i n=some j/\j < n/\-(n:Int)<=i/\i < n:=by
 unfold ixN at h;by_cases h0:0<=i
 .rw [if_pos h0] at h
  by_cases h1:i < n
  .rw [if_pos h1] at h
   have e:i.toNat=j:=Je.inj h;exact ⟨by rw [seqIndex_of h0 h1,e],by omega,by omega,h1⟩
  .rw [if_neg h1] at h;cases h
 .rw [if_neg h0] at h
  by_cases h1:-(n:Int)<=i
  .rw [if_pos h1] at h
   have e:(i + n).toNat=j:=Je.inj h;exact ⟨by rw [seqIndex_neg (by omega) h1,e],by omega,h1,by omega⟩
  .rw [if_neg h1] at h;cases h
def Z7x{α:Type}{xs:List α}{i:Int}{v:α}(h:atI xs i=some v):∃ j,seqIndex? i xs.length=some j/\xs[j]?=some v/\j < xs.length/\-(xs.length:Int)<=i/\i < xs.length:=by
 unfold atI at h
 cases e:ixN xs.length i with
 | none=>rw [e] at h;cases h
 | some j=>
  rw [e] at h;obtain ⟨h1,h2,h3,h4⟩:=ZeK e;exact ⟨j,h1,h,h2,h3,h4⟩
def Z9S{α:Type}{xs:List α}{j:Nat}{v:α}(h:xs[j]?=some v):atI xs (j:Int)=some v:=by
 have hj:j < xs.length:=(Qd.mp h).1
 have e:ixN xs.length (j:Int)=some j:=by
  unfold ixN;rw [if_pos (by omega),if_pos (by omega)];simp
 unfold atI;rw [e];exact h
abbrev PlainIx(b:Expr):Prop:=∀ o i,subscripted b false o i=operate [o,i] (getItem o i)
abbrev IxR(X:Cx)(r:R2):Prop:=
 ∀ (value slice:Expr) (pins:List (Addr×Obj)) (s:Shared) (σ:St) (H:Hp) (x y:V) (v u:Value) (Q:VK),Inv X pins σ H s->RelV x v->RelV y u->r x y H Q ->
  subscripted slice false v u=operate [v,u] (getItem v u)->wpAny (model X.prog X.w) X.A (subscriptTail value slice v u) (EP X pins σ Q) X.xe s
abbrev MtR(X:Cx)(id:String)(r:V->List V->Hp->VK->Prop):Prop:=
 ∀ (pins:List (Addr×Obj)) (s:Shared) (σ:St) (H:Hp) (x:V) (xs:List V) (v:Value) (us:List Value) (Q:VK),Inv X pins σ H s->RelV x v->Vals xs us->r x xs H Q ->
  wpAny (model X.prog X.w) X.A (call (.builtin id) (v::us)) (EP X pins σ Q) X.xe s
end
section
mutual
variable {X:Cx}{a b:Expr}{ta tb:TE}{pos:Pos}
def IxR.or{r r':R2}(h:IxR X r)(h':IxR X r'):IxR X (fun x y H Q=>r x y H Q\/r' x y H Q):=by
 intro value slice pins s σ H x y v u Q I rx ry q hs;rcases q with q | q
 .exact h value slice pins s σ H x y v u Q I rx ry q hs
 .exact h' value slice pins s σ H x y v u Q I rx ry q hs
def pe_ix{r:R2}(hr:IxR X r)(ha:PE X a ta)(hb:PE X b tb)(hs:PlainIx b):PE X (.Subscript a b pos) (tOp r ta tb):=by
 intro pins s σ H Q I h;exact Subscript_ (binT ha hb I h fun v u s2 x y H2 I2 rx ry q=>hr a b pins s2 σ H2 x y v u Q I2 rx ry q (hs _ _))
abbrev rIxL(K:Qa):R2:=fun x y H Q=>∃ p xs i v,x=.ref p/\y=.int i/\SqL K H p xs/\atI xs i=some v/\Q v H
abbrev rIxT(K:Qa):R2:=fun x y H Q=>∃ p xs i v,x=.ref p/\y=.int i/\SqT K H p xs/\atI xs i=some v/\Q v H
abbrev rIxS:R2:=fun x y H Q=>∃ z i c,x=.str z/\y=.int i/\z.length<=sizeLine/\atI z.cps.toList i=some c/\Q (.str ⟨#[c]⟩) H
def ZeL:IxR X (rIxL X.K):=by
 intro value slice pins s σ H x y v u Q I rx ry h hs;obtain ⟨p,xs,i,z,rfl,rfl,hq,he,q⟩:=h;cases rx;obtain ⟨t,rfl⟩:=ry;obtain ⟨its,r,pl,hz⟩:=I.list hq;obtain ⟨j,h1,h2,h3,h4,h5⟩:=Z7x he;obtain ⟨w,ew,rw'⟩:=r.get h2;have hl:=r.length;have hn:=line63;have fin:EP X pins σ Q w s:=⟨z,H,I,rw',q⟩;by_cases h0:0<=i
 .have hj:i.toNat=j:=by
   rw [seqIndex_of h0 h5] at h1;exact Je.inj h1
  exact item_listR pl.isList h0 (by omega) (by rw [hj];simpa using ew) fin hs
 .have hj:(i + (its.toArray.size:Int)).toNat=j:=by
   rw [seqIndex_neg (by omega) h4] at h1;rw [Jh,<- hl];exact Je.inj h1
  exact subscriptTail_builtinR (x:=w) pl.isList.typeIs slot_list_getitem.lookup
   (wpAny_getItem_list_neg (Q:=fun r s'=>r=w/\EP X pins σ Q r s') pl.isList (by omega) (by rw [Jh] <;> omega) (by omega) (by rw [hj];simpa using ew) ⟨rfl,fin⟩) hs
def Zgt:IxR X (rIxT X.K):=by
 intro value slice pins s σ H x y v u Q I rx ry h hs;obtain ⟨p,xs,i,z,rfl,rfl,hq,he,q⟩:=h;cases rx;obtain ⟨t,rfl⟩:=ry;obtain ⟨its,r,pl,hz⟩:=I.tuple hq;obtain ⟨j,h1,h2,h3,h4,h5⟩:=Z7x he;obtain ⟨w,ew,rw'⟩:=r.get h2;have hl:=r.length;have hn:=line63;have fin:EP X pins σ Q w s:=⟨z,H,I,rw',q⟩
 exact subscriptTail_builtinR (x:=w) pl.typeIs slot_tuple_getitem.lookup
  (getItem_tuple (j:=j) (Q:=fun r s'=>r=w/\EP X pins σ Q r s') pl (by omega) (by omega) (by rw [Jh,<- hl];exact h1) (by simpa using ew) ⟨rfl,fin⟩) hs
def Zgs:IxR X rIxS:=by
 intro value slice pins s σ H x y v u Q I rx ry h hs;obtain ⟨z,i,c,rfl,rfl,hz,he,q⟩:=h;obtain ⟨t,rfl⟩:=rx;obtain ⟨t',rfl⟩:=ry;obtain ⟨j,h1,h2,h3,h4,h5⟩:=Z7x he;have hl:z.cps.toList.length=z.length:=by simp [Str.length]
 rw [hl] at h1 h4 h5;have hn:=line63
 exact tail_any (typeIs_str s z t) slot_str_getitem.lookup (getItem_str (c:=c) (by
  have e1:decide (i < -(2 ^ 63:Int))=false:=decide_eq_false (by omega);have e2:decide (i≥2 ^ 63)=false:=decide_eq_false (by omega);rw [e1,e2,Bool.or_false]) (by rw [h1];simpa using h2) ⟨.str ⟨#[c]⟩,H,I.tok _,⟨_,rfl⟩,q⟩) hs
abbrev rIx(K:Qa):R2:=fun x y H Q=>rIxL K x y H Q\/rIxT K x y H Q\/rIxS x y H Q
def ix_seq:IxR X (rIx X.K):=ZeL.or (Zgt.or Zgs)
def Z9t(lo hi:Option Int)(n:Nat):(sliceBounds lo hi none n).1=((HT.sIx n 0 lo:Nat):Int)/\(sliceBounds lo hi none n).2.1=((HT.sIx n n hi:Nat):Int)/\(sliceBounds lo hi none n).2.2=1:=by
 refine ⟨?_,?_,rfl⟩
 .cases lo with
  | none=>simp [sliceBounds,HT.sIx]
  | some i=>
   simp only [sliceBounds,HT.sIx,Option.getD_none,show (1:Int) > 0 by decide,if_true];by_cases h:i < 0
   .simp only [h,if_true] <;> omega
   .simp only [h,if_false] <;> omega
 .cases hi with
  | none=>simp [sliceBounds,HT.sIx]
  | some i=>
   simp only [sliceBounds,HT.sIx,Option.getD_none,show (1:Int) > 0 by decide,if_true];by_cases h:i < 0
   .simp only [h,if_true] <;> omega
   .simp only [h,if_false] <;> omega
def Z8L(its:List Value)(lo hi:Option Int):slicePick its.toArray lo hi none=((its.drop (HT.sIx its.length 0 lo)).take (HT.sIx its.length its.length hi - HT.sIx its.length 0 lo)).toArray:=by
 obtain ⟨h1,h2,h3⟩:=Z9t lo hi its.toArray.size;unfold slicePick;rw [h1,h2,h3];simp only [sliceRange_one,pick_run,Jh] <;> rfl
abbrev rSlL(K:Qa):V->Option Int->Option Int->Hp->VK->Prop:=fun x lo hi H Q=>∃ a xs,x=.ref a/\SqL K H a xs/\∀ p,H p=none->Q (.ref p) (upd H p (.lst (cutV xs lo hi)))
def Zas:SlR X (rSlL X.K):=by
 intro pins s σ H x v vl vu lo hi sl Q I rx hs pl pu h;obtain ⟨a,xs,rfl,hx,q⟩:=h;cases rx;obtain ⟨its,r,ht,hz⟩:=I.list hx;have hlen:=r.length;refine ⟨"list",_,slot_list_getitem.lookup,ht.isList.typeIs,?_⟩;refine wpAny_getItem_list_slice ht.isList hs pl pu .none (by simp) ?_ (by rw [Jh] <;> omega)
 rw [Z8L,<- hlen];refine ⟨.ref s.heap.objs.size,_,I.laid (t':=s.toks) (o:=.lst (cutV xs lo hi)) (fun b ob q=>Qi _ q) (Qq _) ?_,rfl,q _ (I.hok.fresh (Qq _))⟩;exact ⟨Jr (Z9L xs lo hi) hz,_,0,(r.drop (HT.sIx xs.length 0 lo)).take (HT.sIx xs.length xs.length hi - HT.sIx xs.length 0 lo),Qy _ rfl⟩
abbrev Z0d:V->Bool
 | .non=>true
 | .bl _=>true
 | .int _=>true
 | .str _=>true
 | _=>false
abbrev eqV:V->V->Bool
 | .non,.non=>true
 | .bl a,.bl b=>a == b
 | .bl a,.int b=>(if a then 1 else 0) == b
 | .int a,.bl b=>a == (if b then 1 else 0)
 | .int a,.int b=>a == b
 | .str a,.str b=>a == b
 | _,_=>false
def Zga{A:Around}{s:Shared}{y x:V}{u v:Value}(ry:RelV y u)(rx:RelV x v)(fy:Z0d y=true)(fx:Z0d x=true):SeqAt.EqAt A s u v (eqV y x):=by
 cases y with
 | non=>
  cases ry
  cases x with
  | non=>cases rx;exact SeqAt.EqAt.same _
  | bl b=>cases rx;exact SeqAt.EqAt.none_bool b
  | int b=>obtain ⟨t,rfl⟩:=rx;exact SeqAt.EqAt.none_int b t
  | str b=>obtain ⟨t,rfl⟩:=rx;exact SeqAt.EqAt.none_str b t
  | _=>exact absurd (show false=true from fx) Ql
 | bl a=>
  cases ry
  cases x with
  | non=>cases rx;exact SeqAt.EqAt.bool_none a
  | bl b=>cases rx;exact SeqAt.EqAt.bool_bool a b
  | int b=>obtain ⟨t,rfl⟩:=rx;exact SeqAt.EqAt.bool_int a b t
  | str b=>obtain ⟨t,rfl⟩:=rx;exact SeqAt.EqAt.bool_str a b t
  | _=>exact absurd (show false=true from fx) Ql
 | int a=>
  obtain ⟨t',rfl⟩:=ry
  cases x with
  | non=>cases rx;exact SeqAt.EqAt.int_none a t'
  | bl b=>cases rx;exact SeqAt.EqAt.int_bool a t' b
  | int b=>obtain ⟨t,rfl⟩:=rx;exact SeqAt.EqAt.int_int a t' b t
  | str b=>obtain ⟨t,rfl⟩:=rx;exact SeqAt.EqAt.int_str a t' b t
  | _=>exact absurd (show false=true from fx) Ql
 | str a=>
  obtain ⟨t',rfl⟩:=ry
  cases x with
  | non=>cases rx;exact SeqAt.EqAt.str_none a t'
  | bl b=>cases rx;exact SeqAt.EqAt.str_bool a t' b
  | int b=>obtain ⟨t,rfl⟩:=rx;exact SeqAt.EqAt.str_int a t' b t
  | str b=>obtain ⟨t,rfl⟩:=rx;exact SeqAt.EqAt.str_str a t' b t
  | _=>exact absurd (show false=true from fx) Ql
 | _=>exact absurd (show false=true from fy) Ql
abbrev eqU(x:V)(u:Value):Bool:=match u with
 | .none=>eqV .non x
 | .bool b=>eqV (.bl b) x
 | .int i _=>eqV (.int i) x
 | .str z _=>eqV (.str z) x
 | _=>false
def Z90{x y:V}{u:Value}(r:RelV y u)(f:Z0d y=true):eqU x u=eqV y x:=by
 cases y with
 | non=>cases r;rfl
 | bl b=>cases r;rfl
 | int i=>obtain ⟨t,rfl⟩:=r;rfl
 | str z=>obtain ⟨t,rfl⟩:=r;rfl
 | _=>exact absurd (show false=true from f) Ql
def Z7w{x:V}:∀ {xs:List V} {us:List Value},Vals xs us->xs.all Z0d=true->us.any (eqU x)=xs.any fun y=>eqV y x
 | _,_,.nil,_=>rfl
 | y::xs,u::us,.cons r t,f=>by
  rw [Gp,Ja] at f;rw [Ny,Ny,Z90 r f.1,Z7w t f.2]
def Z4Q{A:Around}{s:Shared}{x:V}{v:Value}(rx:RelV x v)(fx:Z0d x=true):∀ {xs:List V} {us:List Value},Vals xs us->xs.all Z0d=true->∀ u∈us,SeqAt.EqAt A s u v (eqU x u)
 | _,_,.nil,_=>fun u hu=>by cases hu
 | y::xs,u::us,.cons r t,f=>fun u' hu=>by
  rw [Gp,Ja] at f;rcases Jb.mp hu with rfl | hu
  .rw [Z90 r f.1];exact Zga r rx f.1 fx
  .exact Z4Q rx fx t f.2 u' hu
abbrev inV(x:V)(xs:List V):Bool:=xs.any fun y=>eqV y x
abbrev rIn(K:Qa)(neg:Bool):R2:=fun x y H Q=>∃ p xs,y=.ref p/\(SqL K H p xs\/SqT K H p xs)/\Z0d x=true/\xs.all Z0d=true/\Q (.bl (if neg then !inV x xs else inV x xs)) H
def Z9f:OpR X (compareOp .NotIn) (rIn X.K true):=by
 intro pins s σ H x y v u Q I rx ry h;obtain ⟨p,xs,rfl,hq,fx,fs,q⟩:=h;cases ry;rcases hq with hq | hq
 .obtain ⟨its,r,pl,hz⟩:=I.list hq
  refine SeqAt.notIn_listAt (eqU x) pl.isList (fun w hw=>Z4Q rx fx r fs w (by simpa using hw)) ⟨.bl _,H,I,rfl,?_⟩;rw [show its.toArray.any (eqU x)=its.any (eqU x) by simp,Z7w r fs];exact q
 .obtain ⟨its,r,pl,hz⟩:=I.tuple hq
  refine SeqAt.notIn_tupleAt (eqU x) pl (fun w hw=>Z4Q rx fx r fs w (by simpa using hw)) ⟨.bl _,H,I,rfl,?_⟩;rw [show its.toArray.any (eqU x)=its.any (eqU x) by simp,Z7w r fs];exact q
def Z8R:Z0f X (.type "list") (fun xs H Q=>∃ p ys,xs=[.ref p]/\(SqL X.K H p ys\/SqT X.K H p ys)/\∀ l,H l=none->Q (.ref l) (upd H l (.lst ys))):=by
 intro pins s σ H xs us Q I r h;obtain ⟨p,ys,rfl,hq,q⟩:=h;obtain ⟨u,rfl,rx⟩:=vals1 r;cases rx
 have fin:∀ (its:List Value),Vals ys its->ys.length<=sizeLine->∀ (h':Heap) (c':Nat),(∀ b o',s.heap.get? b=some o'->h'.get? b=some o') ->
   h'.get? s.heap.objs.size=some { cls:=.type "list",dict:=none,data:=.seq its.toArray c',slots:=#[] }->EP X pins σ Q (.ref s.heap.objs.size) { s with heap:=h' }:=fun its r' hz h' c' kp e=>
  ⟨.ref s.heap.objs.size,_,I.laid (t':=s.toks) kp (Qq _) (show Z01 X.prog X.w _ h' _ (.lst ys) from ⟨hz,its,c',r',e⟩),rfl,q _ (I.hok.fresh (Qq _))⟩
 rcases hq with hq | hq
 .obtain ⟨its,r',pl,hz⟩:=I.list hq
  have hlen:=r'.length;obtain ⟨o,ho,hc,n,hd⟩:=pl.isList;exact call_list_seq p (.inl rfl) ho hc hd (fun h' c' kp e=>fin its r' hz h' c' kp e) (by simp only [Jh] <;> omega)
 .obtain ⟨its,r',pl,hz⟩:=I.tuple hq
  have hlen:=r'.length;obtain ⟨o,ho,hc,n,hd⟩:=pl;exact call_list_seq p (.inr rfl) ho hc hd (fun h' c' kp e=>fin its r' hz h' c' kp e) (by simp only [Jh] <;> omega)
abbrev tyV(K:Qa)(T:String)(x:V)(H:Hp):Prop:=match x with
 | .str _=>T ="str"
 | .int _=>T ="int"
 | .ref p=>(T ="list"/\∃ xs,SqL K H p xs)\/(T ="tuple"/\∃ o,K.lookup p=some o/\o.cls=.type "tuple"/\o.dict=none) \/
   (T ="dict"/\((∃ kvs,H p=some (.dK kvs))\/∃ kvs,H p=some (.dT kvs)))\/(T ="set"/\∃ S n,H p=some (.set S n))
 | _=>False
def Zcq{pins:List (Addr×Obj)}{σ:St}{H:Hp}{s:Shared}{T:String}{x:V}{v:Value}(I:Inv X pins σ H s)(r:RelV x v)(ty:tyV X.K T x H) :
  s.TypeIs v T/\∀ a,v=.ref a->∃ ob,s.heap.get? a=some ob/\ob.dict=none:=by
 cases x with
 | str z=>
  obtain ⟨t,rfl⟩:=r;cases (show T ="str" from ty);exact ⟨typeIs_str s z t,fun _ e=>nomatch e⟩
 | int i=>
  obtain ⟨t,rfl⟩:=r;cases (show T ="int" from ty);exact ⟨typeIs_int s i t,fun _ e=>nomatch e⟩
 | ref p=>
  cases r;rcases ty with ⟨rfl,xs,hq⟩ | ⟨rfl,o,hk,hc,hd⟩ | ⟨rfl,hk⟩ | ⟨rfl,S,n,hk⟩
  .obtain ⟨its,_,pl,_⟩:=I.list hq
   refine ⟨pl.isList.typeIs,fun a e=>?_⟩;cases e;obtain ⟨o,n,e,c,hd,_⟩:=pl;exact ⟨o,e,hd⟩
  .refine ⟨⟨o,I.kIn p o hk,hc⟩,fun a e=>?_⟩
   cases e;exact ⟨o,I.kIn _ o hk,hd⟩
  .have z:∃ o,s.heap.get? p=some o/\o.ExactDict:=by
    rcases hk with ⟨kvs,hk⟩ | ⟨kvs,hk⟩
    .obtain ⟨_,_,_,_,o,_,_,e,ex,_⟩:=I.hok p _ hk
     exact ⟨o,e,ex⟩
    .obtain ⟨_,_,_,_,o,_,_,e,ex,_⟩:=I.hok p _ hk
     exact ⟨o,e,ex⟩
   obtain ⟨o,e,ex⟩:=z;refine ⟨⟨o,e,ex.1⟩,fun a e2=>?_⟩;cases e2;exact ⟨o,e,ex.2.1⟩
  .obtain ⟨o,_,_,_,e,ex,_⟩:=I.hok p _ hk
   refine ⟨⟨o,e,ex.1⟩,fun a e2=>?_⟩;cases e2;exact ⟨o,e,ex.2.1⟩
 | _=>exact False.elim ty
abbrev tBM0(K:Qa)(T:String)(r:V->List V->Hp->VK->Prop)(to:TE):TE:=fun σ H Q=>to σ H fun x H1=>tyV K T x H1/\r x [] H1 Q
abbrev tBM(K:Qa)(T:String)(r:V->List V->Hp->VK->Prop)(to:TE)(t:TA):TE:=fun σ H Q=>to σ H fun x H1=>tyV K T x H1/\t σ H1 fun xs H2=>r x xs H2 Q
variable {o e:Expr}{es:List Expr}{to:TE}{t:TA}{name:Str}{apos cpos:Pos}{T id:String}{r:V->List V->Hp->VK->Prop}
def ZgR(pa:PlainAttrs T)(slot:Slot T name id)(hty:typeOf (.builtin id)=pure (.type "method_descriptor"))(hm:MtR X id r)(ho:PE X o to)
  (hbase:autoParam (attributeBase o name X.env (eval o X.env)=eval o X.env) uA._auto_1) (hline:autoParam ((apos.endLine == cpos.line)=true) uA._auto_1):PE X (.Call (.Attribute o name apos) [] [] cpos) (tBM0 X.K T r to):=by
 intro pins s σ H Q I h;refine wpAny_Call_method0_late hbase hline (thn (ho pins s σ H _ I h) fun v s1 ⟨x,H1,I1,r1,ty,q1⟩=>?_);obtain ⟨h1,h2⟩:=Zcq I1 r1 ty;exact ⟨T,id,pa,slot,hty,h1,h2,Calls.callWith_builtin rfl (PySem.evalArgs_none (hm pins s1 σ H1 x [] v [] Q I1 r1 .nil q1))⟩
def pe_bm(pa:PlainAttrs T)(slot:Slot T name id)(hty:typeOf (.builtin id)=pure (.type "method_descriptor"))(hm:MtR X id r)(ho:PE X o to)(ha:PA X (e::es) t)
  (hbase:autoParam (attributeBase o name X.env (eval o X.env)=eval o X.env) uA._auto_1)
  (hfew:autoParam (((backTo cpos (starEach (e::es) X.env)).all (fun x=>!x.1) && (backToKw cpos (keywordEach [] X.env)).all (fun x=>x.1.isSome)
   && decide ((e::es).length + ([]:List Keyword).length + (if ([]:List Keyword).isEmpty then 0 else 1) < 30))=true) uA._auto_1)
  (hline:autoParam ((apos.endLine == cpos.line)=true) uA._auto_1) (hs:autoParam (starEach (e::es) X.env=(false,eval e X.env)::starEach es X.env) uA._auto_1) (hplain:autoParam ((backTo cpos (starEach es X.env)).any (·.1)=false) uA._auto_1) :
  PE X (.Call (.Attribute o name apos) (e::es) [] cpos) (tBM X.K T r to t):=by
 intro pins s σ H Q I h;refine wpAny_Call_method_late hbase hfew hline rfl (thn (ho pins s σ H _ I h) fun v s1 ⟨x,H1,I1,r1,ty,q1⟩=>?_);obtain ⟨h1,h2⟩:=Zcq I1 r1 ty;refine ⟨T,id,pa,slot,hty,h1,h2,?_⟩;have hA:=ha cpos pins s1 σ H1 _ I1 q1;rw [hs] at hA ⊢;refine Calls.callWith_builtin (by show (false || (backTo cpos (starEach es X.env)).any (·.1))=false;rw [hplain] <;> rfl) (Calls.evalArgs_plain ?_)
 exact thn hA fun us s2 ⟨vs,H2,I2,r2,q2⟩=>hm pins s2 σ H2 x vs v us Q I2 r1 r2 q2
end
end
mutual
abbrev MtM(X:Cx)(id:String)(r:V->List V->Hp->VK->Prop):Prop:=
 ∀ (pins:List (Addr×Obj)) (s:Shared) (σ:St) (H:Hp) (x:V) (xs:List V) (v:Value) (us:List Value) (Q:VK),Inv X pins σ H s->RelV x v->Vals xs us->r x xs H Q ->
  wpAny (model X.prog X.w) X.A (call (.builtin id) (v::us)) (EP X pins σ Q) X.xe s
def Vals.one:∀ {x:V} {us:List Value},Vals [x] us->∃ u,us=[u]/\RelV x u
 | _,_,.cons r .nil=>⟨_,rfl,r⟩
def Vals.eraseIdx:∀ {xs:List V} {us:List Value} (i:Nat),Vals xs us->Vals (xs.eraseIdx i) (us.eraseIdx i)
 | _,_,_,.nil=>.nil
 | _,_,0,.cons _ t=>t
 | _,_,i + 1,.cons r t=>.cons r (Vals.eraseIdx i t)
def Z8j{α:Type}:∀ (l:List α) (i:Nat),(l.eraseIdx i).length<=l.length
 | [],_=>Qq _
 | _::_,0=>Nat.le_succ _
 | _::r,i + 1=>Nat.succ_le_succ (Z8j r i)
end
section
mutual
variable {X:Cx}{pins:List (Addr×Obj)}{σ:St}{H:Hp}{s:Shared}{l b:Addr}{xs ys zs:List V}
def Inv.lset{its its':List Value}{n:Nat}{f:Array Value->Array Value}{t':Nat}(I:Inv X pins σ H s)(hH:H l=some (.lst xs))
  (e:s.heap.get? l=some { cls:=.type "list",data:=.seq its.toArray n }) (hf:f its.toArray=its'.toArray) (hv:Vals ys its') (hz:ys.length<=sizeLine) :
  Inv X pins σ (upd H l (.lst ys)) { s with heap:=s.heap.update l (Obj.mapSeq f),toks:=t' }:=by
 have q:=PySem.IsL.update e f;rw [hf] at q;refine I.write (x:=l) (e:=l) (by rw [hH];exact trivial) (.inl rfl) (fun b' u hb hu=>(Heap.get?_update_other s.heap (Obj.mapSeq f) (Ne.symm hb)).trans hu) ⟨_,q⟩ ?_;exact ⟨hz,its',_,hv,q⟩
def Inv.lstM(I:Inv X pins σ H s)(hH:H l=some (.lst xs)):xs.length<=sizeLine/\∃ (its:List Value) (n:Nat),Vals xs its/\xs.length=its.length/\s.heap.get? l=some { cls:=.type "list",data:=.seq its.toArray n }:=by
 obtain ⟨z,its,n,r,e⟩:=I.hok l _ hH;exact ⟨z,its,n,r,r.length,e⟩
end
end
section
mutual
variable {X:Cx}
abbrev rAppend:V->List V->Hp->VK->Prop:=fun x vs H Q=>∃ l xs y,x=.ref l/\vs=[y]/\H l=some (.lst xs)/\xs.length < sizeLine/\Q .non (upd H l (.lst (xs++[y])))
def Z3Z:MtM X "list.append" rAppend:=by
 intro pins s σ H x vs v us Q I rx rv h;obtain ⟨l,xs,y,rfl,rfl,hH,hz,q⟩:=h;cases rx;obtain ⟨u,rfl,ru⟩:=rv.one;obtain ⟨z,its,n,r,hl,e⟩:=I.lstM hH;refine call_meets F.slot_list_append ⟨_,e,rfl⟩ F.entry_list_append (F.args_list_append_2 _ _) (PySem.list_append l its.toArray n u (by rw [Jh];omega)) ⟨e,?_⟩;refine ⟨.non,_,I.lset (its':=its++[u]) hH e (by simp) (r.append (.cons ru .nil)) ?_,rfl,q⟩;rw [Jf,List.length_singleton];omega
abbrev rPopAt:V->List V->Hp->VK->Prop:=fun x vs H Q=>∃ l xs i k y,x=.ref l/\vs=[.int i]/\H l=some (.lst xs)/\-(2 ^ 63)<=i/\i < 2 ^ 63/\seqIndex? i xs.length=some k/\xs[k]?=some y/\Q y (upd H l (.lst (xs.eraseIdx k)))
def ZdC:MtM X "list.pop" rPopAt:=by
 intro pins s σ H x vs v us Q I rx rv h;obtain ⟨l,xs,i,k,y,rfl,rfl,hH,h1,h2,hk,hy,q⟩:=h;cases rx;obtain ⟨u,rfl,ru⟩:=rv.one;obtain ⟨t,rfl⟩:=ru;obtain ⟨z,its,n,r,hl,e⟩:=I.lstM hH;obtain ⟨w,hw,rw'⟩:=r.get hy
 refine call_meets F.slot_list_pop ⟨_,e,rfl⟩ F.entry_list_pop (F.args_list_pop_2 _ _)
  (MeetsSeq.list_pop_at l its.toArray n i t k w (fitsIndex_both h1 h2) (by rw [Jh,<- hl];exact hk) (by rw [<- Array.getElem?_toList];exact hw) (by rw [Jh];omega)) ⟨e,?_⟩
 refine ⟨y,_,I.lset (its':=its.eraseIdx k) hH e ?_ (r.eraseIdx k) ?_,rw',q⟩
 .show its.toArray.eraseIdxIfInBounds k=(its.eraseIdx k).toArray
  rw [List.eraseIdxIfInBounds_toArray]
 .have:=Z8j xs k
  omega
end
end
end L2
namespace Att
open PySem PySem.W PySem.Calls PyProof.Rows
mutual
def Z71{P:Params}{h:Heap}:∀ (ns:List Int) (vs:List Value),WellAll P h vs (ns.map WData.int)->IntsAre vs ns:=by
 intro ns
 induction ns with
 | nil=>
  intro vs w;rw [Jw] at w;cases w;exact .nil
 | cons n ns ih=>
  intro vs w;rw [Qj] at w
  cases w with
  | cons a b=>
   cases a;exact .cons _ _ (ih _ b)
def Zcd{l:OpenLaw}{n:Nat}(hn:l.most=some n){P:Params}{h:Heap}{args:List WData}{vals:List Value}
  (hpre:l.row.toRowW.claim.pre args=true) (hwl:WellAll P h vals args) :
  ∃ a vs ns,vals=[Value.ref a]/\args=[WData.list (ns.map WData.int)]/\h.get? a=some { cls:=.type "list",data:=.seq vs.toArray }/\IntsAre vs ns/\ns.length<=n:=by
 have hsh:WShape.hasAll [] args [.list .int]=true:=(pre_splitW hpre).1;have hc:l.pre.holds [] { args:=args }=true:=(pre_splitW hpre).2;obtain ⟨d,r,rfl,h1,h2⟩:=hasAllW_cons hsh;obtain rfl:=hasAllW_nil h2;obtain ⟨xs,rfl,h3⟩:=hasW_list h1;obtain ⟨ns,rfl⟩:=items_int h3
 have hlen:ns.length<=n:=by
  unfold OpenLaw.pre at hc
  have h4:(WTm.not (.lt (.lit (.int (n:Int))) (.len (.arg 0)))).holds [] { args:=[.list (ns.map .int)] }=true:=by
   have h4:=(holds_andW hc).1;rw [hn] at h4;exact h4
  have h5:=condW_of h4 (w_not (w_lt w_lit (w_len_list (w_arg rfl))));rw [Qx] at h5;refine Nat.le_of_not_lt fun q=>?_;have q':(n:Int) < ((ns.length:Nat):Int):=by omega
  first
   | (rw [decide_eq_true q'] at h5;exact absurd h5 (by decide))
   | (simp at h5;omega)
 cases hwl with
 | cons w1 w2=>
  cases w2
  cases w1 with
  | list ho hall=>exact ⟨_,_,ns,rfl,rfl,ho,Z71 ns _ hall,hlen⟩
def Zc2(l:OpenLaw)(args:List WData):l.row.toRowW.claim.post args (.bool true) args=true:=
 postW_of (r:=l.row.toRowW) (X:=(true == true))
  (show WShape.has [] (.bool true) .bool=true by first | rfl | decide | simp [WShape.has,WShape.arms,WShape.armsAll])
  (show (WTm.eq .res (.lit (.bool true))).value [] { args:=args,res:=some (.bool true),after:=args }=some (.bool (true == true)) from w_eq_bool (w_res rfl) w_lit) rfl
def Z9G{l:OpenLaw}{n:Nat}{q:Program}{loose:List Str}{XP:(Str->Option Value)->Heap->Prop}{YP:World->Heap->Prop}{d:DefRec}
  (hn:l.most=some n) (hdf:d.params.defaults=[])
  (call:∀ (w:World) (s₀ s₁:Shared) (mg mb:Str->Option Value) (fa:Addr) (o:Obj) (pm cd doc:Value) (a:Addr) (vs:List Value) (ns:List Int),
   Ground q loose [] XP w s₀ mg mb s₁.heap->YP w s₁.heap ->
   s₁.heap.get? fa=some o->o.data=.func (docDef d.name d.params d.body d.scope pm cd doc)->s₁.heap.CodeRec cd d.name->mg d.name=some (.ref fa) ->
   s₁.heap.get? a=some { cls:=.type "list",data:=.seq vs.toArray }->IntsAre vs ns->ns.length<=n->s₁.gens=#[] ->
   codeAny (model l.prog w) callerA (.call (.ref fa) ⟨[.ref a],[]⟩) (fun r s'=>r=.ok (.ret (.bool true))/\OldK s₁.heap s'.heap/\s'.os=s₁.os/\AllBare s'.gens) s₁) :
  WalkO q loose XP YP l.row.toRowW d [] (fun f vs=>PySem.call f vs):=by
 intro w s₀ s₁ mg mb G Y fa o pm cd doc dV kV ho hd hcd hD hmg hg args vals as hpre hlay hrd hwl hlo;obtain rfl:dV=.none:=Dflts.none hD hdf;obtain rfl:kV=.none:=Dflts.noKw hD;obtain ⟨a,vs,ns,rfl,rfl,hobj,hints,hlen⟩:=Zcd hn hpre hwl;refine enter_call (codeAny_mono (call w s₀ s₁ mg mb fa o pm cd doc a vs ns G Y ho (fd_plain hd) hcd hmg hobj hints hlen hg) fun r s' hq=>?_);obtain ⟨rfl,h2,h3,h4⟩:=hq;exact ⟨.inl ⟨.bool true,.bool true,[],rfl,fun _=>rfl,.bool true,Zc2 l _,fun _=>⟨List.Pairwise.nil,fun _ hm=>(nomatch hm)⟩⟩,h2,h3,h4⟩
end
section
variable {prog:Program}{w:World}{A:Around}{E:Value->Shared->Prop}{s:Shared}{K:Frag}
noncomputable def ledger(h:Heap)(L d:Addr):List (Addr×Obj):=(List.range h.objs.size).filterMap fun a=>if a=L\/a=d then none else (h.get? a).map fun o=>(a,o)
end
end Att
namespace L2
open PySem PySem.Spec PyProof.Rows
mutual
def Z8u:∀ {vs:List Value} {ns:List Int},IntsAre vs ns->Vals (ns.map V.int) vs
 | _,_,.nil=>.nil
 | _,_,.cons n t h=>.cons ⟨t,rfl⟩ (Z8u h)
abbrev Only(H:Hp):Prop:=∀ b,H b=none\/∃ o xs,H b=some (.frz o (.lst xs))
def Zdy{P:Program}{w:World}{K:Qa}{mg mb:Str->Option Value}{CX:CXT}{k:Nat}{fa a:Addr}{fd:FuncData}{x:Str}{sp:Sp}{s₁:Shared}{vs:List Value}{ns:List Int}
  (KX:K.In s₁.heap) (hns:s₁.heap.Ns mainGlobals mg) (hb:s₁.heap.Ns builtinsNs mb) (hbb:∀ x:Str,x ≠ "__name__"->mb x=bootBuiltins x) (hlim:s₁.heap.NoLimit) (hg:s₁.gens=#[])
  (ha:s₁.heap.get? a=some { cls:=.type "list",data:=.seq vs.toArray }) (hi:IntsAre vs ns) (hl:ns.length<=sizeLine) (hr:Room k callerA)
  (F:∀ base:Heap,K.In base->base.Ns mainGlobals mg->FnOk P w K mg base CX k fa fd [x] sp) (hbind:∀ (s:Shared) (u:Value),BindsTo s fd ⟨[u],[]⟩ [(x,u)])
  (hsp:∀ H:Hp,Only H->SqL K H a (ns.map V.int)->sp [.ref a] H (fun v _=>v=.bl true) fun _ _ _=>False)
  (hCX:∀ H e s',CX [] H s₁ (fun _ _ _=>False) e s'->False) :
  codeAny (model P w) callerA (.call (.ref fa) ⟨[.ref a],[]⟩) (fun r s'=>r=.ok (.ret (.bool true))/\OldK s₁.heap s'.heap/\s'.os=s₁.os/\AllBare s'.gens) s₁:=by
 have rv:=Z8u hi;have lenV:=hi.length
 have core:∀ H:Hp,Only H->SqL K H a (ns.map V.int)->HOk P w H s₁.heap->(∀ b,H b≠none->b=a)->(H a≠none->K.lookup a=none) ->
   codeAny (model P w) callerA (.call (.ref fa) ⟨[.ref a],[]⟩) (fun r s'=>r=.ok (.ret (.bool true))/\OldK s₁.heap s'.heap/\s'.os=s₁.os/\AllBare s'.gens) s₁:=by
  intro H hO hS hok hA hK;have base_of:∀ {b:Addr} {o:Obj},s₁.heap.get? b=some o->H b=none->(hidT s₁.heap H).get? b=some o:=fun e n=>Zdq e n
  have noA:∀ {b:Addr} {o:Obj} {es:Array DictEntry} {ep:Nat},s₁.heap.get? b=some o->o.data=.dict es ep->H b=none:=fun {b o es ep} e d=>by
   cases q:H b with
   | none=>rfl
   | some u=>
    have e':b=a:=hA b (by rw [q];simp);subst e';rw [ha] at e;cases e;have d':Data.seq vs.toArray _=Data.dict es ep:=d;cases d'
  have nsK:∀ {b:Addr} {m:Str->Option Value},s₁.heap.Ns b m->(hidT s₁.heap H).Ns b m:=fun {b m} ⟨o,es,ep,e,d,r⟩=>⟨o,es,ep,base_of e (noA e d),d,r⟩
  have hKb:K.In (hidT s₁.heap H):=fun b o e=>base_of (KX b o e) (by
   cases q:H b with
   | none=>rfl
   | some u=>
    have e':b=a:=hA b (by rw [q];simp);subst e';rw [hK (by rw [q];simp)] at e;cases e)
  have hM:Mod K mg (hidT s₁.heap H):=⟨hKb,nsK hns,⟨mb,nsK hb,hbb⟩,let ⟨mc,h1,h2⟩:=hlim;⟨mc,nsK h1,h2⟩⟩;have e0:Env0 P w K mg (hidT s₁.heap H) callerA [] s₁ H:=⟨rfl,hM,fun b o e=>Zf1 e,Nat.le_of_eq (Zbz _ _),trivial,fun b hb=>absurd (show b∈([]:List Addr) from hb) (by simp),hok,.of_eq hg⟩;refine codeAny_mono ((F _ hKb (nsK hns)).run callerA [] s₁ H ⟨[.ref a],[]⟩ [.ref a] [.ref a] _ _ hr e0 (hbind s₁ (.ref a)) (.cons rfl .nil) (hsp H hO hS)) fun r s' h=>?_
  cases r with
  | error e=>exact (hCX H e s' h).elim
  | ok fl=>
   cases fl with
   | next=>exact False.elim h
   | brk=>exact False.elim h
   | cont=>exact False.elim h
   | ret u=>
    obtain ⟨v,H',os,bare,un,hok',r',q⟩:=h;have q':v=.bl true:=q;subst q';obtain rfl:u=Value.bool true:=r';refine ⟨rfl,OldK.of_keep fun b o e=>?_,os,bare⟩
    cases q:H b with
    | none=>exact un.keep b o e q (by intro z;exact absurd (show b∈([]:List Addr) from z) (by simp)) (by simp)
    | some u=>
     rcases hO b with z | ⟨ob,xs,z⟩
     .rw [q] at z;cases z
     .have z2:=un.frzs b ob _ z
      obtain ⟨e1,_⟩:=hok b _ z;obtain ⟨e2,_⟩:=hok' b _ z2;rw [e] at e1;cases e1;exact e2
 cases hk:K.lookup a with
 | some o=>
  have e:=KX a o hk;rw [ha] at e;cases e;refine core (fun _=>none) (fun _=>.inl rfl) (.inr ⟨_,vs.toArray,_,hk,rfl,rfl,rfl,by rw [Jh,lenV];exact hl,by simpa using rv⟩) (fun b u z=>by have z':(none:Option HO)=some u:=z;cases z') (fun b z=>absurd rfl z) fun z=>absurd rfl z
 | none=>
  refine core (fun b=>if b=a then some (.frz { cls:=.type "list",data:=.seq vs.toArray } (.lst (ns.map V.int))) else none) (fun b=>?_) (.inl (.inr ⟨{ cls:=.type "list",data:=.seq vs.toArray },if_pos rfl⟩)) (fun b u z=>?_) (fun b z=>?_) fun _=>hk
  .by_cases hb:b=a
   .exact .inr ⟨_,_,if_pos hb⟩
   .exact .inl (if_neg hb)
  .by_cases hb:b=a
   .have z':=(if_pos hb).symm.trans z
    cases z';subst hb;exact ⟨ha,by rw [Qx];exact hl,vs,_,rv,ha⟩
   .have z':=(if_neg hb).symm.trans z
    cases z'
  .by_cases hb:b=a
   .exact hb
   .exact absurd (if_neg hb) z
private abbrev KOf{K:Qa}{h:Heap}(_:K.In h):Qa:=K
def ZfS{l:PySem.W.OpenLaw}{n k:Nat}{q:Program}{loose:List Str}{XP:(Str->Option Value)->Heap->Prop}{YP:World->Heap->Prop}{d:DefRec}{K:Params->Qa}{CX:World->CXT}{sp:World->Sp}{x:Str}
  (hn:l.most=some n) (hn2:n<=sizeLine) (hdf:d.params.defaults=[]) (hr:Room k callerA)
  (hY:∀ (w:World) (h:Heap),YP w h->(K w.params).In h)
  (F:∀ (w:World) (mg:Str->Option Value) (fa:Addr) (h:Heap),(K w.params).In h->h.Ns mainGlobals mg->mg d.name=some (.ref fa) ->
   ∃ fd:FuncData,(∀ (s:Shared) (u:Value),BindsTo s fd ⟨[u],[]⟩ [(x,u)]) /\
    ∀ base:Heap,(K w.params).In base->base.Ns mainGlobals mg->FnOk l.prog w (K w.params) mg base (CX w) k fa fd [x] (sp w))
  (hsp:∀ (w:World) (H:Hp) (a:Addr) (ns:List Int),ns.length<=n->Only H->SqL (K w.params) H a (ns.map V.int)->sp w [.ref a] H (fun v _=>v=.bl true) fun _ _ _=>False)
  (hCX:∀ (w:World) (H:Hp) (s:Shared) (e:Value) (s':Shared),CX w [] H s (fun _ _ _=>False) e s'->False) :
  PySem.W.WalkO q loose XP YP l.row.toRowW d [] (fun f vs=>PySem.call f vs):=by
 refine Att.Z9G hn hdf fun w s₀ s₁ mg mb fa o pm cd doc a vs ns G Y ho hd hcd hmg hobj hints hlen hg=>?_;have KX:=hY w _ Y;obtain ⟨fd,hb,hF⟩:=F w mg fa _ KX G.T.g hmg;exact Zdy KX G.T.g G.T.b G.T.builtins G.T.nolimit hg hobj hints (Jr hlen hn2) hr hF hb (fun H hO hS=>hsp w H a ns hlen hO hS) fun H e s'=>hCX w H s₁ e s'
abbrev inClass(s:Stmt)(j:Nat):Stmt:=match s with
 | .ClassDef _ _ _ body _ _ _ _ _ _ _=>body.getD j (.Pass ⟨0,0,0,0⟩)
 | _=>.Pass ⟨0,0,0,0⟩
abbrev Z1X(s:Stmt):Arguments:=match s with
 | .FunctionDef _ a _ _ _ _ _ _ _ _=>a
 | _=>{ posonlyargs:=[],args:=[],vararg:=none,kwonlyargs:=[],kw_defaults:=[],kwarg:=none,defaults:=[] }
abbrev Z0g(s:Stmt):List Stmt:=match s with
 | .FunctionDef _ _ b _ _ _ _ _ _ _=>b
 | _=>[]
abbrev Z6(s:Stmt):Scope:=match s with
 | .FunctionDef _ _ _ _ _ _ sc _ _ _=>sc
 | _=>{ kind:=.function,names:=[],isGenerator:=false,isCoroutine:=false }
private abbrev CX0:CXT:=fun _ _ _ _ _ _=>False
private abbrev E0:XK:=fun _ _ _=>False
structure Fun(K:Qa)(x qual:Str)(st:Stmt)(f:Addr)(fd:FuncData):Prop where
 ex:∃ (oc:Value) (od:Option Addr) (kV doc pm:Value) (an:Option Addr) (cdv ct:Value) (osl:Array (Option Value)),
  fd=Wo x qual (Z1X st) (Z0g st) (Z6 st) .none kV doc pm an cdv ct/\K.lookup f=some ⟨oc,od,.func fd,osl⟩/\Nu K cdv qual=true
 kp:Jt K (.ref f)=true
end
section
variable {P:Program}{w:World}{K:Qa}{mg:Str->Option Value}{base:Heap}
theorem Z93{x qual:Str}{st:Stmt}{f:Addr}{oc:Value}{od an:Option Addr}{osl:Array (Option Value)}{kV doc pm cdv ct:Value}(l:K.lookup f=some ⟨oc,od,.func (Wo x qual (Z1X st) (Z0g st) (Z6 st) .none kV doc pm an cdv ct),osl⟩)
  (c:Nu K cdv qual=true) (k:Jt K (.ref f)=true):Fun K x qual st f (Wo x qual (Z1X st) (Z0g st) (Z6 st) .none kV doc pm an cdv ct):=⟨⟨oc,od,kV,doc,pm,an,cdv,ct,osl,rfl,l,c⟩,k⟩
end
theorem ZG{A:Around}{k:Nat}(hr:Room k A):A.units + 1 < cLine:=Nat.lt_of_le_of_lt (Nat.add_le_add_left (by decide:1<=64) _) hr.units
section
variable {X:Cx}
theorem pv(i:Nat){x:Str}{pos:Pos}(hN:autoParam (X.N[i]?=some x) uA._auto_1)(hv:autoParam (Vis X.env.scope x) uE._auto_1)(hd:autoParam ((x == ("__debug__":Str))=false) uB._auto_1)
  (hcd:autoParam ((x == ("__classdict__":Str))=false) uB._auto_1):PE X (.Name x pos) (Z1q i):=Zc0 hN hv hd hcd
end
mutual
def iteF{A B:Prop}(h:B):if false=true then A else B:=by
 rw [if_neg Ql];exact h
def iteT{A B:Prop}(h:A):if true=true then A else B:=by
 rw [if_pos rfl];exact h
abbrev Z11(H H':Hp):Prop:=∀ b o,H b=some o->H' b=some o
def Z11.trans{H H1 H2:Hp}(a:Z11 H H1)(b:Z11 H1 H2):Z11 H H2:=fun c o h=>b c o (a c o h)
def Z11.seq{K:Qa}{H H':Hp}{a:Addr}{xs:List V}(e:Z11 H H')(h:SqL K H a xs):SqL K H' a xs:=by
 rcases h with (h | ⟨o,h⟩) | h
 .exact .inl (.inl (e _ _ h))
 .exact .inl (.inr ⟨o,e _ _ h⟩)
 .exact .inr h
end
section
mutual
variable {κ:Type}[DecidableEq κ]
abbrev valV(kvs:List (κ×V))(k:κ):Option V:=(kvs.find? fun kv=>decide (kv.1=k)).map (·.2)
abbrev putK(kvs:List (κ×V))(k:κ)(v:V):List (κ×V):=
 if (kvs.any fun kv=>decide (kv.1=k))=true then kvs.map (fun kv=>if kv.1=k then (kv.1,v) else kv) else kvs++[(k,v)]
def Z55{p:κ×V}{r:List (κ×V)}{k:κ}(e:p.1=k):valV (p::r) k=some p.2:=by simp [valV,Wt,e]
def Z54{p:κ×V}{r:List (κ×V)}{k:κ}(e:¬ p.1=k):valV (p::r) k=valV r k:=by simp [valV,Wt,e]
def Z3S(k:κ):∀ kvs:List (κ×V),(kvs.any fun kv=>decide (kv.1=k))=(valV kvs k).isSome
 | []=>rfl
 | p::r=>by
  rw [Ny];by_cases e:p.1=k
  .simp only [Z55 e,decide_eq_true e,Bool.true_or,Option.isSome_some]
  .rw [Z54 e,decide_eq_false e,Bool.false_or];exact Z3S k r
def Z49(kvs:List (κ×V))(k:κ)(v:V):(putK kvs k v).length<=kvs.length + 1:=by
 unfold putK
 split
 .rw [Qx];omega
 .rw [Jf,Jy,List.length_nil];omega
def Z9n{kvs:List (κ×V)}{k:κ}(v:V)(h:valV kvs k=none):putK kvs k v=kvs++[(k,v)]:=by
 unfold putK;rw [Z3S,h];exact if_neg (by decide)
def RelO.isSome_eq{o:Option V}{u:Option Value}(r:RelO o u):o.isSome=u.isSome:=by
 cases o with
 | none=>cases u with
  | none=>rfl
  | some _=>exact (show False from r).elim
 | some _=>cases u with
  | none=>exact (show False from r).elim
  | some _=>rfl
def KV.val{kvs:List (κ×V)}{vs:List (κ×Value)}(r:KV kvs vs)(k:κ):RelO (valV kvs k) (valueAt vs k):=by
 unfold KV at r
 induction r with
 | nil=>exact True.intro
 | @cons p q ps qs h t ih=>
  obtain ⟨h1,h2⟩:=h;by_cases e:p.1=k
  .have e':q.1=k:=h1.symm.trans e
   have b:valueAt (q::qs) k=some q.2:=by simp [valueAt,Wt,e']
   rw [Z55 e,b];exact h2
  .have e':¬ q.1=k:=fun z=>e (h1.trans z)
   have b:valueAt (q::qs) k=valueAt qs k:=by simp [valueAt,Wt,e']
   rw [Z54 e,b];exact ih
def KV.any{kvs:List (κ×V)}{vs:List (κ×Value)}(r:KV kvs vs)(k:κ):(kvs.any fun kv=>decide (kv.1=k))=vs.any fun kv=>decide (kv.1=k):=by
 unfold KV at r
 induction r with
 | nil=>rfl
 | cons h t ih=>rw [Ny,Ny,ih,h.1]
def KV.repl{kvs:List (κ×V)}{vs:List (κ×Value)}(r:KV kvs vs)(k:κ){y:V}{u:Value}(ry:RelV y u) :
  KV (kvs.map fun kv=>if kv.1=k then (kv.1,y) else kv) (vs.map fun kv=>if kv.1=k then (kv.1,u) else kv):=by
 unfold KV at r ⊢
 induction r with
 | nil=>exact .nil
 | @cons p q ps qs h t ih=>
  rw [Qj,Qj];refine .cons ?_ ih;obtain ⟨h1,h2⟩:=h;by_cases e:p.1=k
  .rw [if_pos e,if_pos (h1.symm.trans e)];exact ⟨h1,ry⟩
  .rw [if_neg e,if_neg (fun z=>e (h1.trans z))];exact ⟨h1,h2⟩
def KV.put{kvs:List (κ×V)}{vs:List (κ×Value)}(r:KV kvs vs)(k:κ){y:V}{u:Value}(ry:RelV y u):KV (putK kvs k y) (stored vs k u):=by
 unfold putK stored;rw [r.any k];by_cases e:(vs.any fun kv=>decide (kv.1=k))=true
 .rw [if_pos e,if_pos e];exact r.repl k ry
 .rw [if_neg e,if_neg e];exact Paired.snoc r ⟨rfl,ry⟩
def KV.length{kvs:List (κ×V)}{vs:List (κ×Value)}(r:KV kvs vs):kvs.length=vs.length:=Paired.length r
end
end
mutual
def Z32{P:Program}{w:World}{k:Key}{u:Value}(r:RelV (kV k) u):(ZL P w).is k u=true:=by
 cases k with
 | inl i=>obtain ⟨t,e⟩:=(show ∃ t,u=Value.int i t from r);subst e;exact Z9N P w i t
 | inr x=>obtain ⟨t,e⟩:=(show ∃ t,u=Value.str x t from r);subst e;exact Z9O P w x t
def Z8i{P:Program}{w:World}:∀ {ks:List Key} {us:List Value},Vals (ks.map kV) us->ItemsAre (ZL P w) ks us
 | [],_,r=>by rw [Jw] at r;cases r;exact .nil
 | k::ks,_,r=>by
  rw [Qj] at r
  cases r with
  | cons h t=>exact .cons (Z32 h) (Z8i t)
private abbrev KT(H:Hp):List (List Key×V)->List (List Key×Addr×Value)->Prop:=Paired fun p q=>p.1=q.1/\H q.2.1=some (.tup (p.1.map kV))/\RelV p.2 q.2.2
def KT.val{H:Hp}{kvs:List (List Key×V)}{xs:List (List Key×Addr×Value)}(r:KT H kvs xs)(k:List Key):RelO (valV kvs k) ((atKey xs k).map (·.2)):=by
 induction r with
 | nil=>exact True.intro
 | @cons p q ps qs h t ih=>
  obtain ⟨h1,_,h2⟩:=h;by_cases e:p.1=k
  .have e':q.1=k:=h1.symm.trans e
   have b:atKey (q::qs) k=some q.2:=by simp [atKey,Wt,e']
   rw [Z55 e,b];exact h2
  .have e':¬ q.1=k:=fun z=>e (h1.trans z)
   have b:atKey (q::qs) k=atKey qs k:=by simp [atKey,Wt,e']
   rw [Z54 e,b];exact ih
def KT.repl{H:Hp}{kvs:List (List Key×V)}{xs:List (List Key×Addr×Value)}(r:KT H kvs xs)(k:List Key){y:V}{u:Value}(ry:RelV y u) :
  KT H (kvs.map fun kv=>if kv.1=k then (kv.1,y) else kv) (xs.map (putAt k u)):=by
 induction r with
 | nil=>exact .nil
 | @cons p q ps qs h t ih=>
  rw [Qj,Qj];refine .cons ?_ ih;obtain ⟨h1,h2,h3⟩:=h;unfold putAt;by_cases e:p.1=k
  .rw [if_pos e,if_pos (h1.symm.trans e)];exact ⟨h1,h2,ry⟩
  .rw [if_neg e,if_neg (fun z=>e (h1.trans z))];exact ⟨h1,h2,h3⟩
def KT.put{H:Hp}{kvs:List (List Key×V)}{xs:List (List Key×Addr×Value)}(r:KT H kvs xs)(k:List Key){b:Addr}{y:V}{u:Value}(hb:H b=some (.tup (k.map kV)))(ry:RelV y u) :
  KT H (putK kvs k y) (storedH xs k b u):=by
 have e:(kvs.any fun kv=>decide (kv.1=k))=(atKey xs k).isSome:=by
  rw [Z3S,(r.val k).isSome_eq,Gi]
 unfold putK storedH;rw [e];by_cases q:(atKey xs k).isSome=true
 .rw [if_pos q,if_pos q];exact r.repl k ry
 .rw [if_neg q,if_neg q];exact Paired.snoc r ⟨rfl,hb,ry⟩
def KT.keeps{H H':Hp}{kvs:List (List Key×V)}{xs:List (List Key×Addr×Value)}(r:KT H kvs xs)(ht:∀ b ys,H b=some (.tup ys)->H' b=some (.tup ys)):KT H' kvs xs:=
 Paired.mapP r fun _ _ z=>⟨z.1,ht _ _ z.2.1,z.2.2⟩
end
section
mutual
variable {P:Program}{w:World}{H:Hp}{h:Heap}{a:Addr}
def rd_of{u:HO}(ok:HOk P w H h)(e:Rd H a u):Z01 P w H h a u:=e.ok ok
def dk_rd{kvs:List (Key×V)}(ok:HOk P w H h)(e:Rd H a (.dK kvs)):kvs.length<=sizeLine/\(a == sysModules)=false/\∃ vs,KV kvs vs/\h.DictOf (ZL P w) a vs:=
 show Z01 P w H h a (.dK kvs) from rd_of ok e
def dk_of{kvs:List (Key×V)}(ok:HOk P w H h)(e:H a=some (.dK kvs)):kvs.length<=sizeLine/\(a == sysModules)=false/\∃ vs,KV kvs vs/\h.DictOf (ZL P w) a vs:=dk_rd ok (.inl e)
def Z5x{ks:List Key}(ok:HOk P w H h)(e:H a=some (.tup (ks.map kV))):(tupleKind (ZL P w)).is h ks a:=by
 obtain ⟨_,its,r,o,h1,h2,n,h3⟩:=(show Z01 P w H h a (.tup (ks.map kV)) from ok a _ e);exact ⟨o,its.toArray,n,h1,h2,h3,by simpa using Z8i r⟩
def dt_rd{kvs:List (List Key×V)}(ok:HOk P w H h)(e:Rd H a (.dT kvs)):kvs.length<=sizeLine/\(a == sysModules)=false /\
  ∃ xs,KT H kvs xs/\h.DictOfH (tupleKind (ZL P w)) a xs:=by
 obtain ⟨z,y,xs,r,o,es,ep,h1,h2,h3,h4,h5⟩:=(show Z01 P w H h a (.dT kvs) from rd_of ok e);refine ⟨z,y,xs,r,o,es,ep,h1,h2,h3,h4,fun x hx=>?_,h5⟩
 have all:∀ {l:List (List Key×V)} {m:List (List Key×Addr×Value)},KT H l m->∀ x∈m,(tupleKind (ZL P w)).is h x.1 x.2.1:=by
  intro l m q
  induction q with
  | nil=>intro x hx;exact nomatch hx
  | @cons p q ps qs hq t ih=>
   intro x hx;rcases Jb.mp hx with e | hx
   .subst e
    exact Z5x ok (by rw [<- hq.1];exact hq.2.1)
   .exact ih x hx
 exact all r x hx
def dt_of{kvs:List (List Key×V)}(ok:HOk P w H h)(e:H a=some (.dT kvs)):kvs.length<=sizeLine/\(a == sysModules)=false /\
  ∃ xs,KT H kvs xs/\h.DictOfH (tupleKind (ZL P w)) a xs:=dt_rd ok (.inl e)
end
end
mutual
abbrev DGet(H:Hp)(a:Addr)(y:V)(r:Option V):Prop:=
 (∃ kvs k,Rd H a (.dK kvs)/\y=kV k/\r=valV kvs k)\/∃ kvs k b,Rd H a (.dT kvs)/\y=.ref b/\H b=some (.tup (k.map kV))/\r=valV kvs k
abbrev DPut(H:Hp)(a:Addr)(y v:V)(H':Hp):Prop:=
 (∃ kvs k,H a=some (.dK kvs)/\y=kV k/\kvs.length < sizeLine/\H'=upd H a (.dK (putK kvs k v))) \/
 ∃ kvs k b,H a=some (.dT kvs)/\y=.ref b/\H b=some (.tup (k.map kV))/\kvs.length < sizeLine/\H'=upd H a (.dT (putK kvs k v))
def DGet.k{H:Hp}{a:Addr}{kvs:List (Key×V)}{k:Key}(e:H a=some (.dK kvs)):DGet H a (kV k) (valV kvs k):=.inl ⟨kvs,k,.inl e,rfl,rfl⟩
def DGet.t{H:Hp}{a b:Addr}{kvs:List (List Key×V)}{k:List Key}(e:H a=some (.dT kvs))(eb:H b=some (.tup (k.map kV))):DGet H a (.ref b) (valV kvs k):=.inr ⟨kvs,k,b,.inl e,rfl,eb,rfl⟩
def DPut.k{H:Hp}{a:Addr}{kvs:List (Key×V)}{k:Key}{v:V}(e:H a=some (.dK kvs))(hl:kvs.length < sizeLine):DPut H a (kV k) v (upd H a (.dK (putK kvs k v))):=.inl ⟨kvs,k,e,rfl,hl,rfl⟩
end
section
mutual
variable {X:Cx}{pins:List (Addr×Obj)}{σ:St}{H:Hp}{s:Shared}{a:Addr}{y v:V}{u r:Value}{o:Option V}{A:Around}{E:Value->Shared->Prop}
def Inv.big(I:Inv X pins σ H s):sysModules < s.heap.objs.size:=by
 have h:mainGlobals < s.heap.objs.size:=(I.mod.glob.keeps I.bk).lt;exact Nat.lt_trans (by decide) h
def Z8b{Q:Value->Shared->Prop}(hu:A.units + 1 < cLine)(I:Inv X pins σ H s)(g:DGet H a y (some v))(ry:RelV y u)(h:∀ w' s',Inv X pins σ H s'->RelV v w'->Q w' s') :
  wpAny (model X.prog X.w) A (getItem (.ref a) u) Q E s:=by
 rcases g with ⟨kvs,k,e,ey,l⟩ | ⟨kvs,k,b,e,ey,eb,l⟩
 .subst ey
  obtain ⟨z,hd,vs,rel,dd⟩:=dk_rd I.hok e;obtain ⟨w',hw,rw'⟩:=RelO.some_of (v:=v) (o:=valueAt vs k) (by rw [l];exact rel.val k);exact wpAny_getItem_of (Z32 ry) dd.mapOf hw (h w' _ (I.tok _) rw')
 .subst ey
  cases (show u=Value.ref b from ry);obtain ⟨z,hd,xs,rel,dd⟩:=dt_rd I.hok e;obtain ⟨w',hw,rw'⟩:=RelO.some_of (v:=v) (o:=(atKey xs k).map (·.2)) (by rw [l];exact rel.val k)
  obtain ⟨p,hp,hp2⟩:=Gj.mp hw;refine wpAny_getItem_heap (tupleKind_room_in1 hu) (Z5x I.hok eb) dd hp ?_;rw [hp2];exact h w' _ (I.tok _) rw'
def d_in{Q:Value->Shared->Prop}(hu:A.units + 1 < cLine)(I:Inv X pins σ H s)(g:DGet H a y o)(ry:RelV y u)(h:∀ s',Inv X pins σ H s'->Q (.bool o.isSome) s') :
  wpAny (model X.prog X.w) A (compareOp .In u (.ref a)) Q E s:=by
 rcases g with ⟨kvs,k,e,ey,l⟩ | ⟨kvs,k,b,e,ey,eb,l⟩
 .subst ey
  obtain ⟨z,hd,vs,rel,dd⟩:=dk_rd I.hok e;refine wpAny_in_of (Z32 ry) hd dd.mapOf ?_;rw [<- (rel.val k).isSome_eq,<- l];exact h _ (I.tok _)
 .subst ey
  cases (show u=Value.ref b from ry);obtain ⟨z,hd,xs,rel,dd⟩:=dt_rd I.hok e;refine wpAny_in_heap (tupleKind_room_in1 hu) (Z5x I.hok eb) hd dd ?_;have q:=(rel.val k).isSome_eq;rw [Gi] at q;rw [<- q,<- l];exact h _ (I.tok _)
def Zep{Q:Value->Shared->Prop}(hu:A.units + 1 < cLine)(I:Inv X pins σ H s)(g:DGet H a y o)(ry:RelV y u)(h:∀ s',Inv X pins σ H s'->Q (.bool (!o.isSome)) s') :
  wpAny (model X.prog X.w) A (compareOp .NotIn u (.ref a)) Q E s:=by
 rcases g with ⟨kvs,k,e,ey,l⟩ | ⟨kvs,k,b,e,ey,eb,l⟩
 .subst ey
  obtain ⟨z,hd,vs,rel,dd⟩:=dk_rd I.hok e;refine wpAny_notIn_of (Z32 ry) hd dd.mapOf ?_;rw [<- (rel.val k).isSome_eq,<- l];exact h _ (I.tok _)
 .subst ey
  cases (show u=Value.ref b from ry);obtain ⟨z,hd,xs,rel,dd⟩:=dt_rd I.hok e;refine wpAny_notIn_heap (tupleKind_room_in1 hu) (Z5x I.hok eb) hd dd ?_;have q:=(rel.val k).isSome_eq;rw [Gi] at q;rw [<- q,<- l];exact h _ (I.tok _)
def Z7A{h':Heap}{t':Nat}{ob:HO}(I:Inv X pins σ H s)(mu:Mut (H a))(hs:Heap.SameBut a s.heap h')(he:∃ q,h'.get? a=some q)(new:Z01 X.prog X.w (upd H a ob) h' a ob) :
  Inv X pins σ (upd H a ob) { s with heap:=h',toks:=t' }:=
 I.write (x:=a) (e:=a) mu (.inl rfl) (fun b q hb z=>(hs.2 b hb).trans z) he new
def Zbp{P:Program}{w:World}{H':Hp}{h':Heap}{kvs:List (Key×V)}{vs:List (Key×Value)}(z:kvs.length<=sizeLine)(hd:(a == sysModules)=false)(rel:KV kvs vs)(dd:h'.DictOf (ZL P w) a vs) :
  Z01 P w H' h' a (.dK kvs):=⟨z,hd,vs,rel,dd⟩
def Z8c{H':Hp}{Q:Unit->Shared->Prop}(hu:A.units + 1 < cLine)(I:Inv X pins σ H s)(g:DPut H a y v H')(ry:RelV y u)(rv:RelV v r)(h:∀ s',Inv X pins σ H' s'->Q () s') :
  wpAny (model X.prog X.w) A (setItem (.ref a) u r) Q E s:=by
 rcases g with ⟨kvs,k,e,ey,l,eH⟩ | ⟨kvs,k,b,e,ey,eb,l,eH⟩
 .subst ey eH
  obtain ⟨z,hd,vs,rel,dd⟩:=dk_of I.hok e;have hz:vs.length<=sizeLine:=by rw [<- rel.length];exact z
  have hl:(putK kvs k v).length<=sizeLine:=by have:=Z49 kvs k v;omega
  refine wpAny_setItem_pairs (hsz:=hz) (Z32 ry) dd fun h' dd' hs=>h _ ?_;have he:∃ q,h'.get? a=some q:=let ⟨q,_,_,hq,_⟩:=dd';⟨q,hq⟩;exact Z7A I (by rw [e];exact True.intro) hs he (Zbp hl hd (rel.put k rv) dd')
 .subst ey eH
  cases (show u=Value.ref b from ry);obtain ⟨z,hd,xs,rel,dd⟩:=dt_of I.hok e;have hz:xs.length<=sizeLine:=by rw [<- Paired.length rel];exact z
  have hl:(putK kvs k v).length<=sizeLine:=by have:=Z49 kvs k v;omega
  refine wpAny_setItem_heap (hsz:=hz) (tupleKind_room_in1 hu) (Z5x I.hok eb) dd fun h' dd' hs=>h _ ?_;obtain ⟨q,es,ep,hq,h2,h3,h4,_,h5⟩:=dd';refine Z7A I (by rw [e];exact True.intro) hs ⟨q,hq⟩ ⟨hl,hd,_,(rel.put k eb rv).keeps fun c ys ec=>?_,q,es,ep,hq,h2,h3,h4,h5⟩;rw [Zb (ne_of ec e (fun z=>nomatch z))];exact ec
end
end
section
variable {X:Cx}{pins:List (Addr×Obj)}{σ:St}{H:Hp}{s:Shared}{a:Addr}{kvs:List (Key×V)}{k:Key}{u:Value}{A:Around}{E:Value->Shared->Prop}
theorem d_len{Q:Value->Shared->Prop}(I:Inv X pins σ H s)(e:Rd H a (.dK kvs))(h:∀ t s',Inv X pins σ H s'->Q (.int kvs.length t) s'):wpAny (model X.prog X.w) A (call (.builtin "len") [.ref a]) Q E s:=by
 obtain ⟨z,hd,vs,rel,dd⟩:=dk_rd I.hok e;refine call_len_dict hd dd (by rw [<- rel.length];rw [sizeLine_eq] at z;omega) ?_;rw [<- rel.length];exact h _ _ (I.tok _)
end
mutual
abbrev NoSl(i:Expr):Prop:=∀ ov iv,subscripted i false ov iv=operate [ov,iv] (getItem ov iv)
def Zav{prog:Program}{w:World}{A:Around}{E:Value->Shared->Prop}{s:Shared}{env:Env}{value slice:Expr}{pos:Pos}{T id:String}{Q:Value->Shared->Prop}
  (hl:typeLookup (.type T) "__getitem__"=pure (some (.builtin id))) (hs:NoSl slice)
  (h:wpAny (model prog w) A (eval value env) (fun o s₁=>wpAny (model prog w) A (eval slice env) (fun i s₂=>s₂.TypeIs o T/\wpAny (model prog w) A (getItem o i) Q E s₂) E s₁) E s) :
  wpAny (model prog w) A (eval (.Subscript value slice pos) env) Q E s:=by
 refine Subscript_ (wpAny_mono h (fun o s₁ h₁=>wpAny_mono h₁ (fun i s₂ h₂=>?_) fun _ _ x=>x) fun _ _ x=>x);obtain ⟨hT,h₂⟩:=h₂;unfold subscriptTail;refine wpAny_bind ?_;rw [getitemInPython_of_ne hT.not_modules];refine wpAny_bind (wpAny_specialOf hT hl ?_)
 have fin:wpAny (model prog w) A (subscripted slice false o i) (fun r s₃=>wpAny (model prog w) A (letTemporaryGo value o r >>= fun _=>pure r) Q E s₃) E s₂:=by
  rw [hs o i];exact wpAny_operating (wpAny_mono h₂ (fun r s₃ h₃=>wpAny_bind (wpAny_letTemporaryGo (wpAny_pure h₃))) fun _ _ x=>x)
 first
  | exact wpAny_pure (wpAny_bind fin)
  | exact wpAny_bind (wpAny_pure (wpAny_bind fin))
  | exact wpAny_bind fin
def Z9M{X:Cx}{pins:List (Addr×Obj)}{σ:St}{H:Hp}{s:Shared}{a:Addr}{y:V}{o:Option V}(I:Inv X pins σ H s)(g:DGet H a y o):s.TypeIs (.ref a) "dict":=by
 rcases g with ⟨kvs,k,e,_,_⟩ | ⟨kvs,k,b,e,_,_,_⟩
 .obtain ⟨_,_,vs,_,dd⟩:=dk_rd I.hok e
  exact dd.typeIs
 .obtain ⟨_,_,xs,_,dd⟩:=dt_rd I.hok e
  exact dd.typeIs
abbrev tDGet(td ty:TE):TE:=fun σ H Q=>td σ H fun x H1=>ty σ H1 fun y H2=>∃ a v,x=.ref a/\DGet H2 a y (some v)/\Q v H2
abbrev tDIn(ty td:TE):TE:=fun σ H Q=>ty σ H fun y H1=>td σ H1 fun x H2=>∃ a o,x=.ref a/\DGet H2 a y o/\Q (.bl o.isSome) H2
abbrev tDNotIn(ty td:TE):TE:=fun σ H Q=>ty σ H fun y H1=>td σ H1 fun x H2=>∃ a o,x=.ref a/\DGet H2 a y o/\Q (.bl (!o.isSome)) H2
abbrev sDPut(td ty tv:TE):TS:=fun D σ H=>tv σ H fun v H1=>td σ H1 fun x H2=>ty σ H2 fun y H3=>∃ a H4,x=.ref a/\DPut H3 a y v H4/\D.nx σ H4
abbrev sDAug(td ty tv:TE)(rd:V->V->Hp->VK->Prop):TS:=fun D σ H=>td σ H fun x H1=>ty σ H1 fun y H2=>∃ a v,x=.ref a/\DGet H2 a y (some v) /\
 tv σ H2 fun y2 H3=>rd v y2 H3 fun z H4=>∃ H5,DPut H4 a y z H5/\D.nx σ H5
end
section
mutual
variable {X:Cx}{o i e value:Expr}{pos pos' tpos:Pos}{td ty tv:TE}
def Zf5(hu:X.A.units + 1 < cLine)(ho:PE X o td)(hi:PE X i ty)(hs:NoSl i):PE X (.Subscript o i pos) (tDGet td ty):=by
 intro pins s σ H Q I h;refine Zav PySem.F.slot_dict_getitem.lookup hs (thn (ho pins s σ H _ I h) fun u s1 ⟨x,H1,I1,rx,q1⟩=>thn (hi pins s1 σ H1 _ I1 q1) fun iv s2 ⟨y,H2,I2,ry,a,v,ex,g,q2⟩=>?_);subst ex;obtain rfl:u=Value.ref a:=rx;exact ⟨Z9M I2 g,Z8b hu I2 g ry fun w' s3 I3 rw'=>⟨v,H2,I3,rw',q2⟩⟩
def ZgQ(hu:X.A.units + 1 < cLine)(hi:PE X i ty)(ho:PE X o td):PC X .In i o (tDIn ty td):=by
 intro pins s σ H Q I h;refine thn (hi pins s σ H _ I h) fun iv s1 ⟨y,H1,I1,ry,q1⟩=>thn (ho pins s1 σ H1 _ I1 q1) fun u s2 ⟨x,H2,I2,rx,a,ov,ex,g,q2⟩=>?_;subst ex;obtain rfl:u=Value.ref a:=rx;exact d_in hu I2 g ry fun s3 I3=>⟨.bl ov.isSome,H2,I3,rfl,q2⟩
def ZbU(hu:X.A.units + 1 < cLine)(hi:PE X i ty)(ho:PE X o td):PC X .NotIn i o (tDNotIn ty td):=by
 intro pins s σ H Q I h;refine thn (hi pins s σ H _ I h) fun iv s1 ⟨y,H1,I1,ry,q1⟩=>thn (ho pins s1 σ H1 _ I1 q1) fun u s2 ⟨x,H2,I2,rx,a,ov,ex,g,q2⟩=>?_;subst ex;obtain rfl:u=Value.ref a:=rx;exact Zep hu I2 g ry fun s3 I3=>⟨.bl (!ov.isSome),H2,I3,rfl,q2⟩
def Zfh(hu:X.A.units + 1 < cLine)(ho:PE X o td)(hi:PE X i ty)(hv:PE X value tv)(hs:swapsWith value (some (.Subscript o i pos')) pos.line X.env=pure false) :
  PS X (.Assign [.Subscript o i pos'] value pos) (sDPut td ty tv):=by
 intro pins s σ H D I h;refine wpAny_Assign_Subscript (thn (hv pins s σ H _ I h) fun r s1 ⟨v,H1,I1,rv,q1⟩=>thn (ho pins s1 σ H1 _ I1 q1) fun u s2 ⟨x,H2,I2,rx,q2⟩=>thn (hi pins s2 σ H2 _ I2 q2) fun iv s3 ⟨y,H3,I3,ry,a,H4,ex,g,q3⟩=>?_) hs;subst ex;obtain rfl:u=Value.ref a:=rx;exact Z8c hu I3 g ry rv fun s4 I4=>⟨σ,H4,I4,q3⟩
def Zfg{op:Operator}{rd:V->V->Hp->VK->Prop}(hu:X.A.units + 1 < cLine)(ho:PE X o td)(hi:PE X i ty)(hv:PE X value tv)(hop:InOp X op rd)
  (ha:∀ ov iv new,augStore i ov iv new=(do holding [new,ov,iv] (setItem ov iv new);release [new,ov,iv] [];pure .next)):PS X (.AugAssign (.Subscript o i tpos) op value pos) (sDAug td ty tv rd):=by
 intro pins s σ H D I h;refine wpAny_AugAssign_SubscriptAny (thn (ho pins s σ H _ I h) fun u s1 ⟨x,H1,I1,rx,q1⟩=>thn (hi pins s1 σ H1 _ I1 q1) fun iv s2 ⟨y,H2,I2,ry,a,v,ex,g,q2⟩=>?_) ha;subst ex;obtain rfl:u=Value.ref a:=rx;refine Z8b hu I2 g ry fun w' s3 I3 rw'=>thn (hv pins s3 σ H2 _ I3 q2) fun w2 s4 ⟨y2,H3,I4,ry2,q3⟩=>thn (hop pins s4 σ H3 v y2 w' w2 _ I4 rw' ry2 q3) fun w3 s5 ⟨z,H4,I5,rz,H5,g5,q4⟩=>?_;exact Z8c hu I5 g5 ry rz fun s6 I6=>⟨σ,H5,I6,q4⟩
end
end
mutual
def Z8Z{P:Program}{w:World}{H:Hp}(h:Heap)(hb:sysModules < h.objs.size):Z01 P w H (h.push { cls:=.type "dict",data:=.dict #[] }) h.objs.size (.dK []):=
 ⟨Ge _,beq_eq_false_iff_ne.mpr (Ne.symm (Jc hb)),[],.nil,Heap.DictOf.new h⟩
def Zd9{P:Program}{w:World}{H:Hp}(h:Heap)(hb:sysModules < h.objs.size):Z01 P w H (h.push { cls:=.type "dict",data:=.dict #[] }) h.objs.size (.dT []):=
 ⟨Ge _,beq_eq_false_iff_ne.mpr (Ne.symm (Jc hb)),[],.nil,_,#[],0,Qy _ rfl,⟨rfl,rfl,rfl⟩,rfl,rfl,Ng⟩
abbrev tDNewK:TE:=fun _ H Q=>∀ p,H p=none->Q (.ref p) (upd H p (.dK []))
abbrev tDNewT:TE:=fun _ H Q=>∀ p,H p=none->Q (.ref p) (upd H p (.dT []))
end
section
mutual
variable {X:Cx}{pos:Pos}
def ZdH:PE X (.Dict [] [] pos) tDNewK:=fun pins s σ H Q I h=>
 wpAny_Dict_empty ⟨.ref s.heap.objs.size,_,I.laid (a:=s.heap.objs.size) (o:=.dK []) (t':=s.toks) (fun _ _ q=>Qi _ q) (Qq _) (Z8Z s.heap I.big),rfl,h _ (I.hok.fresh (Qq _))⟩
def ZdI:PE X (.Dict [] [] pos) tDNewT:=fun pins s σ H Q I h=>
 wpAny_Dict_empty ⟨.ref s.heap.objs.size,_,I.laid (a:=s.heap.objs.size) (o:=.dT []) (t':=s.toks) (fun _ _ q=>Qi _ q) (Qq _) (Zd9 s.heap I.big),rfl,h _ (I.hok.fresh (Qq _))⟩
end
end
mutual
abbrev Z4C:List (TE×TE)->St->Hp->(List (V×V)->Hp->Prop)->Prop
 | [],_,H,Q=>Q [] H
 | (tk,tv)::r,σ,H,Q=>tk σ H fun x H1=>tv σ H1 fun y H2=>Z4C r σ H2 fun ps H3=>Q ((x,y)::ps) H3
private abbrev VV:List (V×V)->List (Value×Value)->Prop:=Paired fun p q=>RelV p.1 q.1/\RelV p.2 q.2
abbrev PPs(X:Cx)(pos:Pos)(keys:List (Option Expr))(values:List Expr)(trs:List (TE×TE)):Prop:=
 ∀ (pins:List (Addr×Obj)) (s:Shared) (σ:St) (H:Hp) (Q:List (V×V)->Hp->Prop),Inv X pins σ H s->Z4C trs σ H Q ->
  wpAny (model X.prog X.w) X.A (evalPairs (pairTrees keys values X.env pos)) (fun vs s'=>∃ ps H',Inv X pins σ H' s'/\VV ps vs/\Q ps H') X.xe s
def Zff{X:Cx}{pos:Pos}:PPs X pos [] [] []:=fun pins s σ H Q I h=>pairTrees_nil_walk ⟨[],H,I,.nil,h⟩
def ZdJ{X:Cx}{pos:Pos}{k v:Expr}{ks:List (Option Expr)}{vs:List Expr}{tk tv:TE}{trs:List (TE×TE)}(hk:PE X k tk)(hv:PE X v tv)(hr:PPs X pos ks vs trs) :
  PPs X pos (some k::ks) (v::vs) ((tk,tv)::trs):=fun pins s σ H Q I h=>
 pairTrees_cons_walk (thn (hk pins s σ H _ I h) fun u s1 ⟨x,H1,I1,rx,q1⟩=>thn (hv pins s1 σ H1 _ I1 q1) fun w2 s2 ⟨y,H2,I2,ry,q2⟩=>
  thn (hr pins s2 σ H2 _ I2 q2) fun ws s3 ⟨ps,H3,I3,rel,q3⟩=>⟨(x,y)::ps,H3,I3,.cons ⟨rx,ry⟩ rel,q3⟩)
abbrev Z2y(kvs more:List (Key×V)):List (Key×V):=more.foldl (fun acc kv=>putK acc kv.1 kv.2) kvs
def KV.merge:∀ {more:List (Key×V)} {rs:List (Key×Value)} {kvs:List (Key×V)} {vs:List (Key×Value)},KV more rs->KV kvs vs->KV (Z2y kvs more) (merged vs rs):=by
 intro more rs kvs vs r;unfold KV at r
 induction r generalizing kvs vs with
 | nil=>intro q;exact q
 | @cons p q ps qs h t ih=>
  intro r0
  have e:KV (putK kvs p.1 p.2) (stored vs q.1 q.2):=by
   have:=r0.put p.1 h.2;rw [<- h.1];exact this
  exact ih e
def Z5b:∀ (more kvs:List (Key×V)),(Z2y kvs more).length<=kvs.length + more.length
 | [],kvs=>by show kvs.length<=kvs.length + 0;omega
 | p::r,kvs=>by
  have h1:=Z5b r (putK kvs p.1 p.2);have h2:=Z49 kvs p.1 p.2;show (Z2y (putK kvs p.1 p.2) r).length<=_;rw [Jy];omega
def Z6T{P:Program}{w:World}:∀ {kvs:List (Key×V)} {ws:List (Value×Value)},VV (kvs.map fun kv=>(kV kv.1,kv.2)) ws->∃ rs,Carries (ZL P w) ws rs/\KV kvs rs
 | [],_,r=>by rw [Jw] at r;cases r;exact ⟨[],True.intro,.nil⟩
 | p::kvs,_,r=>by
  rw [Qj] at r
  cases r with
  | @cons a b as bs h t=>
   obtain ⟨rs,c,q⟩:=Z6T (P:=P) (w:=w) t;obtain ⟨b1,b2⟩:=b;exact ⟨(p.1,b2)::rs,⟨Z32 h.1,rfl,c⟩,.cons ⟨rfl,h.2⟩ q⟩
abbrev tDisp(trs:List (TE×TE)):TE:=fun σ H Q=>∀ p,H p=none->Z4C trs σ (upd H p (.dK [])) fun ps H2=>H2 p=some (.dK [])/\∃ kvs:List (Key×V),ps=kvs.map (fun kv=>(kV kv.1,kv.2))/\kvs.length<=15/\Q (.ref p) (upd H2 p (.dK (Z2y [] kvs)))
def Zf6{X:Cx}{pos:Pos}{keys:List (Option Expr)}{values:List Expr}{trs:List (TE×TE)}(h:PPs X pos keys values trs)(hall:keys.all (·.isSome)=true)(hl:keys.length=values.length)(h0:keys≠[])
  (h15:keys.length<=15):PE X (.Dict keys values pos) (tDisp trs):=by
 intro pins s σ H Q I q;have hn:=I.hok.fresh (Qq s.heap.objs.size);have I1:=I.laid (a:=s.heap.objs.size) (o:=.dK []) (h':=s.heap.push { cls:=.type "dict",data:=.dict #[] }) (t':=s.toks) (fun _ _ q=>Qi _ q) (Qq _) (Z8Z s.heap I.big);refine wpAny_Dict_walk (knd:=ZL X.prog X.w) hall hl h0 h15 (thn (h pins _ σ _ _ I1 (q _ hn)) fun ws s2 ⟨ps,H2,I2,rel,e,kvs,ep,lk,q2⟩=>?_);subst ep;obtain ⟨rs,c,rk⟩:=Z6T (P:=X.prog) (w:=X.w) rel;obtain ⟨z,hd,vs0,r0,dd⟩:=dk_of I2.hok e;cases r0;refine ⟨rs,c,dd,fun h' dd' hs=>⟨.ref s.heap.objs.size,_,?_,rfl,q2⟩⟩
 have hz:(Z2y [] kvs).length<=sizeLine:=by
  have h1:=Z5b kvs [];rw [List.length_nil] at h1;rw [sizeLine_eq];omega
 have he:∃ q,h'.get? s.heap.objs.size=some q:=let ⟨q,_,_,hq,_⟩:=dd';⟨q,hq⟩;exact Z7A I2 (by rw [e];exact True.intro) hs he (Zbp hz hd (rk.merge .nil) dd')
structure M1(X:Cx)(o:Expr)(m:Str)(apos:Pos)(e:Expr)(cpos:Pos):Prop where
 base:attributeBase o m X.env (eval o X.env)=eval o X.env
 few:((backTo cpos (starEach [e] X.env)).all (fun x=>!x.1) && (backToKw cpos (keywordEach [] X.env)).all (fun x=>x.1.isSome)
  && decide (([e]:List Expr).length + ([]:List Keyword).length + (if ([]:List Keyword).isEmpty then 0 else 1) < 30))=true
 line:(apos.endLine == cpos.line)=true
 trees:backTo cpos (starEach [e] X.env)=[(false,eval e X.env)]
structure M2(X:Cx)(o:Expr)(m:Str)(apos:Pos)(e f:Expr)(cpos:Pos):Prop where
 base:attributeBase o m X.env (eval o X.env)=eval o X.env
 few:((backTo cpos (starEach [e,f] X.env)).all (fun x=>!x.1) && (backToKw cpos (keywordEach [] X.env)).all (fun x=>x.1.isSome)
  && decide (([e,f]:List Expr).length + ([]:List Keyword).length + (if ([]:List Keyword).isEmpty then 0 else 1) < 30))=true
 line:(apos.endLine == cpos.line)=true
 trees:backTo cpos (starEach [e,f] X.env)=[(false,eval e X.env),(false,eval f X.env)]
end
section
variable {X:Cx}
theorem Zb2:Z0f X (.builtin "len") (fun xs H Q=>∃ a kvs,xs=[V.ref a]/\H a=some (.dK kvs)/\Q (.int kvs.length) H):=by
 intro pins s σ H xs us Q I r h;obtain ⟨a,kvs,rfl,ha,q⟩:=h;obtain ⟨u,rfl,ru⟩:=vals1 r;cases ru;exact d_len I (.inl ha) fun t s' I'=>⟨.int kvs.length,H,I',⟨t,rfl⟩,q⟩
end
section
mutual
variable {κ:Type}[DecidableEq κ]
def ZfR{kvs:List (κ×V)}{k:κ}{v:V}(h:valV kvs k=some v):k∈kvs.map (·.1):=by
 have q:(kvs.any fun kv=>decide (kv.1=k))=true:=by
  rw [Z3S,h]
  all_goals rfl
 obtain ⟨p,hp,e⟩:=List.any_eq_true.mp q;exact Wa.mpr ⟨p,hp,of_decide_eq_true e⟩
def Zag:∀ {l:List κ} {k:κ},l.Nodup->¬ k∈l->(l++[k]).Nodup
 | [],k,_,_=>by simp
 | a::r,k,h,hk=>by
  obtain ⟨h1,h2⟩:=Jx.mp h;show (a::(r++[k])).Nodup;refine Jx.mpr ⟨fun m=>?_,Zag h2 fun m=>hk (Jb.mpr (Or.inr m))⟩;rcases Qf.mp m with q | q
  .exact h1 q
  .exact hk (Jb.mpr (Or.inl (Jj.mp q).symm))
end
end
mutual
def Z5u{prog:Program}{w:World}{A:Around}{R:Result->Shared->Prop}{s:Shared}{elt target iter:Expr}{ifs:List Expr}{scope:Scope}{pos:Pos}{it acc:Value}{env:Env}(I:Nat->Shared->Prop)
  (turn:∀ n s,I n s->wpAny (model prog w) A (pyNext it) (fun r s₁=>match r with
   | none=>R (.ok .next) s₁
   | some v=>wpAny (model prog w) A (letOwnedTupleGo target it v) (fun _ s₀=>wpAny (model prog w) A (assign target env v) (fun _ s₂=>
     wpAny (model prog w) A (forIn ifs true fun c r=>if r=true then do let ok <- isTrue c env (eval c env);pure (ForInStep.yield ok) else pure (ForInStep.yield r)) (fun ok s₃=>
      if ok=true then wpAny (model prog w) A (eval elt env) (fun x s₄=>
       wpAny (model prog w) A (call (.builtin "list.append") [acc,x]) (fun _ s₅=>∃ m,m < n/\I m s₅) (fun _ _=>False) s₄) (fun _ _=>False) s₃
      else ∃ m,m < n/\I m s₃) (fun _ _=>False) s₂) (fun _ _=>False) s₀) (fun _ _=>False) s₁) (fun _ _=>False) s)
  (n:Nat) (h:I n s) :
  codeAny (model prog w) A (.compLoop (.ListComp elt [⟨target,iter,ifs,0⟩] scope pos) 0 it acc env) R s:=by
 refine codeAny_loop rfl I (fun n s hI=>?_) n h;show wpAny _ A ((compTurn (.ListComp elt [⟨target,iter,ifs,0⟩] scope pos) 0 it acc env).onRaise (fun x=>do noteFrame x env;theTreesLotGoes x)) _ _ s;refine wpAny_noted ?_;rw [compTurn_list];have no:∀ (M:Model) (e:Value) (s':Shared),False->notedBy M A env (fun e s'=>R (.error e) s') e s':=fun _ _ _ z=>z.elim;refine wpAny_bind (wpAny_standAt (wpAny_bind (wpAny_mono (turn n s hI) (fun r s₁ h₁=>?_) (fun _ _ z=>z.elim))))
 cases r with
 | none=>exact wpAny_pure h₁
 | some v=>
  refine wpAny_bind (wpAny_mono h₁ (fun _ s₀ h₀=>?_) (fun _ _ z=>z.elim));refine wpAny_bind (wpAny_mono h₀ (fun _ s₂ h₂=>wpAny_bind (wpAny_mono h₂ (fun ok s₃ h₃=>?_) (fun _ _ z=>z.elim))) (fun _ _ z=>z.elim))
  cases ok with
  | false=>exact wpAny_pure ⟨rfl,h₃⟩
  | true=>
   exact wpAny_bind (wpAny_bind (wpAny_mono h₃ (fun x s₄ h₄=>wpAny_bind (wpAny_mono h₄ (fun _ s₅ h₅=>wpAny_pure (wpAny_pure ⟨rfl,h₅⟩)) (fun _ _ z=>z.elim))) (fun _ _ z=>z.elim)))
def Z47{env:Env}:∀ {names:List (Str×NameKind)} (cs0:List (Str×Addr)),(∀ p∈names,p.2=.free->∃ c,env.cells.lookup p.1=some c) ->
  (∀ n c,cs0.lookup n=some c->env.cells.lookup n=some c) ->
  ∃ cl:List (Str×Addr),(forIn names cs0 fun (x:Str×NameKind) (cs:List (Str×Addr))=>(if (x.2 == NameKind.free)=true then (do let a <- cellOf env x.1;pure (ForInStep.yield ((x.1,a)::cs))) else pure (ForInStep.yield cs):Sem (ForInStep (List (Str×Addr)))))=pure cl /\
   (∀ n c,cl.lookup n=some c->env.cells.lookup n=some c)/\(∀ n,(n∈cs0.map (·.1)\/(n,NameKind.free)∈names)->∃ c,cl.lookup n=some c)
 | [],cs0,_,h2=>⟨cs0,rfl,h2,fun n hn=>by
   rcases hn with hn | hn
   .have:(cs0.lookup n).isSome=true:=by
     clear h2
     induction cs0 with
     | nil=>simp at hn
     | cons p r ih=>
      obtain ⟨a,b⟩:=p;rw [Ju]
      cases e:n == a with
      | true=>rfl
      | false=>
       have:n≠a:=by intro z;subst z;simp at e
       refine ih ?_;simpa [this] using hn
    exact Nb.mp this
   .cases hn⟩
 | (n,k)::r,cs0,h1,h2=>by
  rw [List.forIn_cons];by_cases hk:k=.free
  .subst hk
   obtain ⟨c,hc⟩:=h1 (n,.free) Qs rfl;have e1:cellOf env n=pure c:=by unfold cellOf;rw [hc]
   have h2':∀ m d,((n,c)::cs0).lookup m=some d->env.cells.lookup m=some d:=fun m d e=>by
    rw [Ju] at e
    cases q:m == n with
    | true=>
     rw [q] at e
     have:m=n:=by simpa using q
     subst this;rw [hc];exact e
    | false=>rw [q] at e;exact h2 m d e
   obtain ⟨cl,e,q1,q2⟩:=Z47 (names:=r) ((n,c)::cs0) (fun p hp=>h1 p (Qt _ hp)) h2';refine ⟨cl,?_,q1,fun m hm=>q2 m ?_⟩
   .rw [if_pos (by rfl),e1]
    exact e
   .rcases hm with hm | hm
    .exact .inl (Qt _ hm)
    .rcases Jb.mp hm with z | z
     .cases z;exact .inl Qs
     .exact .inr z
  .obtain ⟨cl,e,q1,q2⟩:=Z47 (names:=r) cs0 (fun p hp=>h1 p (Qt _ hp)) h2
   refine ⟨cl,?_,q1,fun m hm=>q2 m ?_⟩
   .rw [if_neg (by simpa using hk)]
    exact e
   .rcases hm with hm | hm
    .exact .inl hm
    .rcases Jb.mp hm with z | z
     .cases z;exact absurd rfl hk
     .exact .inr z
def Z4f{env:Env}{scope:Scope}(h:∀ p∈scope.names,p.2=.free->∃ c,env.cells.lookup p.1=some c) :
  ∃ cl:List (Str×Addr),closureFor scope env=pure cl/\(∀ n c,cl.lookup n=some c->env.cells.lookup n=some c)/\∀ n,(n,NameKind.free)∈scope.names->∃ c,cl.lookup n=some c:=by
 obtain ⟨cl,e,q1,q2⟩:=Z47 (env:=env) (names:=scope.names) [] h (fun n c e=>by simp at e);refine ⟨cl,?_,q1,fun n hn=>q2 n (.inr hn)⟩;unfold closureFor;simp only [];refine Eq.trans ?_ (congrArg (fun m=>m >>= fun r=>pure r) e);rfl
abbrev cxC(X:Cx)(N:List Str)(scope:Scope)(cl:List (Str×Addr))(C:Addr)(s:Shared)(H:Hp)(fp:List Addr):Cx where
 prog:=X.prog
 w:=X.w
 K:=X.K
 mg:=X.mg
 base:=X.base
 A:=X.A
 N:=N
 s₀:=s
 H₀:=H
 env:=compEnvC scope cl C X.env
 outer:=X.stack
 stack:=X.stack
 ex:=fp
 fn:=fun _=>false
 calm:=X.calm
 pn:=X.pn
 xe:=fun _ _=>False
structure CompSc(X:Cx)(t:Nat)(N:List Str)(scope:Scope):Prop where
 kind:scope.kind=.function
 nocell:∀ y∈scope.names,y.2≠.cell
 names:∀ y∈scope.names,y.2=.local->scope.names.lookup y.1=some .local
 free:∀ y∈scope.names,y.2=.free->X.env.scope.names.lookup y.1=some .cell\/X.env.scope.names.lookup y.1=some .free
 len:N.length=X.N.length + t
 rest:∀ p∈(N.drop t).zip X.N,p.1=p.2\/scope.names.lookup p.1=none
 own:∀ y∈X.N,scope.names.lookup y≠some .local\/y∉N.drop t
def Z0h{scope:Scope}{env:Env}{x:Str}{k:NameKind}:(relabel scope env).names.lookup x=some k->∃ k0,scope.names.lookup x=some k0/\(k=k0\/(k0=.free/\k=.cell)):=by
 show (scope.names.map _).lookup x=some k->_
 induction scope.names with
 | nil=>intro h;simp at h
 | cons p r ih=>
  obtain ⟨n,kk⟩:=p;intro h;simp only [Qj] at h;by_cases hx:x=n
  .subst hx
   by_cases hc:(kk == NameKind.free && env.scope.kind == .function && env.kindOf x == some .cell)=true
   .rw [if_pos hc] at h
    rw [Ju,beq_self_eq_true] at h;refine ⟨kk,by rw [Ju,beq_self_eq_true],.inr ⟨?_,(Je.inj h).symm⟩⟩;simp only [Ja,beq_iff_eq] at hc;exact hc.1.1
   .rw [if_neg hc] at h
    rw [Ju,beq_self_eq_true] at h;exact ⟨kk,by rw [Ju,beq_self_eq_true],.inl (Je.inj h).symm⟩
  .have hb:(x == n)=false:=by simpa using hx
   have h':(r.map fun (x:Str×NameKind)=>match x with | (n,k)=>if (k == NameKind.free && env.scope.kind == .function && env.kindOf n == some .cell)=true then (n,NameKind.cell) else (n,k)).lookup x=some k:=by
    by_cases hc:(kk == NameKind.free && env.scope.kind == .function && env.kindOf n == some .cell)=true
    .rw [if_pos hc,Ju,hb] at h;exact h
    .rw [if_neg hc,Ju,hb] at h;exact h
   obtain ⟨k0,q1,q2⟩:=ih h';exact ⟨k0,by rw [Ju,hb];exact q1,q2⟩
end
section
mutual
variable {X:Cx}{pins:List (Addr×Obj)}{σ:St}{H:Hp}{s:Shared}
def Zeg{t:Nat}{N:List Str}{scope:Scope}{cl:List (Str×Addr)}{C:Addr}{fp:List Addr}(I:Inv X pins σ H s)(S:CompSc X t N scope)(hC:s.heap.objs.size<=C)(hfp:∀ b∈fp,Z1d X pins H b/\b < s.heap.objs.size)
  (q1:∀ n c,cl.lookup n=some c->X.env.cells.lookup n=some c) (q2:∀ n,(n,NameKind.free)∈scope.names->∃ c,cl.lookup n=some c):(cxC X N scope cl C s H fp).Ok where
 mod:=I.ok.mod
 kind:=S.kind
 glob:=I.ok.glob
 blt:=I.ok.blt
 above:=hC
 inj:=fun x y c h1 h2=>I.ok.inj x y c (q1 x c h1) (q1 y c h2)
 has:=fun x hx=>by
  have hx:(relabel scope X.env).names.lookup x=some .cell\/(relabel scope X.env).names.lookup x=some .free:=hx;rcases hx with hx | hx
  .obtain ⟨k0,e,z⟩:=Z0h hx
   rcases z with z | ⟨z,_⟩
   .subst z;exact absurd rfl (S.nocell _ (PySem.mem_of_lookup e))
   .subst z;exact q2 x (PySem.mem_of_lookup e)
  .obtain ⟨k0,e,z⟩:=Z0h hx
   rcases z with z | ⟨z,z'⟩
   .subst z;exact q2 x (PySem.mem_of_lookup e)
   .cases z'
 cab:=fun x c h _=>by cases h
 hd:=I.ok.hd
 frames:=I.ok.frames
 stk:=.inl rfl
 exf:=fun b hb=>⟨Jc (Qv (hfp b hb).2 hC),fun x c e=>(hfp b hb).1.2.2.2.2.1 x c (q1 x c e)⟩
 bs:=I.bs
 bsz:=Jr I.ok.bsz I.sz
 noex:=fun b o e hb=>by
  obtain ⟨_,_,_,h,_⟩:=(hfp b hb).1;rcases h with h | h
  .exact I.ok.noex b o e h
  .exact absurd (Qv (Qz e) (Jr I.ok.bsz h)) (Jv _)
 exfs:=fun b hb z=>by
  obtain ⟨_,h1,h2,_⟩:=(hfp b hb).1;rcases Jb.mp (I.stkSub b z) with e | e
  .exact h1 e
  .exact h2 e
 funs:=I.stack
 frf:=I.stkFree
def Z6U{t:Nat}{N:List Str}{scope:Scope}{cl:List (Str×Addr)}{C:Addr}{fp:List Addr}{h1:Heap}{tk:Nat}{D:Addr}(I:Inv X pins σ H s)(S:CompSc X t N scope)(hC:s.heap.objs.size<=C)(hD:s.heap.objs.size<=D)(hDC:D≠C)(hfp:∀ b∈fp,Z1d X pins H b/\b < s.heap.objs.size)
  (q1:∀ n c,cl.lookup n=some c->X.env.cells.lookup n=some c) (q2:∀ n,(n,NameKind.free)∈scope.names->∃ c,cl.lookup n=some c)
  (hn:h1.Ns C fun _=>none) (hk:∀ b o,s.heap.get? b=some o->h1.get? b=some o) (hd:h1.get? D=some { cls:=.type "list",data:=.seq ([]:List Value).toArray }) :
  Inv (cxC X N scope cl C s H fp) pins (List.replicate t none++σ) (upd H D (.lst [])) { s with heap:=h1,toks:=tk }:=by
 have lt:∀ b o,s.heap.get? b=some o->b < s.heap.objs.size:=fun b o e=>Qz e;have fC:H C=none:=I.hok.fresh hC;have fD:H D=none:=I.hok.fresh hD;refine ⟨Zeg I S hC hfp q1 q2,rfl,I.bare,Un.laid hk hD fD,⟨_,hn,fun i x v e1 e2 e3=>?_⟩,fun x c e=>?_,?_,fun x c e=>?_,fun p hp=>?_,I.hok.laid hk hD ⟨by simp,[],0,.nil,hd⟩,?_⟩
 .
  have hi:t<=i:=by
   by_cases z:t<=i
   .exact z
   .rw [Qo (by simpa using z),Gf] at e2
    split at e2 <;> cases e2
  obtain ⟨j,rfl⟩:∃ j,i=t + j:=⟨i - t,by omega⟩;rw [Jd (by simp)] at e2;simp only [Wl,Nat.add_sub_cancel_left] at e2;have e1:N[t + j]?=some x:=e1;have hN:(N.drop t)[j]?=some x:=by rw [List.getElem?_drop];exact e1
  have hj:j < X.N.length:=by rw [<- I.len];exact (Qd.mp e2).1
  obtain ⟨y,hy⟩:∃ y,X.N[j]?=some y:=⟨_,Qk hj⟩
  have hm:(x,y)∈(N.drop t).zip X.N:=by
   have:((N.drop t).zip X.N)[j]?=some (x,y):=by rw [List.getElem?_zip_eq_some];exact ⟨hN,hy⟩
   exact Qg this
  have vis:∃ k0,scope.names.lookup x=some k0:=by
   rcases e3 with e3 | e3 | e3
   .obtain ⟨k0,e,_⟩:=Z0h (scope:=scope) (env:=X.env) e3;exact ⟨k0,e⟩
   .obtain ⟨k0,e,_⟩:=Z0h (scope:=scope) (env:=X.env) e3;exact ⟨k0,e⟩
   .obtain ⟨k0,e,_⟩:=Z0h (scope:=scope) (env:=X.env) e3;exact ⟨k0,e⟩
  obtain ⟨k0,hk0⟩:=vis
  have exy:x=y:=by
   rcases S.rest _ hm with z | z
   .exact z
   .rw [hk0] at z;cases z
  subst exy
  have hfree:k0=.free:=by
   rcases S.own x (Qg hy) with z | z
   .
    rcases e3 with e3 | e3 | e3
    .obtain ⟨k1,e,w⟩:=Z0h (scope:=scope) (env:=X.env) e3
     rw [hk0] at e;cases e;rcases w with w | ⟨_,w⟩
     .subst w;exact absurd hk0 z
     .cases w
    .obtain ⟨k1,e,w⟩:=Z0h (scope:=scope) (env:=X.env) e3
     rw [hk0] at e;cases e;rcases w with w | ⟨w,_⟩
     .subst w;exact absurd rfl (S.nocell _ (PySem.mem_of_lookup hk0))
     .exact w
    .obtain ⟨k1,e,w⟩:=Z0h (scope:=scope) (env:=X.env) e3
     rw [hk0] at e;cases e;rcases w with w | ⟨_,w⟩
     .exact w.symm
     .cases w
   .exact absurd (Qg hN) z
  subst hfree;obtain ⟨c,hc⟩:=q2 x (PySem.mem_of_lookup hk0);have hcX:=q1 x c hc;obtain ⟨m,_,hl⟩:=I.loc
  have vX:Vis X.env.scope x:=by
   rcases S.free _ (PySem.mem_of_lookup hk0) rfl with z | z
   .exact .inr (.inl z)
   .exact .inr (.inr z)
  obtain ⟨u,r,l⟩:=hl j x v hy e2 vX;refine ⟨u,r,.inr ⟨?_,c,hc,?_⟩⟩
  .rcases e3 with e3 | e3 | e3
   .obtain ⟨k1,e,w⟩:=Z0h (scope:=scope) (env:=X.env) e3
    rw [hk0] at e;cases e;rcases w with w | ⟨_,w⟩ <;> cases w
   .exact .inl e3
   .exact .inr e3
  .rcases l with ⟨k,_⟩ | ⟨_,c',hc',z⟩
   .rcases S.free _ (PySem.mem_of_lookup hk0) rfl with z | z
    .have k':X.env.scope.names.lookup x=some .local:=k
     rw [show X.env.scope.names.lookup x=some .cell from z] at k';cases k'
    .have k':X.env.scope.names.lookup x=some .local:=k
     rw [show X.env.scope.names.lookup x=some .free from z] at k';cases k'
   .rw [hcX] at hc';cases hc'
    obtain ⟨o,ho,hd⟩:=z;exact ⟨o,hk _ _ ho,hd⟩
 .obtain ⟨v,o,ho,hd⟩:=I.cell x c (q1 x c e)
  exact ⟨v,o,hk _ _ ho,hd⟩
 .show upd H D (.lst []) C=none
  rw [Zb (Ne.symm hDC)];exact fC
 .obtain ⟨v,o,ho,_⟩:=I.cell x c (q1 x c e)
  rw [Zb (Jc (Qv (lt _ _ ho) hD))];exact I.freeC x c (q1 x c e)
 .obtain ⟨e,n,ne,nf,d⟩:=I.pin p hp
  refine ⟨hk _ _ e,?_,Jc (Qv (lt _ _ e) hC),fun z=>?_,d⟩
  .rw [Zb (Jc (Qv (lt _ _ e) hD))];exact n
  .rcases Jb.mp (I.stkSub p.1 z) with w | w
   .exact ne w
   .exact nf w
 .show (List.replicate t none++σ).length=N.length
  rw [Jf,Wl,S.len,I.len];omega
def Z8U{t:Nat}{N:List Str}{scope:Scope}{cl:List (Str×Addr)}{C:Addr}{fp:List Addr}{s':Shared}{H':Hp}{σ':St}(I:Inv X pins σ H s)(hC:s.heap.objs.size<=C)(hfp:∀ b∈fp,Z1d X pins H b/\b < s.heap.objs.size)
  (J:Inv (cxC X N scope cl C s H fp) pins σ' H' s'):Inv X pins σ H' s':=
 I.call' (ch:=fp) J.os J.base J.hok J.bare fun b hb=>by
  obtain ⟨_,h1,h2,h3,h4,h5⟩:=(hfp b hb).1;exact ⟨h3,h1,h4,h5⟩
def Z8V{C:Addr}{h':Heap}{s0 s':Shared}{H0:Hp}{σ0:St}(I0:Inv X pins σ0 H0 s0)(hC:s0.heap.objs.size<=C)(J:Inv X pins σ H s')(hn:H C=none)(hs:Heap.SameBut C s'.heap h'):Inv X pins σ H { s' with heap:=h' }:=by
 obtain ⟨f0,f1,f2,f3,f4,f5⟩:=I0.fpOk hC (I0.hok.fresh hC);exact J.turned (t':=s'.toks) (fun b o hb e=>(hs.2 b hb).trans e) hn f1 f3 f4 f5
end
end
section
mutual
variable {X:Cx}
abbrev PF(X:Cx)(ifs:List Expr)(t:TT):Prop:=
 ∀ (pins:List (Addr×Obj)) (s:Shared) (σ:St) (H:Hp) (Q:Bool->Hp->Prop),Inv X pins σ H s->t σ H Q ->
  wpAny (model X.prog X.w) X.A (forIn ifs true fun c r=>if r=true then do let ok <- isTrue c X.env (eval c X.env);pure (ForInStep.yield ok) else pure (ForInStep.yield r)) (TP X pins σ Q) X.xe s
abbrev tYes:TT:=fun _ H Q=>Q true H
def Z7k:PF X [] tYes:=fun _ _ _ H _ I h=>wpAny_tests_nil ⟨H,I,h⟩
def ZgV{c:Expr}{t:TT}(h:PT X c t):PF X [c] t:=fun pins s σ H Q I q=>wpAny_tests_one (h pins s σ H Q I q)
abbrev Z2a(J:It)(t:Nat)(g:TG)(tt:TT)(te:TE)(σ:St)(H1:Hp)(Q:VK):Prop:=∀ D,H1 D=none->∃ W:Nat->Nat->List V->St->Hp->Prop,(∃ m,W 0 m [] (List.replicate t none++σ) (upd H1 D (.lst [])))/\∀ i m ys τ H,W i m ys τ H ->
 (J.stop i H/\Q (.ref D) H)\/(J.go i H/\∃ N:List V->St->Hp->Prop,(∀ zs τ' H',N zs τ' H'->∃ m',m' < m/\W (i + 1) m' zs τ' H')/\∀ x H',J.yld i H x H'->g x τ H' fun τ2 H2=>tt τ2 H2 fun b H3=>
  if b=true then te τ2 H3 fun y H4=>H4 D=some (.lst ys)/\ys.length < sizeLine/\N (ys++[y]) τ2 (upd H4 D (.lst (ys++[y]))) else N ys τ2 H3)
abbrev tComp(t:Nat)(wi:TI)(g:TG)(tt:TT)(te:TE):TE:=fun σ H Q=>wi σ H fun J H1=>Z2a J t g tt te σ H1 Q
def ZaB{t:Nat}{N:List Str}{scope:Scope}{tg iter elt:Expr}{ifs:List Expr}{cl:List (Str×Addr)}{pos:Pos}{g:TG}{tt:TT}{te:TE}{pins:List (Addr×Obj)}{σ:St}{H1:Hp}{s2:Shared}{E:Value->Shared->Prop}
  {it:Addr} {fp:List Addr} {tn:Nat->Heap->Prop} {J:It} {Q:VK} {RR:Value->Addr->Result->Shared->Prop}
  (hc:X.calm=true) (S:CompSc X t N scope) (q1:∀ n c,cl.lookup n=some c->X.env.cells.lookup n=some c) (q2:∀ n,(n,NameKind.free)∈scope.names->∃ c,cl.lookup n=some c)
  (hg:∀ C s H fp,PG (cxC X N scope cl C s H fp) tg g) (hf:∀ C s H fp,PF (cxC X N scope cl C s H fp) ifs tt) (he:∀ C s H fp,PE (cxC X N scope cl C s H fp) elt te)
  (I:Inv X pins σ H1 s2) (T:Turn X.prog X.w X.K tg J fp it tn) (st:tn 0 s2.heap) (f2:∀ b∈fp,Z1d X pins H1 b)
  (h:∀ D,H1 D=none->∃ W:Nat->Nat->List V->St->Hp->Prop,(∃ m,W 0 m [] (List.replicate t none++σ) (upd H1 D (.lst [])))/\∀ i m ys τ H,W i m ys τ H ->
   (J.stop i H/\Q (.ref D) H)\/(J.go i H/\∃ N:List V->St->Hp->Prop,(∀ zs τ' H',N zs τ' H'->∃ m',m' < m/\W (i + 1) m' zs τ' H')/\∀ x H',J.yld i H x H'->g x τ H' fun τ2 H2=>tt τ2 H2 fun b H3=>
    if b=true then te τ2 H3 fun y H4=>H4 D=some (.lst ys)/\ys.length < sizeLine/\N (ys++[y]) τ2 (upd H4 D (.lst (ys++[y]))) else N ys τ2 H3))
  (hR:∀ D C s' H',s2.heap.objs.size<=C->D≠C->Inv X pins σ H' s'->H' C=none->(∃ m,s'.heap.Ns C m)->Q (.ref D) H'->RR (.ref D) C (.ok .next) s') :
  wpAny (model X.prog X.w) X.A (newList []) (fun acc s₃=>wpAny (model X.prog X.w) X.A (newFunctionEnv scope X.env.globals cl [] X.env.qual none .none (some X.env)) (fun cenv s₄=>
   codeAny (model X.prog X.w) X.A (.compStart (.ListComp elt [⟨tg,iter,ifs,0⟩] scope pos) 0 (.ref it) acc { cenv with scope:=relabel scope X.env }) (RR acc cenv.locals) s₄) E s₃) E s2:=by
 refine wpAny_newObj_type (wpAny_newFunctionEnv S.nocell (by intro y hy;simp at hy) (fun h₁ hns₁ hsb₁=>?_) S.kind);dsimp only at hns₁ hsb₁ ⊢;generalize hH2:s2.heap.push { cls:=.type "list",dict:=none,data:=.seq ([]:List Value).toArray }=H2 at hns₁ hsb₁ ⊢;have hCs:H2.objs.size=s2.heap.objs.size + 1:=by rw [<- hH2,Wj]
 have hDC:s2.heap.objs.size≠H2.objs.size:=by rw [hCs];exact Jc (Wn _)
 have hCle:s2.heap.objs.size<=H2.objs.size:=by rw [hCs];exact Nat.le_succ _
 have old:∀ b o,s2.heap.get? b=some o->h₁.get? b=some o:=fun b o e=>
  hsb₁.extBut b o (by rw [hCs];exact Jc (Wd (Qz e))) (Qi _ (hH2 ▸ Qi _ e))
 have hacc:h₁.get? s2.heap.objs.size=some { cls:=.type "list",data:=.seq ([]:List Value).toArray }:=hsb₁.extBut _ _ hDC (Qi _ (hH2 ▸ Qy _ rfl));have hfp:∀ b∈fp,Z1d X pins H1 b/\b < s2.heap.objs.size:=fun b hb=>⟨f2 b hb,by obtain ⟨o,e,_⟩:=T.obj _ _ st b hb;exact Qz e⟩;have hns:h₁.Ns H2.objs.size fun _=>none:=hns₁;have I4:=Z6U (tk:=s2.toks + ([]:List (Str×Value)).length) I S hCle (Qq _) hDC hfp q1 q2 hns old hacc;have st1:tn 0 h₁:=T.keep _ _ _ st fun b _ o e=>old b o e;obtain ⟨W,⟨m0,w0⟩,turn⟩:=h s2.heap.objs.size (I.hok.fresh (Qq _));generalize hY:cxC X N scope cl H2.objs.size s2 H1 fp=Y at I4
 have yfp:∀ {H':Hp},(∀ b∈fp,H' b=none)->∀ b∈fp,Z1d Y pins H' b:=fun hn b hb=>by
  obtain ⟨⟨_,g1,g2,g3,g4,g5⟩,gl⟩:=hfp b hb;subst hY;refine ⟨hn b hb,Jc (Qv gl hCle),fun z=>?_,.inl hb,fun x c e=>g4 x c (q1 x c e),g5⟩;rcases Jb.mp (I.stkSub b z) with w | w
  .exact g1 w
  .exact g2 w
 have eP:Y.prog=X.prog:=by subst hY;rfl
 have ew:Y.w=X.w:=by subst hY;rfl
 have eK:Y.K=X.K:=by subst hY;rfl
 have eA:Y.A=X.A:=by subst hY;rfl
 have ecalm:Y.calm=true:=by subst hY;exact hc
 have loop:codeAny (model X.prog X.w) X.A (.compLoop (.ListComp elt [⟨tg,iter,ifs,0⟩] scope pos) 0 (.ref it) (.ref s2.heap.objs.size) (compEnvC scope cl H2.objs.size X.env))
    (RR (.ref s2.heap.objs.size) H2.objs.size) { s2 with heap:=h₁,toks:=s2.toks + ([]:List (Str×Value)).length }:=by
  refine Z5u (fun n s'=>∃ i ys τ H',Inv Y pins τ H' s'/\tn i s'.heap/\(∀ b∈fp,H' b=none)/\W i n ys τ H') ?_ m0 ⟨0,[],_,_,I4,st1,fun b hb=>?_,w0⟩
  .rintro n s3 ⟨i,ys,τ,H3,I3,st3,fr3,w3⟩
   rcases turn i n ys τ H3 w3 with ⟨stop,qn⟩ | ⟨go,NN,hNN,step⟩
   .have d:=T.done Y eP ew eK ecalm i pins s3 τ H3 (fun _ _=>False) I3 (yfp fr3) st3 stop
    rw [eA] at d;refine thn d fun r s4 ⟨hr,I5⟩=>?_;subst hr;subst hY;have J5:=Z8U (t:=t) I hCle hfp I5;obtain ⟨m,hn,_⟩:=I5.loc;exact hR _ _ s4 H3 hCle hDC J5 I5.free ⟨m,hn⟩ qn
   .have d:=T.item Y eP ew eK ecalm i pins s3 τ H3 (fun _ _=>False) I3 (yfp fr3) st3 go
    rw [eA] at d;refine thn d fun r s4 ⟨u,hr,h4⟩=>?_;subst hr;refine thn h4 fun _ s5 ⟨x,H5,I5,r5,y5,st5,fr5⟩=>?_;have I5':=I5.pinned (yfp fr5) (T.obj _ _ st5);subst hY;refine thn (hg _ _ _ _ _ s5 τ H5 x u _ I5' r5 (step x H5 y5)) fun _ s6 ⟨τ6,H6,I6,q6⟩=>?_;refine thn (hf _ _ _ _ _ s6 τ6 H6 _ I6 q6) fun b s7 ⟨H7,I7,q7⟩=>?_
    have again:∀ {zs:List V} {σ7:St} {H7:Hp} {s7:Shared},Inv (cxC X N scope cl H2.objs.size s2 H1 fp) (pins++Z4p fp s5.heap) σ7 H7 s7->(∃ m',m' < n/\W (i + 1) m' zs σ7 H7) ->
      ∃ m,m < n/\∃ i ys τ H',Inv (cxC X N scope cl H2.objs.size s2 H1 fp) pins τ H' s7/\tn i s7.heap/\(∀ b∈fp,H' b=none)/\W i m ys τ H':=fun {zs σ7 H7 s7} I7 ⟨m',hm,w7⟩=>by
     refine ⟨m',hm,i + 1,zs,σ7,H7,I7.unpinned,T.keep _ _ _ st5 fun b hb o e=>(I7.pin (b,o) (Qe _ (Qe _ (Z1Z hb e)))).1,fun b hb=>?_,w7⟩;obtain ⟨o,e,d⟩:=T.obj _ _ st5 b hb;exact (I7.pin (b,o) (Qe _ (Qe _ (Z1Z hb e)))).2.1
    cases b with
    | false=>exact again I7 (hNN _ _ _ q7)
    | true=>
     have q7':=q7;rw [if_pos rfl] at q7' ⊢;refine thn (he _ _ _ _ _ s7 τ6 H7 _ I7 q7') fun v s8 ⟨y,H8,I8,r8,hl,hz,q8⟩=>?_;refine thn (Z3Z (X:=cxC X N scope cl H2.objs.size s2 H1 fp) _ s8 τ6 H8 (.ref s2.heap.objs.size) [y] (.ref s2.heap.objs.size) [v] (fun _ H9=>NN (ys++[y]) τ6 H9) I8 rfl (.cons r8 .nil) ⟨_,ys,y,rfl,rfl,hl,hz,q8⟩) fun _ s9 ⟨_,H9,I9,_,q9⟩=>?_;exact again I9 (hNN _ _ _ q9)
  .have z:=(hfp b hb).2
   rw [Zb (Jc z)];exact (f2 b hb).1
 exact codeAny_compStart_list loop (T.self _ 0 _ _ _ st1 loop)
def Z69{t:Nat}{N:List Str}{scope:Scope}{tg iter elt:Expr}{ifs:List Expr}{pos:Pos}{wi:TI}{g:TG}{tt:TT}{te:TE}(hc:X.calm=true)(hi:PI X tg iter wi)(S:CompSc X t N scope)
  (hg:∀ cl C s H fp,PG (cxC X N scope cl C s H fp) tg g) (hf:∀ cl C s H fp,PF (cxC X N scope cl C s H fp) ifs tt) (he:∀ cl C s H fp,PE (cxC X N scope cl C s H fp) elt te)
  (hs:autoParam (∀ x,foldedSetIterable iter X.env x=pure x) uC._auto_1):PE X (.ListComp elt [⟨tg,iter,ifs,0⟩] scope pos) (tComp t wi g tt te):=by
 intro pins s σ H Q I h;obtain ⟨cl,e,q1,q2⟩:=Z4f (env:=X.env) (scope:=scope) fun p hp hk=>I.ok.has p.1 (S.free p hp hk);rw [eval_ListComp];refine wpAny_comprehension_free (use:=none) rfl hs e S.kind S.names (thn (hi pins s σ H _ I h) fun v s1 h1=>thn h1 fun itv s2 h2=>?_);obtain ⟨it,fp,tn,J,H2,e2,I2,T,st2,f2,hW⟩:=h2;subst e2;refine ZaB (Q:=Q) (RR:=fun acc C=>compPost (model X.prog X.w) X.A X.xe none (EP X pins σ Q) acc C) hc S q1 q2 (hg cl) (hf cl) (he cl) I2 T st2 f2 hW ?_;intro D C s' H' hC hDC J1 hn hm q;obtain ⟨m,hm⟩:=hm;exact ⟨m,hm,fun h' hs'=>⟨.ref D,H',Z8V I2 hC J1 hn hs',rfl,q⟩⟩
end
end
mutual
abbrev Its(x:Str):It:=⟨fun i _=>i < x.cps.size,fun i H v H'=>H'=H/\∃ c,x.cps[i]?=some c/\v=.str ⟨#[c]⟩,fun i _=>x.cps.size<=i⟩
def ZaU{P:Program}{w:World}{K:Qa}{tg:Expr}(it:Addr)(y:Str)(t:Tok):Turn P w K tg (Its y) [it] it (fun i h=>h.IsStrIter it "str_ascii_iterator" y t i) where
 mem:=by simp
 obj:=fun i h st b hb=>by
  have e:b=it:=by simpa using hb
  subst e;obtain ⟨o,e,c,d⟩:=st;exact ⟨o,e,fun v z=>by rw [d] at z;cases z⟩
 keep:=fun i h h' st k=>by
  obtain ⟨o,e,r⟩:=st;exact ⟨o,k it (by simp) o e,r⟩
 item:=by
  intro X hP hw hK hc i pins s σ H E I hf st hg;subst hP hw hK;obtain ⟨f0,f1,f2,f3,f4,f5⟩:=hf it (by simp);have hg:i < y.cps.size:=hg;refine wpAny_pyNext_ascii_item st (c:=y.cps[i]) (by simp [hg]) fun h' st' sb=>?_;have I1:Inv X pins σ H { s with heap:=h',toks:=s.toks + 1 }:=I.turned (fun b o hb e=>(sb.2 b hb).trans e) f0 f1 f3 f4 f5;obtain ⟨o,e,c,d⟩:=id st';exact ⟨_,rfl,go_of (s:={ s with heap:=h',toks:=s.toks + 1 }) e c d (by decide) ⟨.str ⟨#[y.cps[i]]⟩,H,I1,⟨_,rfl⟩,⟨rfl,_,by simp [hg],rfl⟩,st',fun b hb=>(hf b hb).1⟩⟩
 done:=by
  intro X hP hw hK hc i pins s σ H E I hf st hg;subst hP hw hK;obtain ⟨f0,f1,f2,f3,f4,f5⟩:=hf it (by simp);have hg:y.cps.size<=i:=hg;exact wpAny_pyNext_ascii_end (I.ok.hd hc) st (by simp [hg]) fun h' eb=>⟨rfl,I.turned (t':=s.toks) (fun b o hb e=>eb b o hb e) f0 f1 f3 f4 f5⟩
 self:=fun _ _ _ _ _ st h=>wpAny_pyIter_striter_ascii st h
def Zco{P:Program}{w:World}{K:Qa}{tg:Expr}(it:Addr)(y:Str)(t:Tok):Turn P w K tg (Its y) [it] it (fun i h=>h.IsStrIter it "str_iterator" y t i) where
 mem:=by simp
 obj:=fun i h st b hb=>by
  have e:b=it:=by simpa using hb
  subst e;obtain ⟨o,e,c,d⟩:=st;exact ⟨o,e,fun v z=>by rw [d] at z;cases z⟩
 keep:=fun i h h' st k=>by
  obtain ⟨o,e,r⟩:=st;exact ⟨o,k it (by simp) o e,r⟩
 item:=by
  intro X hP hw hK hc i pins s σ H E I hf st hg;subst hP hw hK;obtain ⟨f0,f1,f2,f3,f4,f5⟩:=hf it (by simp);have hg:i < y.cps.size:=hg;refine wpAny_pyNext_wide_item st (c:=y.cps[i]) (by simp [hg]) fun h' st' sb=>?_;have I1:Inv X pins σ H { s with heap:=h',toks:=s.toks + 1 }:=I.turned (fun b o hb e=>(sb.2 b hb).trans e) f0 f1 f3 f4 f5;obtain ⟨o,e,c,d⟩:=id st';exact ⟨_,rfl,go_of (s:={ s with heap:=h',toks:=s.toks + 1 }) e c d (by decide) ⟨.str ⟨#[y.cps[i]]⟩,H,I1,⟨_,rfl⟩,⟨rfl,_,by simp [hg],rfl⟩,st',fun b hb=>(hf b hb).1⟩⟩
 done:=by
  intro X hP hw hK hc i pins s σ H E I hf st hg;subst hP hw hK;obtain ⟨f0,f1,f2,f3,f4,f5⟩:=hf it (by simp);have hg:y.cps.size<=i:=hg;exact wpAny_pyNext_wide_end (I.ok.hd hc) st (by simp [hg]) fun h' eb=>⟨rfl,I.turned (t':=s.toks) (fun b o hb e=>eb b o hb e) f0 f1 f3 f4 f5⟩
 self:=fun _ _ _ _ _ st h=>wpAny_pyIter_striter_wide st h
end
section
mutual
variable {X:Cx}{tg:Expr}
abbrev iStr(tl:TE):TI:=fun σ H R=>tl σ H fun x H1=>∃ y,x=.str y/\R (Its y) H1
def ZgZ{l:Expr}{tl:TE}(hl:PE X l tl):PI X tg l (iStr tl):=by
 intro pins s σ H R I h;refine thn (hl pins s σ H _ I h) fun v s1 ⟨x,H1,I1,r1,q1⟩=>?_;obtain ⟨y,e,q⟩:=q1;subst e;obtain ⟨t,rfl⟩:=r1
 have fin:∀ b∈[s1.heap.objs.size],Z1d X pins H1 b:=fun b hb=>by
  have e:b=s1.heap.objs.size:=by simpa using hb
  subst e;exact I1.fpOk (Qq _) (I1.hok.fresh (Qq _))
 cases ha:y.cps.all (· < 128) with
 | true=>
  refine wpAny_pyIter_ascii ha ?_;exact ⟨s1.heap.objs.size,[s1.heap.objs.size],_,_,H1,rfl,I1.kept (t':=s1.toks) fun b o e=>Qi _ e,ZaU _ y t,⟨_,Qy _ rfl,rfl,rfl⟩,fin,q⟩
 | false=>
  refine wpAny_pyIter_wide ha ?_;exact ⟨s1.heap.objs.size,[s1.heap.objs.size],_,_,H1,rfl,I1.kept (t':=s1.toks) fun b o e=>Qi _ e,Zco _ y t,⟨_,Qy _ rfl,rfl,rfl⟩,fin,q⟩
end
end
mutual
def ZaC{t:Nat}{lo:Int}{n:Nat}{g:TG}{tt:TT}{te:TE}{Q:VK}{σ:St}{H1:Hp}(P:Addr->Nat->List V->St->Hp->Prop)(h0:∀ D,H1 D=none->P D 0 [] (List.replicate t none++σ) (upd H1 D (.lst [])))
  (hs:∀ D i ys τ H,H1 D=none->i < n->P D i ys τ H->g (.int (lo + i)) τ H fun τ2 H2=>tt τ2 H2 fun b H3=>
   if b=true then te τ2 H3 fun y H4=>H4 D=some (.lst ys)/\ys.length < sizeLine/\P D (i + 1) (ys++[y]) τ2 (upd H4 D (.lst (ys++[y]))) else P D (i + 1) ys τ2 H3)
  (hd:∀ D ys τ H,H1 D=none->P D n ys τ H->Q (.ref D) H):Z2a (Itr lo n) t g tt te σ H1 Q:=by
 intro D hD;refine ⟨fun i m ys τ H=>m=n - i/\i<=n/\P D i ys τ H,⟨n,by simp,Ge _,h0 D hD⟩,?_⟩;rintro i m ys τ H ⟨rfl,hi,p⟩;by_cases hlt:i < n
 .refine .inr ⟨hlt,P D (i + 1),fun zs τ' H' p'=>⟨n - (i + 1),by omega,rfl,hlt,p'⟩,fun x H' y=>?_⟩
  obtain ⟨e,y⟩:=y;subst e y;exact hs D i ys τ _ hD hlt p
 .have e:i=n:=by omega
  subst e;exact .inl ⟨Qq _,hd D ys τ H hD p⟩
def Zb8{t:Nat}{K:Qa}{a:Addr}{xs:List V}{g:TG}{tt:TT}{te:TE}{Q:VK}{σ:St}{H1:Hp}(P:Addr->Nat->List V->St->Hp->Prop)(h0:∀ D,H1 D=none->P D 0 [] (List.replicate t none++σ) (upd H1 D (.lst [])))
  (hl:∀ D i ys τ H,H1 D=none->i<=xs.length->P D i ys τ H->SqL K H a xs)
  (hs:∀ D i x ys τ H,H1 D=none->xs[i]?=some x->P D i ys τ H->g x τ H fun τ2 H2=>tt τ2 H2 fun b H3=>
   if b=true then te τ2 H3 fun y H4=>H4 D=some (.lst ys)/\ys.length < sizeLine/\P D (i + 1) (ys++[y]) τ2 (upd H4 D (.lst (ys++[y]))) else P D (i + 1) ys τ2 H3)
  (hd:∀ D ys τ H,H1 D=none->P D xs.length ys τ H->Q (.ref D) H):Z2a (Itl K a) t g tt te σ H1 Q:=by
 intro D hD;refine ⟨fun i m ys τ H=>m=xs.length - i/\i<=xs.length/\P D i ys τ H,⟨xs.length,by simp,Ge _,h0 D hD⟩,?_⟩;rintro i m ys τ H ⟨rfl,hi,p⟩;have q:=hl D i ys τ H hD hi p;by_cases hlt:i < xs.length
 .refine .inr ⟨⟨xs,xs[i],q,by simp [hlt]⟩,P D (i + 1),fun zs τ' H' p'=>⟨xs.length - (i + 1),by omega,rfl,hlt,p'⟩,fun x H' y=>?_⟩
  obtain ⟨e,y⟩:=y;subst e;exact hs D i x ys τ _ hD (y xs q) p
 .have e:i=xs.length:=by omega
  subst e;exact .inl ⟨⟨xs,q,Qq _⟩,hd D ys τ H hD p⟩
def Z9J{lo:Int}{n:Nat}{te:TE}{Q:VK}{σ:St}{H1:Hp}(hn:n<=sizeLine)(R:Nat->V->Prop)
  (hs:∀ i H (Q':VK),i < n->Z11 H1 H->(∀ y H4,Z11 H H4->R i y->Q' y H4)->te (some (.int (lo + i))::σ) H Q')
  (hd:∀ D ys H,H1 D=none->Z11 H1 H->H D=some (.lst ys)->ys.length=n->(∀ i y,ys[i]?=some y->R i y)->Q (.ref D) H):Z2a (Itr lo n) 1 (Z1l 0) tYes te σ H1 Q:=by
 refine ZaC (fun D i ys τ H=>(∃ v0,τ=v0::σ)/\Z11 H1 H/\H D=some (.lst ys)/\ys.length=i/\∀ j y,ys[j]?=some y->R j y) (fun D hD=>⟨⟨none,rfl⟩,fun b o e=>by rw [Zb (Z0b e hD)];exact e,Zj,rfl,fun j y e=>by simp at e⟩) ?_ ?_
 .rintro D i ys τ H hD hi ⟨⟨v0,rfl⟩,sm,hl,hlen,hR⟩
  unfold Z1l tYes;refine iteT ?_;refine hs i H _ hi sm fun y H4 s4 ry=>⟨s4 _ _ hl,by omega,⟨_,rfl⟩,fun b o e=>?_,Zj,by simp [hlen],fun j z e=>?_⟩
  .rw [Zb (Z0b e hD)]
   exact s4 _ _ (sm _ _ e)
  .by_cases hj:j < ys.length
   .rw [Qo hj] at e
    exact hR j z e
   .rw [Jd (by omega)] at e
    have:j - ys.length=0:=by
     have:=(Qd.mp e).1;simp at this;omega
    rw [this] at e;have e':y=z:=by simpa using e
    subst e'
    have:j=i:=by omega
    subst this;exact ry
 .rintro D ys τ H hD ⟨_,sm,hl,hlen,hR⟩
  exact hd D ys H hD sm hl hlen hR
def Z9I{lo:Int}{n:Nat}{te:TE}{Q:VK}{σ:St}{H1:Hp}(hn:n<=sizeLine)(f:Nat->V)
  (hs:∀ i H (Q':VK),i < n->Z11 H1 H->(∀ H4,Z11 H H4->Q' (f i) H4)->te (some (.int (lo + i))::σ) H Q')
  (hd:∀ D H,H1 D=none->Z11 H1 H->H D=some (.lst ((List.range n).map f))->Q (.ref D) H):Z2a (Itr lo n) 1 (Z1l 0) tYes te σ H1 Q:=by
 refine Z9J hn (fun i v=>v=f i) (fun i H Q' hi sm k=>hs i H Q' hi sm fun H4 s4=>k _ H4 s4 rfl) fun D ys H hD sm hl hlen hR=>hd D H hD sm ?_
 have:ys=(List.range n).map f:=by
  apply Wr;intro i;by_cases hi:i < n
  .have h1:ys[i]?=some (ys[i]'(by omega)):=by simp
   rw [h1,hR i _ h1];simp [hi]
  .rw [Ww (by omega),Ww (by simp;omega)]
 rw [<- this];exact hl
end
section
variable {X:Cx}
theorem Z8P:Z0f X (.type "int") (fun xs H Q=>∃ x n,xs=[.str x]/\PySem.intText? x=some n/\x.length<=640/\Q (.int n) H):=by
 intro pins s σ H xs us Q I r h;obtain ⟨x,n,rfl,e,hl,q⟩:=h;obtain ⟨u,rfl,t,rfl⟩:=vals1 r;exact PySem.W.KIN.call_text e hl ⟨.int n,H,I.tok _,⟨_,rfl⟩,q⟩
end
mutual
abbrev compOk(sc:Scope)(N0:List Str)(t:Nat)(N:List Str)(scope:Scope):Bool:=
 (scope.kind == .function) && scope.names.all (fun y=>y.2 != .cell) && scope.names.all (fun y=>y.2 != .local || scope.names.lookup y.1 == some .local)
 && scope.names.all (fun y=>y.2 != .free || sc.names.lookup y.1 == some .cell || sc.names.lookup y.1 == some .free) && (N.length == N0.length + t)
 && ((N.drop t).zip N0).all (fun p=>p.1 == p.2 || scope.names.lookup p.1 == none) && N0.all (fun y=>scope.names.lookup y != some .local || !(N.drop t).contains y)
def CompSc.of{X:Cx}{sc:Scope}{N0 N:List Str}{t:Nat}{scope:Scope}(e1:X.env.scope=sc)(e2:X.N=N0)(k:compOk sc N0 t N scope=true):CompSc X t N scope:=by
 unfold compOk at k;simp only [Ja,Gn,beq_iff_eq,bne_iff_ne,Bool.or_eq_true,ne_eq,Wy,List.contains_eq_mem,decide_eq_false_iff_not] at k;obtain ⟨⟨⟨⟨⟨⟨k1,k2⟩,k3⟩,k4⟩,k5⟩,k6⟩,k7⟩:=k;subst e1 e2;refine ⟨k1,k2,fun y hy hk=>?_,fun y hy hk=>?_,k5,k6,k7⟩
 .rcases k3 y hy with z | z
  .exact absurd hk z
  .exact z
 .rcases k4 y hy with (z | z) | z
  .exact absurd hk z
  .exact .inl z
  .exact .inr z
structure Def(P:Program)(w:World)(K:Qa)(mg:Str->Option Value)(base:Heap)(x:Str)(k:Nat)(ps:List Str)(sp:Sp):Prop where
 ex:∃ (f:Addr) (fd:FuncData),FnOk P w K mg base CX0 k f fd ps sp/\mg x=some (.ref f)/\Jt K (.ref f)=true/\Binds K fd ps [] /\
  ∃ (oc:Value) (od:Option Addr) (osl:Array (Option Value)),K.lookup f=some ⟨oc,od,.func fd,osl⟩
structure At(K:Qa)(mg:Str->Option Value)(x:Str)(st:Stmt)(ps:List Str):Prop where
 ex:∃ (f:Addr) (fd:FuncData),Fun K x x st f fd/\mg x=some (.ref f)/\∀ us:List Value,us.length=ps.length->bindArgs fd ⟨us,[]⟩=pure (ps.zip us)
end
section
mutual
variable {X:Cx}{x:Str}{k:Nat}{ps:List Str}{sp:Sp}{p pos:Pos}{e:Expr}{es:List Expr}{t:TA}
abbrev GIs(mg:Str->Option Value)(x:Str)(v:V):Prop:=∃ u,mg x=some u/\RelV v u
def Z1T{v:V}(h:GIs X.mg x v)(hg:autoParam (Gl X x) uA._auto_1)(hd:autoParam ((x == ("__debug__":Str))=false) uB._auto_1):PE X (.Name x pos) (tC v):=by
 obtain ⟨u,m,r⟩:=h;exact Zf8 hg m r hd
end
end
theorem ZfZ{CX:CXT}{P:Program}{w:World}{K:Qa}{mg:Str->Option Value}{base:Heap}{N:List Str}{qual:Str}{scope:Scope}{f:Addr}{cd:Value}{A:Around}{outer:List Env}{s:Shared}{H:Hp}{E:XK} :
  (ZJ CX P w K mg base N qual scope f cd A outer s H E).K=K:=rfl
theorem cxC_K{X:Cx}{N:List Str}{scope:Scope}{cl:List (Str×Addr)}{C:Addr}{s:Shared}{H:Hp}{fp:List Addr}:(cxC X N scope cl C s H fp).K=X.K:=rfl
end L2
namespace L2.KQ
open PySem PySem.Spec PyProof.Rows L2
section
variable {X:Cx}(K:Qa){tg l o e a b:Expr}{es:List Expr}{tl to ta tv te:TE}{t:TA}{name f:Str}{pos pos' apos cpos:Pos}{T id:String}{r:V->List V->Hp->VK->Prop}
theorem call_len(hK:autoParam (X.K=K) uA._auto_1):Z0f X (.builtin "len") (fun xs H Q=>∃ x n,xs=[x]/\LenV K x H n/\Q (.int n) H):=by subst hK;exact L2.call_len
end
end L2.KQ
namespace L2
open PySem PySem.Spec PyProof.Rows
mutual
abbrev IsTy(H:Hp)(x:V)(N:String):Prop:=match x with
 | .non=>N ="NoneType"
 | .bl _=>N ="bool"
 | .int _=>N ="int"
 | .str _=>N ="str"
 | .ref a=>(N ="list"/\∃ xs,H a=some (.lst xs))\/(N ="tuple"/\∃ xs,H a=some (.tup xs))\/(N ="dict"/\∃ kvs,H a=some (.dK kvs))
 | _=>False
abbrev kit0(N T:String):Option Bool:=PySem.W.kitOne [] (.type N) (.type T)
abbrev subT(N T:String):Bool:=(kit0 N T).getD false
abbrev kitAll(N:String)(Ts:List String):Bool:=Ts.all fun T=>(kit0 N T).isSome
def kit_K(K:Qa)(N T:String):PySem.W.kitOne K (.type N) (.type T)=kit0 N T:=rfl
def Zae(K:Qa)(N:String):∀ (Ts:List String),kitAll N Ts=true->PySem.W.kitAny K (.type N) (Ts.map Value.type)=some (Ts.any (subT N))
 | [],_=>rfl
 | T::Ts,h=>by
  unfold kitAll at h;rw [Gp,Ja] at h;obtain ⟨b,hb⟩:=Nb.mp h.1;have ih:=Zae K N Ts h.2
  show (match PySem.W.kitOne K (.type N) (.type T) with | some true=>some true | some false=>PySem.W.kitAny K (.type N) (Ts.map Value.type) | none=>none)=_
  rw [kit_K,hb,Ny];have hs:subT N T=b:=by unfold subT;rw [hb];rfl
  rw [hs]
  cases b with
  | true=>rfl
  | false=>rw [Bool.false_or];exact ih
end
section
mutual
variable {X:Cx}{pins:List (Addr×Obj)}{σ:St}{H:Hp}{s:Shared}
def IsTy.kit{x:V}{u:Value}{N:String}(I:Inv X pins σ H s)(rx:RelV x u)(ty:IsTy H x N):∃ Hh:Heap->Prop,PySem.W.KitX X.K u (.type N) Hh/\Hh s.heap/\u≠.builtin "__main__.__loader__#opaque":=by
 cases x with
 | non=>cases (show u=Value.none from rx);cases (show N ="NoneType" from ty);exact ⟨_,PySem.W.kitx_none,True.intro,fun z=>nomatch z⟩
 | bl y=>cases (show u=Value.bool y from rx);cases (show N ="bool" from ty);exact ⟨_,PySem.W.kitx_bool,True.intro,fun z=>nomatch z⟩
 | int i=>obtain ⟨t,q⟩:=(show ∃ t,u=Value.int i t from rx);cases q;cases (show N ="int" from ty);exact ⟨_,PySem.W.kitx_int,True.intro,fun z=>nomatch z⟩
 | str y=>obtain ⟨t,q⟩:=(show ∃ t,u=Value.str y t from rx);cases q;cases (show N ="str" from ty);exact ⟨_,PySem.W.kitx_str,True.intro,fun z=>nomatch z⟩
 | ref a=>
  cases (show u=Value.ref a from rx);rcases ty with ⟨rfl,xs,ea⟩ | ⟨rfl,xs,ea⟩ | ⟨rfl,kvs,ea⟩
  .obtain ⟨_,_,n,_,h1⟩:=(show Z01 X.prog X.w H s.heap a (.lst xs) from I.hok a _ ea)
   exact ⟨_,PySem.W.kitx_list,⟨_,h1,rfl⟩,fun z=>nomatch z⟩
  .obtain ⟨_,_,_,p⟩:=(show Z01 X.prog X.w H s.heap a (.tup xs) from I.hok a _ ea)
   obtain ⟨o,h1,h2,_⟩:=p;exact ⟨_,PySem.W.kitx_tuple,⟨o,h1,h2⟩,fun z=>nomatch z⟩
  .obtain ⟨_,_,vs,_,p⟩:=(show Z01 X.prog X.w H s.heap a (.dK kvs) from I.hok a _ ea)
   obtain ⟨o,es,ep,h1,h2,_⟩:=p;exact ⟨_,PySem.W.kitx_dict,⟨o,h1,h2.1⟩,fun z=>nomatch z⟩
 | _=>exact (show False from ty).elim
abbrev rIs1:List V->Hp->VK->Prop:=fun xs H Q=>∃ x T N,xs=[x,.ty T]/\IsTy H x N/\(kit0 N T).isSome=true/\Q (.bl (subT N T)) H
def Z1O:Z0f X (.builtin "isinstance") rIs1:=by
 intro pins s σ H xs us Q I r h;obtain ⟨x,T,N,rfl,ty,e,q⟩:=h;obtain ⟨u,w',rfl,rx,rc⟩:=vals2 r;cases rc;obtain ⟨Hh,Z,p,ne⟩:=ty.kit I rx;obtain ⟨b,hb⟩:=Nb.mp e;have hs:subT N T=b:=by unfold subT;rw [hb];rfl
 rw [hs] at q;exact PySem.W.kia_one Z I.kIn p ((kit_K X.K N T).trans hb) ne fun tk=>⟨.bl b,H,I.tok _,rfl,q⟩
def Zcr:∀ {Ts:List String} {us:List Value},Vals (Ts.map V.ty) us->us=Ts.map Value.type
 | [],us,r=>by cases r;rfl
 | T::Ts,us,r=>by
  cases r with
  | cons r1 r2=>
   cases (show _=Value.type T from r1);rw [Zcr r2];rfl
abbrev rIsT:List V->Hp->VK->Prop:=fun xs H Q=>∃ x p Ts N,xs=[x,.ref p]/\H p=some (.tup (Ts.map V.ty))/\IsTy H x N/\kitAll N Ts=true/\Q (.bl (Ts.any (subT N))) H
def Z8Q:Z0f X (.builtin "isinstance") rIsT:=by
 intro pins s σ H xs us Q I r h;obtain ⟨x,p,Ts,N,rfl,hp,ty,e,q⟩:=h;obtain ⟨u,w',rfl,rx,rc⟩:=vals2 r;cases rc;obtain ⟨Hh,Z,hh,ne⟩:=ty.kit I rx;obtain ⟨_,its,rv,o,h1,h2,n,h3⟩:=(show Z01 X.prog X.w H s.heap p (.tup (Ts.map V.ty)) from I.hok p _ hp);obtain rfl:=Zcr rv;obtain ⟨c,d,dt,sl⟩:=o;have h2:c=.type "tuple":=h2;have h3:dt=_:=h3;subst h2 h3;exact PySem.W.kia_tup Z I.kIn hh h1 (Zae X.K N Ts e) ne fun tk=>⟨.bl _,H,I.tok _,rfl,q⟩
end
end
mutual
abbrev Dk(h h':Heap):Prop:=∀ (a:Nat) (o:Obj),h.objs[a]?=some o->∃ o':Obj,h'.objs[a]?=some o'/\o'.dict=o.dict
def Dk.refl{h:Heap}:Dk h h:=fun _ o e=>⟨o,e,rfl⟩
def Dk.trans{h1 h2 h3:Heap}(x:Dk h1 h2)(y:Dk h2 h3):Dk h1 h3:=fun a o e=>
 let ⟨o',e',d⟩:=x a o e;let ⟨o2,e2,d2⟩:=y a o' e';⟨o2,e2,d2.trans d⟩
def Za4{h:Heap}{a:Addr}{o:Obj}(e:h.get? a=some o):h.objs[a]?=some o:=by
 unfold Heap.get? at e
 split at e
 .cases e
 .exact e
def Dk.dict{h h':Heap}{a:Addr}{o o':Obj}(x:Dk h h')(e:h.get? a=some o)(e':h'.get? a=some o'):o'.dict=o.dict:=by
 obtain ⟨o2,e2,d⟩:=x a o (Za4 e);rw [Za4 e'] at e2;cases e2;exact d
def Dk.push{h:Heap}{o:Obj}:Dk h (h.push o):=fun a u e=>⟨u,by
 have hl:a < h.objs.size:=(Array.getElem?_eq_some_iff.mp e).1;show (h.objs.push o)[a]?=_;rw [Array.getElem?_push_lt hl,<- e,Array.getElem?_eq_getElem hl],rfl⟩
def Dk.update{h:Heap}{x:Addr}{f:Obj->Obj}(hf:∀ o,(f o).dict=o.dict):Dk h (h.update x f):=fun a u e=>by
 show ∃ o',(h.objs.modify x f)[a]?=some o'/\_;rw [Array.getElem?_modify];by_cases q:x=a
 .rw [if_pos q,e];exact ⟨f u,rfl,hf u⟩
 .rw [if_neg q];exact ⟨u,e,rfl⟩
abbrev Tm{α:Type}(t:Sem α):Prop:=∀ (M:Model) (Γ:PySem.Ctx) (Q:α->Pos->Shared->Prop) (E:Value->Pos->Shared->Prop) (p:Pos) (s:Shared),Sem.wp M Γ t Q E p s->Sem.wp M Γ t (fun a p' s'=>Q a p' s'/\Dk s.heap s'.heap) E p s
end
section
mutual
variable {α β:Type}
def Z0i{a:α}:Tm (pure a:Sem α):=fun _ _ _ _ _ _ h=>⟨h,.refl⟩
def Z29{w:String}:Tm (unsupported w:Sem α):=fun _ _ _ _ _ _ h=>h.elim
def ZM{t:Sem α}{f:α->Sem β}(ht:Tm t)(hf:∀ a,Tm (f a)):Tm (t >>= f):=fun M Γ Q E p s h=>by
 show Sem.wp M Γ (t.bind f) _ _ _ _;rw [Sem.wp_bind];have h:Sem.wp M Γ (t.bind f) _ _ _ _:=h;rw [Sem.wp_bind] at h;exact Sem.wp_mono M Γ t (fun a p1 s1 q=>Sem.wp_mono M Γ (f a) (fun b p2 s2 r=>⟨r.1,q.2.trans r.2⟩) (fun _ _ _ z=>z) p1 s1 (hf a M Γ Q E p1 s1 q.1)) (fun _ _ _ z=>z) p s (ht M Γ _ E p s h)
def Z7Y{a:Addr}:Tm (load a):=fun _ _ _ _ _ _ ⟨o,e,q⟩=>⟨o,e,q,.refl⟩
def Z8r{a:Addr}{f:Obj->Obj}(hf:∀ o,(f o).dict=o.dict):Tm (update a f):=fun _ _ _ _ _ _ ⟨e,q⟩=>⟨e,q,.update hf⟩
def Ze2{o:Obj}:Tm (alloc o):=fun _ _ _ _ _ _ q=>⟨q,.push⟩
def Z6Q:Tm stack:=fun _ _ _ _ _ _ q=>⟨q,.refl⟩
def Z2H{c:Prop}[Decidable c]{a b:Sem α}(ha:Tm a)(hb:Tm b):Tm (if c then a else b):=by split <;> assumption
def Z9R{v:Value}:Tm (fieldsOf v):=by
 unfold fieldsOf
 split
 .refine ZM Z7Y fun o=>?_
  split
  .exact Z0i
  .exact Z29
 .exact Z29
def Z52{v:Value}{i:Nat}:Tm (field v i):=by
 unfold field;refine ZM Z9R fun vs=>?_
 split
 .exact Z0i
 .exact Z29
def Z4c{v x:Value}{i:Nat}:Tm (setField v i x):=by
 unfold setField
 split
 .unfold updateField
  refine ZM Z7Y fun o=>?_
  split
  .refine Z2H (Z8r fun o=>?_) Z29
   obtain ⟨c,d,da,sl⟩:=o;cases da <;> rfl
  .exact Z29
 .exact Z29
def Z9y:Tm frameEnvs:=ZM Z6Q fun _=>Z0i
def Zcl{env:Env}{outer:List Env}:Tm (behindIsImport env outer):=by
 unfold behindIsImport;refine Z2H Z0i (Z2H Z0i (ZM Z52 fun _=>Z0i))
def ZfE{env:Env}{b:Bool}:∀ {l:List Env},Tm (keptBack env b l)
 | []=>by
  unfold keptBack;exact Z2H Z0i (ZM (ZM Z6Q fun _=>Z0i) fun _=>Z0i)
 | _::_=>Z0i
def Z9z:∀ {l:List Env},Tm (readyFrames l)
 | []=>Z0i
 | env::outer=>by
  unfold readyFrames
  split
  .refine ZM Z7Y fun o=>Z2H Z0i (ZM Zcl fun b=>ZM ZfE fun v=>ZM (Z8r fun o=>rfl) fun _=>Z9z)
  .exact Z29
def ZaT{env:Env}:Tm (PySem.frameOf env):=by
 unfold PySem.frameOf;refine ZM Z9y fun l=>ZM ?_ fun o=>?_
 .cases l.dropWhile _ with
  | nil=>exact Z0i
  | cons e r=>exact ZM Z9z fun _=>Z0i
 .cases o with
  | none=>exact Z29
  | some f=>exact Z0i
def Ze4{f:Addr}{b:Bool}:Tm (entryPlaceOf f b):=by
 unfold entryPlaceOf;refine ZM Z6Q fun l=>?_
 split <;> exact Z0i
def Zcm{t:String}{d:Data}:Tm (newObjAsIs (.type t) d):=by
 unfold newObjAsIs;exact ZM Ze2 fun _=>Z0i
def Ze3{a b c d e:Value}{l:List Value}:Tm (EntryCells.newEntry a b c d e l):=by
 unfold EntryCells.newEntry newFields newObj;dsimp only;exact Z2H (ZM Z29 fun _=>Zcm) Zcm
def Zaw{e:Value}{env:Env}:Tm (noteFrame e env):=by
 unfold noteFrame
 split
 .refine ZM Z52 fun h=>?_
  have k:∀ (f:Addr),Tm (do setField e 1 (<- EntryCells.newEntry h (<- frameOf env) .none (rawInt f) .none (<- entryPlaceOf f (h != .none)))):=fun f=>
   ZM ZaT fun _=>ZM Ze4 fun _=>ZM Ze3 fun _=>Z4c
  refine Z2H (ZM Z52 fun x=>Z2H Z0i (ZM Z4c fun _=>k _)) (k _)
 .exact Z29
def Z46{e:Value}{f:Option Addr}:Tm (setFlight e f):=by
 unfold setFlight;exact ZM Z52 fun _=>Z2H Z4c Z0i
def Z7u{e:Value}{env:Env}:Tm («leaving» env e):=ZM Zaw fun _=>Z46
end
end
mutual
def Z2Z{α:Type}{M:Model}{A:Around}{t:Sem α}{Q:α->Shared->Prop}{E:Value->Shared->Prop}{s:Shared}(ht:Tm t)(h:wpAny M A t Q E s):wpAny M A t (fun a s'=>Q a s'/\Dk s.heap s'.heap) E s:=
 fun Γ p i=>ht M Γ _ _ p s (h Γ p i)
abbrev DN(h:Heap)(e:Addr):Prop:=∀ o,h.get? e=some o->o.dict=none
def DN.step{h h':Heap}{e:Addr}{o:Obj}(d:DN h e)(k:Dk h h')(x:h.get? e=some o):DN h' e:=fun o' x'=>(k.dict x x').trans (d o x)
def Z01.there{P:Program}{w:World}{H:Hp}{h:Heap}{a:Addr}{o:HO}(x:Z01 P w H h a o):∃ u,h.get? a=some u:=by
 cases o with
 | lst xs=>obtain ⟨_,_,_,_,e⟩:=x;exact ⟨_,e⟩
 | tup xs=>obtain ⟨_,_,_,p⟩:=x;obtain ⟨u,e,_⟩:=p;exact ⟨u,e⟩
 | dK kvs=>obtain ⟨_,_,_,_,u,_,_,e,_⟩:=x;exact ⟨u,e⟩
 | dT kvs=>obtain ⟨_,_,_,_,u,_,_,e,_⟩:=x;exact ⟨u,e⟩
 | set S n=>obtain ⟨u,_,_,_,e,_⟩:=x;exact ⟨u,e⟩
 | ins C dx fs=>obtain ⟨_,_,_,e,_⟩:=x;exact ⟨_,e⟩
 | own y=>exact x
 | xd fs=>obtain ⟨_,⟨u,_,_,e,_⟩,_⟩:=x;exact ⟨u,e⟩
 | rng lo hi=>obtain ⟨_,_,_,e⟩:=x;exact ⟨_,e⟩
 | frz ob u=>obtain ⟨e,_⟩:=x;exact ⟨_,e⟩
 | tbl ps=>exact ⟨_,x⟩
 | met f y=>exact ⟨_,x⟩
 | ext φ=>exact x.2.1
abbrev Fly(g:Heap)(Z:List Addr)(l:List Env)(ea:Addr)(cls:Value)(h:Heap):Prop:=
 ∃ (B:Heap) (t:Addr),Wq B l ea cls (.ref t) h/\∀ b o,g.get? b=some o->b∉frs l->b∉Z->B.get? b=some o
abbrev CX1(P:Program)(w:World):CXT:=fun outer H s E e s'=>∃ (ea:Addr) (cls:Value) (H':Hp) (g:Heap) (Z:List Addr),e=.ref ea/\s'.os=s.os/\AllBare s'.gens/\Un (frs outer) [] H H' s.heap s'.heap/\HOk P w H' s'.heap /\
 (∀ b o,s.heap.get? b=some o->∃ o',g.get? b=some o')/\(∀ z∈Z,s.heap.objs.size<=z)/\(∀ a o,H' a=some o->(∃ o',g.get? a=some o')/\a∉Z)/\Fly g Z outer ea cls s'.heap/\DN s'.heap ea/\E cls none H'
end
section
variable {X:Cx}{pins:List (Addr×Obj)}{σ:St}{Hc H':Hp}{sc s':Shared}{g B h':Heap}{Z:List Addr}
theorem Zbx(I:Inv X pins σ Hc sc)(un:Un (frs X.stack) [] Hc H' sc.heap s'.heap)(hok:HOk X.prog X.w H' s'.heap)
  (dom:∀ b o,sc.heap.get? b=some o->∃ o',g.get? b=some o') (zz:∀ z∈Z,sc.heap.objs.size<=z) (tr:∀ a o,H' a=some o->(∃ o',g.get? a=some o')/\a∉Z)
  (hB:∀ b o,g.get? b=some o->b∉frs X.stack->b∉Z->B.get? b=some o) (st:B.StaysIn s'.heap) (st':B.StaysIn h')
  (nf:∀ b∈frs X.stack,∃ o,s'.heap.get? b=some o/\∀ vs,o.data≠.fields vs) (up:s'.heap.UpToSlots h') :
  Un (frs X.stack) [] Hc H' sc.heap h'/\HOk X.prog X.w H' h'/\∀ b,b∉frs X.stack->∀ o,g.get? b=some o->b∉Z->s'.heap.get? b=some o/\h'.get? b=some o:=by
 have same:∀ b,b∉frs X.stack->∀ o,g.get? b=some o->b∉Z->s'.heap.get? b=some o/\h'.get? b=some o:=fun b hb o e hz=>
  ⟨st b o (hB b o e hb hz),st' b o (hB b o e hb hz)⟩
 have nz:∀ b o,sc.heap.get? b=some o->b∉Z:=fun b o e hz=>absurd (Qv (Qz e) (zz b hz)) (Jv _)
 have frf:∀ b∈frs X.stack,H' b=none:=fun b hb=>by
  obtain ⟨o,e⟩:∃ o,sc.heap.get? b=some o:=by
   obtain ⟨_,o,ho,_⟩:=I.stack.mem hb;exact ⟨o,ho⟩
  exact un.free b o e (I.stkFree b hb) (by simp)
 refine ⟨⟨fun b o e n hb _=>?_,fun b o e n hb _=>?_,un.free,fun b o e _=>?_,un.tups,un.frzs,un.tbls⟩,fun a o e=>?_,same⟩
 .have e1:=un.keep b o e n hb (by simp)
  obtain ⟨o',g1⟩:=dom b o e;obtain ⟨h1,h2⟩:=same b hb o' g1 (nz b o e);rw [e1] at h1;cases h1;exact h2
 .obtain ⟨sl,e1⟩:=un.slot b o e n hb (by simp)
  obtain ⟨o1,e2,nd⟩:=nf b hb;rw [e1] at e2;cases e2;obtain ⟨sl',e3⟩:=up b _ e1 nd;exact ⟨sl',e3⟩
 .by_cases hb:b∈frs X.stack
  .obtain ⟨o1,e2,nd⟩:=nf b hb
   obtain ⟨sl',e3⟩:=up b _ e2 nd;exact ⟨_,e3⟩
  .obtain ⟨o',g1⟩:=dom b o e
   exact ⟨o',(same b hb o' g1 (nz b o e)).2⟩
 .refine (hok a o e).stay (fun b u hb q=>?_) (fun _ q=>q) fun _ _ q=>q
  obtain ⟨ob,tb⟩:∃ ob,H' b=some ob:=by
   rcases hb with rfl | hb
   .exact ⟨o,e⟩
   .exact ⟨_,hb⟩
  obtain ⟨⟨o',g1⟩,hz⟩:=tr b ob tb;have hfr:b∉frs X.stack:=fun z=>by rw [frf b z] at tb;cases tb
  obtain ⟨h1,h2⟩:=same b hfr o' g1 hz;rw [q] at h1;cases h1;exact h2
end
section
mutual
variable {P:Program}{w:World}{K:Qa}{mg:Str->Option Value}{base:Heap}{N:List Str}{qual:Str}{scope:Scope}{f:Addr}{cd:Value}{A:Around}{outer:List Env}{s:Shared}{H:Hp}{E:XK}{pins:List (Addr×Obj)}{σ:St}
def Z7d{Hc H':Hp}{sc s':Shared}{g B h':Heap}{Z:List Addr}{ea t:Addr}{cls:Value}(I:Inv (ZJ (CX1 P w) P w K mg base N qual scope f cd A outer s H E) pins σ Hc sc)
  (os:s'.os=sc.os) (bare:AllBare s'.gens) (un:Un (frs (ZJ (CX1 P w) P w K mg base N qual scope f cd A outer s H E).stack) [] Hc H' sc.heap s'.heap) (hok:HOk P w H' s'.heap)
  (dom:∀ b o,sc.heap.get? b=some o->∃ o',g.get? b=some o') (zz:∀ z∈Z,sc.heap.objs.size<=z) (tr:∀ a o,H' a=some o->(∃ o',g.get? a=some o')/\a∉Z)
  (hB:∀ b o,g.get? b=some o->b∉frs (ZJ (CX1 P w) P w K mg base N qual scope f cd A outer s H E).stack->b∉Z->B.get? b=some o) (st:B.StaysIn s'.heap)
  (nf:∀ b∈frs (ZJ (CX1 P w) P w K mg base N qual scope f cd A outer s H E).stack,∃ o,s'.heap.get? b=some o/\∀ vs,o.data≠.fields vs)
  (fl:Wq B outer ea cls (.ref t) h') (up:s'.heap.UpToSlots h') (dn:DN h' ea) (q:E cls none H'):CX1 P w outer H s E (.ref ea) { s' with heap:=h' }:=by
 generalize hX:ZJ (CX1 P w) P w K mg base N qual scope f cd A outer s H E=X at I un hB nf;have e1:X.s₀=s:=by subst hX;rfl
 have e2:X.H₀=H:=by subst hX;rfl
 have e3:X.fs=frs outer:=by subst hX;rfl
 have e4:X.ex=[]:=by subst hX;rfl
 have e5:frs X.stack=X.env.locals::frs outer:=by subst hX;rfl
 have e6:X.prog=P:=by subst hX;rfl
 have e7:X.w=w:=by subst hX;rfl
 obtain ⟨un',hok',same⟩:=Zbx I un (by rw [e6,e7];exact hok) dom zz tr hB st fl.1 nf up;have ib:=I.base;rw [e1,e2,e3,e4] at ib;have ab:=I.ok.above;rw [e1] at ab;have sz:=I.sz;rw [e1] at sz
 have out:∀ b o,s.heap.get? b=some o->b∉frs outer->b∉frs X.stack:=fun b o e hb=>by
  rw [e5];intro z;rcases Jb.mp z with z | z
  .exact absurd (Qv (Qz e) ab) (by rw [z];exact Jv _)
  .exact hb z
 have inn:∀ b,b∈frs outer->b∈frs X.stack:=fun b hb=>by rw [e5];exact Qt _ hb
 have fL:H' X.env.locals=none:=by
  obtain ⟨m,⟨o,_,_,ho,_⟩,_⟩:=I.loc;exact un.free _ o ho I.free (by simp)
 refine ⟨ea,cls,H',g,X.env.locals::Z,rfl,os.trans (I.os.trans (by rw [e1])),bare,⟨fun b o e n hb _=>?_,fun b o e n hb _=>?_,fun b o e n _=>?_,fun b o e _=>?_,fun b xs e=>un.tups b xs (ib.tups b xs e),fun b o u e=>un.frzs b o u (ib.frzs b o u e),fun b ps e=>?_⟩,
  by rw [<- e6,<- e7];exact hok',fun b o e=>?_,fun z hz=>?_,fun a o e=>?_,⟨B,t,fl,fun b o e hb hz=>?_⟩,dn,q⟩
 .exact un'.keep b o (ib.keep b o e n hb (by simp)) (ib.free b o e n (by simp)) (out b o e hb) (by simp)
 .obtain ⟨sl,h1⟩:=ib.slot b o e n hb (by simp)
  obtain ⟨sl',h2⟩:=un'.slot b _ h1 (ib.free b o e n (by simp)) (inn b hb) (by simp);exact ⟨sl',h2⟩
 .obtain ⟨o',h1⟩:=ib.there b o e (by simp)
  exact un.free b o' h1 (ib.free b o e n (by simp)) (by simp)
 .obtain ⟨o',h1⟩:=ib.there b o e (by simp)
  exact un'.there b o' h1 (by simp)
 .obtain ⟨m1,h1⟩:=ib.tbls b ps e
  obtain ⟨m2,h2⟩:=un.tbls b _ h1;exact ⟨m1++m2,by rw [h2,Array.append_assoc]⟩
 .obtain ⟨o',h1⟩:=ib.there b o e (by simp)
  exact dom b o' h1
 .rcases Jb.mp hz with z | z
  .rw [z];exact ab
  .exact Jr sz (zz _ z)
 .obtain ⟨h1,h2⟩:=tr a o e
  refine ⟨h1,fun z=>?_⟩;rcases Jb.mp z with z | z
  .rw [z,fL] at e;cases e
  .exact h2 z
 .refine hB b o e (fun z=>?_) fun z=>hz (Qt _ z)
  rw [e5] at z;rcases Jb.mp z with z | z
  .exact hz (by rw [z];exact Qs)
  .exact hb z
def passX:Z3z (CX1 P w) (ZJ (CX1 P w) P w K mg base N qual scope f cd A outer s H E) E:=by
 intro pins σ Hc sc e s' I c;obtain ⟨ea,cls,H',g,Z,rfl,os,bare,un,hok,dom,zz,tr,⟨B,t,fl,hB⟩,dn,q⟩:=c;refine wpAny_mono (Z2Z Z7u (wpAny_leaves_onW (A:=A.deeper (envOfC qual scope s.heap.objs.size f cd)) (Q:=fun _ s1=>∃ h',s1={ s' with heap:=h' }/\Wq B outer ea cls (.ref t) h'/\s'.heap.UpToSlots h') I.ok.frames rfl fl fun h' fl' up=>⟨h',rfl,fl',up⟩)) (fun _ s1 z=>?_) fun _ _ z=>z;obtain ⟨⟨h',rfl,fl',up⟩,k⟩:=z;obtain ⟨ob,hob,_⟩:=fl.there;exact Z7d I os bare un hok dom zz tr hB fl.1 (fun b hb=>(fl.2.2.1.mem hb).2) fl' up (dn.step k hob) q
def pass1{X:Cx}:Z3z (CX1 P w) X E0:=by
 rintro pins σ Hc sc e s' I ⟨_,_,_,_,_,_,_,_,_,_,_,_,_,_,_,q⟩;exact q.elim
def leave_new{sc:Shared}{Hc:Hp}{h1:Heap}{ea:Addr}{cls:Value}{vs:List Value}(I:Inv (ZJ (CX1 P w) P w K mg base N qual scope f cd A outer s H E) pins σ Hc sc)(hx:Heap.MadeExcOf sc.heap h1 ea cls vs)(q:E cls none Hc) :
  (ZJ (CX1 P w) P w K mg base N qual scope f cd A outer s H E).xe (.ref ea) { sc with heap:=h1 }:=by
 generalize hX:ZJ (CX1 P w) P w K mg base N qual scope f cd A outer s H E=X at I;have stk:X.stack=envOfC qual scope s.heap.objs.size f cd::outer:=by subst hX;rfl
 have fm:∀ l:List Env,(∀ b∈frs l,b∈frs X.stack)->∀ {bs:Heap},sc.heap.FunFrames bs l->sc.heap.FunFrames (Nq sc.heap (frs X.stack)) l:=by
  intro l
  induction l with
  | nil=>intro _ _ _;trivial
  | cons env r ih=>
   intro hs bs hl;obtain ⟨hk,⟨L,o,hf,_,ho,hd⟩,hr⟩:=hl;have hL:L∈frs (env::r):=by unfold frs;rw [Jp,hf];exact Qs
   refine ⟨hk,⟨L,o,hf,PySem.W.hideAll_none _ (hs L hL),ho,hd⟩,ih (fun b hb=>hs b ?_) hr⟩;unfold frs;rw [Jp,hf];exact Qt _ hb
 have hl:=fm X.stack (fun _ hb=>hb) I.stack
 have nf:∀ b∈frs X.stack,∃ o,h1.get? b=some o/\∀ vs,o.data≠.fields vs:=fun b hb=>by
  obtain ⟨_,o,ho,hd⟩:=hl.mem hb;exact ⟨o,hx.keeps b o ho,hd⟩
 have hkb:(Nq sc.heap (frs X.stack)).StaysIn sc.heap:=fun b o e=>PySem.W.of_hideAll _ e;have frm:=I.ok.frames;have hB:∀ b o,sc.heap.get? b=some o->b∉frs X.stack->b∉([]:List Addr)->(Nq sc.heap (frs X.stack)).get? b=some o:=fun b o e hb _=>PySem.W.hideAll_get _ e hb;have tr:∀ a o,Hc a=some o->(∃ o',sc.heap.get? a=some o')/\a∉([]:List Addr):=fun a o e=>⟨(I.hok a o e).there,by simp⟩;subst hX
 refine wpAny_mono (Z2Z Z7u (wpAny_leaves_madeW (A:=A.deeper (envOfC qual scope s.heap.objs.size f cd)) (base:=Nq sc.heap (frs (envOfC qual scope s.heap.objs.size f cd::outer))) (h:=sc.heap)
  (Q:=fun _ s1=>∃ h' t,s1={ sc with heap:=h' }/\Wq (Nq sc.heap (frs (envOfC qual scope s.heap.objs.size f cd::outer))) outer ea cls (.ref t) h'/\h1.UpToSlots h') frm rfl hkb hl hx fun h' t fl _ _ up=>⟨h',t,rfl,fl,up⟩)) (fun _ s1 z=>?_) fun _ _ z=>z
 obtain ⟨⟨h',t,rfl,fl,up⟩,k⟩:=z;obtain ⟨t0,he0,_⟩:=hx.there;have dn:DN h1 ea:=fun o z=>by rw [he0] at z;cases z;rfl
 exact Z7d (s':={ sc with heap:=h1 }) (g:=sc.heap) (Z:=[]) I rfl I.bare (Un.kept hx.keeps) (I.hok.kept hx.keeps) (fun b o e=>⟨o,e⟩) (by simp) tr hB (fun b o e=>hx.keeps b o (hkb b o e)) nf fl up (dn.step k he0) q
def Z0K:PassesOwn (model P w) (ZJ (CX1 P w) P w K mg base N qual scope f cd A outer s H E).A (ZJ (CX1 P w) P w K mg base N qual scope f cd A outer s H E).env (ZJ (CX1 P w) P w K mg base N qual scope f cd A outer s H E).xe:=by
 intro e s' h;exact wpAny_leaving_again (SameStack.refl _) h
end
end
abbrev bmV:List Value:=[.type "ValueError",.type "Exception",.type "BaseException",.type "object"]
structure ExC(K:Qa)(mg:Str->Option Value)(x:Str)(C:Addr):Prop where
 mg:mg x=some (.ref C)
 exc:PySem.W.excIn K C bmV "ValueError.__new__"=true
theorem ExC.obj{K:Qa}{mg:Str->Option Value}{x:Str}{C:Addr}{h:Heap}(O:ExC K mg x C)(X:K.In h):OwnCls x C bmV "ValueError.__new__" mg h:=by
 refine ⟨O.mg,?_⟩;have q:=O.exc;unfold PySem.W.excIn at q
 split at q
 case h_2=>cases q
 case h_1 dd cd sl ho=>
  split at q
  case h_2=>cases q
  case h_1 C' bm k0 k1 k2 k3 n k5 hm hs=>
   rw [Ja,Ja,Ja,Ja,Ja] at q;obtain ⟨⟨⟨⟨⟨a1,a2⟩,a3⟩,a4⟩,a5⟩,a6⟩:=q;have b1:=beq_iff_eq.mp a1;have b2:=beq_iff_eq.mp a2;have b6:=beq_iff_eq.mp a6;rw [Wy] at a3;obtain ⟨c1,c2,c3,c4,c5,c6,c7,c8,c9,c10,c11⟩:=cd;have hm':c3=Value.ref C'::bm:=hm;have hd':c11=false:=a3
   have hs':sl=#[k0,k1,k2,k3,some (.builtin n),k5]:=by
    rcases sl with ⟨l⟩;exact congrArg Array.mk hs
   subst b1 b2 hm' hd' hs';exact ⟨bm,c4,c1,c5,c2,c6,c7,c8,c9,c10,dd,k0,k1,k2,k3,k5,_,X _ _ ho,.of_isNs (PySem.W.isNs_of_in X a5),PySem.W.nsMap_none_of_in X a5 b6,PySem.W.tail_of_in X a4⟩
section
mutual
variable {P:Program}{w:World}{K:Qa}{mg:Str->Option Value}{base:Heap}{N:List Str}{qual:Str}{scope:Scope}{f:Addr}{cd:Value}{A:Around}{outer:List Env}{s:Shared}{H:Hp}{E:XK}
abbrev tRaise(E:XK)(cls:Value):TS:=fun _ _ H=>E cls none H
abbrev tRaiseA(E:XK)(cls:Value)(t:TA):TS:=fun _ σ H=>t σ H fun vs H1=>vs.length<=sizeLine/\E cls none H1
def Zc3{x:Str}{C:Addr}{np cpos pos:Pos}{e:Expr}{es:List Expr}{t:TA}(O:ExC K mg x C)(ha:PA (ZJ (CX1 P w) P w K mg base N qual scope f cd A outer s H E) (e::es) t)
  (hg:autoParam (Gl (ZJ (CX1 P w) P w K mg base N qual scope f cd A outer s H E) x) uA._auto_1) (hdb:autoParam ((x == ("__debug__":Str))=false) uB._auto_1)
  (he:autoParam (starEach (e::es) (ZJ (CX1 P w) P w K mg base N qual scope f cd A outer s H E).env=(false,eval e (ZJ (CX1 P w) P w K mg base N qual scope f cd A outer s H E).env)::starEach es (ZJ (CX1 P w) P w K mg base N qual scope f cd A outer s H E).env) uA._auto_1)
  (hpl:autoParam ((backTo cpos (starEach es (ZJ (CX1 P w) P w K mg base N qual scope f cd A outer s H E).env)).any (·.1)=false) uA._auto_1) :
  PS (ZJ (CX1 P w) P w K mg base N qual scope f cd A outer s H E) (.Raise (some (.Call (.Name x np) (e::es) [] cpos)) none pos) (tRaiseA E (.ref C) t):=by
 intro pins sc σ Hc D I q;obtain ⟨tl,N',nm,q',bs,hdct,sn,sub,ab,col,dd,k0,k1,k2,k3,k5,mN,hC0,hN0,hni,TT0⟩:=(O.obj (I.ok.mod.kin:K.In base)).obj
 refine wpAny_Raise_call_subT (C:=C) (nm:=nm) (q:=q') (N:=N') (bs:=bs) (bm:=tl) (hdct:=hdct) (sn:=sn) (sub:=sub) (ab:=ab) (col:=col) (dd:=dd) (k0:=k0) (k1:=k1) (k2:=k2) (k3:=k3) (k5:=k5)
  F.excBase_ValueError (mN:=mN) (TT0.hasType F.excBase_ValueError.hasBase) (I.ok.hd rfl) (by rw [he];show (false || (backTo cpos (starEach es _)).any (·.1))=false;rw [hpl];rfl) hni (Z1J I hg O.mg ⟨rfl,?_⟩ hdb)
 have hA:=ha cpos pins sc σ Hc _ I q;rw [he] at hA ⊢;refine Calls.evalArgs_plain (thn hA fun us s2 ⟨vs,H2,I2,r2,hz,q2⟩=>?_);exact ⟨rfl,by rw [<- r2.length];exact hz,I2.bk _ _ hC0,hN0.keeps I2.bk,TT0.keeps I2.bk,fun h' e hm=>leave_new I2 hm q2⟩
end
end
mutual
structure DefX(P:Program)(w:World)(K:Qa)(mg:Str->Option Value)(base:Heap)(x:Str)(k:Nat)(ps:List Str)(sp:Sp):Prop where
 ex:∃ (f:Addr) (fd:FuncData),FnOk P w K mg base (CX1 P w) k f fd ps sp/\mg x=some (.ref f)/\Jt K (.ref f)=true/\Binds K fd ps [] /\
  ∃ (oc:Value) (od:Option Addr) (osl:Array (Option Value)),K.lookup f=some ⟨oc,od,.func fd,osl⟩
structure AtM(K:Qa)(C:Addr)(m qual:Str)(st:Stmt)(ps:List Str):Prop where
 ex:∃ (f:Addr) (fd:FuncData),Fun K m qual st f fd/\Meth K C m f/\∀ us:List Value,us.length=ps.length->bindArgs fd ⟨us,[]⟩=pure (ps.zip us)
structure MetX(P:Program)(w:World)(K:Qa)(mg:Str->Option Value)(base:Heap)(C:Addr)(m:Str)(k:Nat)(ps:List Str)(sp:Sp):Prop where
 ex:∃ (f:Addr) (fd:FuncData),FnOk P w K mg base (CX1 P w) k f fd ps sp/\Meth K C m f/\Binds K fd ps []
structure AtI(K:Qa)(C:Addr)(qual:Str)(st:Stmt)(ps:List Str):Prop where
 ex:∃ (f:Addr) (fd:FuncData),Fun K "__init__" qual st f fd/\Mk K C f/\∀ us:List Value,us.length=ps.length->bindArgs fd ⟨us,[]⟩=pure (ps.zip us)
structure InitX(P:Program)(w:World)(K:Qa)(mg:Str->Option Value)(base:Heap)(C:Addr)(k:Nat)(ps:List Str)(sp:Sp):Prop where
 ex:∃ (f:Addr) (fd:FuncData),FnOk P w K mg base (CX1 P w) k f fd ps sp/\Mk K C f/\Binds K fd ps []
end
section
mutual
variable {P:Program}{w:World}{K:Qa}{mg:Str->Option Value}{base:Heap}
def Fun.okX{x qual:Str}{st:Stmt}{f:Addr}{fd:FuncData}{N ps:List Str}{k:Nat}{sp:Sp}(F:Fun K x qual st f fd)(S:FnScope N ps (Z6 st))(len:∀ vs H Q E,sp vs H Q E->vs.length=ps.length)
  (hbody:∀ (cdv:Value) (A:Around) (outer:List Env) (s:Shared) (H:Hp) (vs:List V) (Q:VK) (E:XK),Room k (A.deeper (envOfC qual (Z6 st) s.heap.objs.size f cdv))->sp vs H Q E ->
   ∃ t,PSs (ZJ (CX1 P w) P w K mg base N qual (Z6 st) f cdv A outer s H E) (Z0g st) t/\t { nx:=fun _ H'=>Q .non H',rt:=Q } (start N vs) H):FnOk P w K mg base (CX1 P w) (k + 1) f fd ps sp:=by
 obtain ⟨oc,od,kV,doc,pm,an,cdv,ct,osl,rfl,lk,hcd⟩:=F.ex;exact fn_of lk hcd S len fun A outer s H vs Q E hr hsp=>hbody cdv A outer s H vs Q E hr hsp
def At.okX{x:Str}{st:Stmt}{ps N:List Str}{k:Nat}{sp:Sp}(F:At K mg x st ps)(S:FnScope N ps (Z6 st))(len:∀ vs H Q E,sp vs H Q E->vs.length=ps.length)
  (hbody:∀ (f:Addr) (cdv:Value) (A:Around) (outer:List Env) (s:Shared) (H:Hp) (vs:List V) (Q:VK) (E:XK),Room k (A.deeper (envOfC x (Z6 st) s.heap.objs.size f cdv))->sp vs H Q E ->
   ∃ t,PSs (ZJ (CX1 P w) P w K mg base N x (Z6 st) f cdv A outer s H E) (Z0g st) t/\t { nx:=fun _ H'=>Q .non H',rt:=Q } (start N vs) H):DefX P w K mg base x (k + 1) ps sp:=by
 obtain ⟨f,fd,F,m,b⟩:=F.ex;obtain ⟨oc,od,_,_,_,_,_,_,osl,_,lk,_⟩:=id F.ex;exact ⟨f,fd,F.okX S len (hbody f),m,F.kp,.all b,oc,od,osl,lk⟩
def AtM.okX{C:Addr}{m qual:Str}{st:Stmt}{ps N:List Str}{k:Nat}{sp:Sp}(F:AtM K C m qual st ps)(S:FnScope N ps (Z6 st))(len:∀ vs H Q E,sp vs H Q E->vs.length=ps.length)
  (hbody:∀ (f:Addr) (cdv:Value) (A:Around) (outer:List Env) (s:Shared) (H:Hp) (vs:List V) (Q:VK) (E:XK),Room k (A.deeper (envOfC qual (Z6 st) s.heap.objs.size f cdv))->sp vs H Q E ->
   ∃ t,PSs (ZJ (CX1 P w) P w K mg base N qual (Z6 st) f cdv A outer s H E) (Z0g st) t/\t { nx:=fun _ H'=>Q .non H',rt:=Q } (start N vs) H):MetX P w K mg base C m (k + 1) ps sp:=by
 obtain ⟨f,fd,F,m,b⟩:=F.ex;exact ⟨f,fd,F.okX S len (hbody f),m,.all b⟩
def AtI.okX{C:Addr}{qual:Str}{st:Stmt}{ps N:List Str}{k:Nat}{sp:Sp}(F:AtI K C qual st ps)(S:FnScope N ps (Z6 st))(len:∀ vs H Q E,sp vs H Q E->vs.length=ps.length)
  (hbody:∀ (f:Addr) (cdv:Value) (A:Around) (outer:List Env) (s:Shared) (H:Hp) (vs:List V) (Q:VK) (E:XK),Room k (A.deeper (envOfC qual (Z6 st) s.heap.objs.size f cdv))->sp vs H Q E ->
   ∃ t,PSs (ZJ (CX1 P w) P w K mg base N qual (Z6 st) f cdv A outer s H E) (Z0g st) t/\t { nx:=fun _ H'=>Q .non H',rt:=Q } (start N vs) H):InitX P w K mg base C (k + 1) ps sp:=by
 obtain ⟨f,fd,F,m,b⟩:=F.ex;exact ⟨f,fd,F.okX S len (hbody f),m,.all b⟩
def ZeV{x y:Str}{st:Stmt}{k:Nat}{sp:Sp}{fa:Addr}(F:At K mg y st [x])(D:∀ base,DefX P w K mg base y k [x] sp)(hmg:mg y=some (.ref fa)) :
  ∃ fd:FuncData,(∀ (s:Shared) (u:Value),BindsTo s fd ⟨[u],[]⟩ [(x,u)])/\∀ base:Heap,K.In base->base.Ns mainGlobals mg->FnOk P w K mg base (CX1 P w) k fa fd [x] sp:=by
 obtain ⟨f,fd,F,m,b⟩:=F.ex;rw [m] at hmg;cases hmg;refine ⟨fd,fun s u=>.of_eq (b [u] rfl),fun base _ _=>?_⟩;obtain ⟨f',fd',G,m',_,_,_,_,_,lk'⟩:=(D base).ex;rw [m] at m';cases m';obtain ⟨oc,od,_,_,_,_,_,_,osl,_,lk,_⟩:=id F.ex;rw [lk] at lk';cases lk';exact G
end
end
section
variable {X:Cx}{x m:Str}{C:Addr}{k:Nat}{ps:List Str}{sp:Sp}{p pos apos:Pos}{e o:Expr}{es:List Expr}{t:TA}{ta:TE}{E:XK}
theorem ZgT(D:DefX X.prog X.w X.K X.mg X.base x k ps sp)(hr:Room k X.A)(hx:Z3z (CX1 X.prog X.w) X E)(ha:PA X (e::es) t)(hg:autoParam (Gl X x) uA._auto_1)(hdb:autoParam ((x == ("__debug__":Str))=false) uB._auto_1)
  (he:autoParam (starEach (e::es) X.env=(false,eval e X.env)::starEach es X.env) uA._auto_1) (hpl:autoParam ((backTo pos (starEach es X.env)).any (·.1)=false) uA._auto_1) :
  PE X (.Call (.Name x p) (e::es) [] pos) (tCall sp [] E t):=by
 obtain ⟨f,fd,G,m,kp,b,_⟩:=D.ex;exact Zf4 G hr hg m kp b .nil hx ha hdb he hpl
end
mutual
abbrev Z19(X:Cx)(EX:St->XK):Prop:=∀ (pins:List (Addr×Obj)) (σ:St) (H:Hp) (s:Shared) (e:Value) (s':Shared),Inv X pins σ H s->CX1 X.prog X.w X.stack H s (EX σ) e s'->X.xe e s'
def passT0{X:Cx}:Z19 X fun _=>E0:=by
 rintro pins σ Hc sc e s' I ⟨_,_,_,_,_,_,_,_,_,_,_,_,_,_,_,q⟩;exact q.elim
def passTX{P:Program}{w:World}{K:Qa}{mg:Str->Option Value}{base:Heap}{N:List Str}{qual:Str}{scope:Scope}{f:Addr}{cd:Value}{A:Around}{outer:List Env}{s:Shared}{H:Hp}{E:XK} :
  Z19 (ZJ (CX1 P w) P w K mg base N qual scope f cd A outer s H E) fun _=>E:=fun pins σ Hc sc e s' I c=>passX pins σ Hc sc e s' I c
abbrev tCallT(sp:Sp)(EX:St->XK)(t:TA):TE:=fun σ H Q=>t σ H fun vs H1=>sp vs H1 Q (EX σ)
abbrev tMetT(C:Addr)(m:Str)(sp:Sp)(EX:St->XK)(ta:TE)(t:TA):TE:=fun σ H Q=>ta σ H fun x H1=>∃ a dx fs,x=.ref a/\H1 a=some (.ins C dx fs)/\fs.lookup m=none/\t σ H1 fun vs H2=>sp (x::vs) H2 Q (EX σ)
abbrev tMkT(C:Addr)(sp:Sp)(EX:St->XK)(t:TA):TE:=fun σ H Q=>t σ H fun vs H1=>∀ x dx,H1 x=none->H1 dx=none->dx≠x ->
 sp (.ref x::vs) (upd (upd H1 dx (.own x)) x (.ins C dx [])) (fun v H2=>v=.non/\Q (.ref x) H2) (EX σ)
end
section
mutual
variable {X:Cx}{x m:Str}{C f:Addr}{fd:FuncData}{k:Nat}{ps:List Str}{sp:Sp}{p pos apos:Pos}{e o:Expr}{es:List Expr}{t:TA}{ta:TE}{EX:St->XK}
def Z6e{pins:List (Addr×Obj)}{σ:St}{H:Hp}{s:Shared}{Q:VK}{us:List Value}{vs:List V}(F:FnOk X.prog X.w X.K X.mg X.base (CX1 X.prog X.w) k f fd ps sp)(hr:Room k X.A)(hb:Binds X.K fd ps [])(hx:Z19 X EX)
  (I:Inv X pins σ H s) (r:Vals vs us) (h:sp vs H Q (EX σ)):wpAny (model X.prog X.w) X.A (call (.ref f) us) (EP X pins σ Q) X.xe s:=by
 have hl:(us++[]).length=ps.length:=by rw [Jo,<- r.length];exact F.len _ _ _ _ h
 have hbb:=hb s us I.kIn hl;rw [Jo] at hbb;refine wpAny_call (codeAny_mono (F.run X.A X.stack s H ⟨us,[]⟩ us vs Q (EX σ) hr I.env0 hbb r h) fun r s' hq=>?_)
 cases r with
 | error e=>exact hx pins σ H s e s' I hq
 | ok fl=>
  cases fl with
  | ret u=>exact I.after hq
  | next=>exact False.elim hq
  | brk=>exact False.elim hq
  | cont=>exact False.elim hq
def ZbW(D:DefX X.prog X.w X.K X.mg X.base x k ps sp)(hr:Room k X.A)(hx:Z19 X EX)(ha:PA X (e::es) t)(hg:autoParam (Gl X x) uA._auto_1)(hdb:autoParam ((x == ("__debug__":Str))=false) uB._auto_1)
  (he:autoParam (starEach (e::es) X.env=(false,eval e X.env)::starEach es X.env) uA._auto_1) (hpl:autoParam ((backTo pos (starEach es X.env)).any (·.1)=false) uA._auto_1) :
  PE X (.Call (.Name x p) (e::es) [] pos) (tCallT sp EX t):=by
 obtain ⟨f,fd,G,hm,kp,b,_⟩:=D.ex;intro pins s σ H Q I h;refine wpAny_Call_Name_kw (Z1J I hg hm ?_ hdb);refine Nj (h₀:=X.base) I.ok.mod.kin kp (thn (ha pos pins s σ H _ I h) fun us s1 ⟨vs,H1,I1,r,q⟩=>⟨I1.kIn,?_⟩) he hpl;exact Z6e G hr b hx I1 r q
def Zal{pl:Sem Bool}(D:MetX X.prog X.w X.K X.mg X.base C m k ps sp)(c:Cls X.K C)(hr:Room k X.A)(hx:Z19 X EX)(ho:PE X o ta)(ha:PA X (e::es) t)
  (hst:autoParam (starEach (e::es) X.env=(false,eval e X.env)::starEach es X.env) uA._auto_1) (hpl:autoParam ((backTo pos (starEach es X.env)).any (·.1)=false) uA._auto_1)
  (ht:autoParam (eval (.Call (.Attribute o m apos) (e::es) [] pos) X.env=(do
   let ov <- eval o X.env
   standAt apos.atName
   let (f,first) <- holding [ov] (getMethod ov m pl)
   callWith pos f first (backTo pos (starEach (e::es) X.env)) (backToKw pos (keywordEach [] X.env)))) uA._auto_1) :
  PE X (.Call (.Attribute o m apos) (e::es) [] pos) (tMetT C m sp EX ta t):=by
 obtain ⟨f,fd,G,hm,b⟩:=D.ex;intro pins s σ H Q I h;refine Gk (pl:=pl) (thn (ho pins s σ H _ I h) fun u s1 ⟨x,H1,I1,rx,a,dx,fs,ex,ea,l,q⟩=>?_) ht;subst ex;obtain rfl:u=Value.ref a:=rx;refine Z6X I1 ea c hm l ?_;refine Nj (first:=[.ref a]) (h₀:=X.base) I.ok.mod.kin hm.kp (thn (ha pos pins s1 σ H1 _ I1 q) fun us s2 ⟨vs,H2,I2,r,q2⟩=>⟨I2.kIn,?_⟩) hst hpl;exact Z6e (us:=.ref a::us) (vs:=.ref a::vs) G hr b hx I2 (.cons rfl r) q2
def Z9i{pl:Sem Bool}(D:MetX X.prog X.w X.K X.mg X.base C m k ps sp)(c:Cls X.K C)(hr:Room k X.A)(hx:Z19 X EX)(ho:PE X o ta)
  (ht:autoParam (eval (.Call (.Attribute o m apos) [] [] pos) X.env=(do
   let ov <- eval o X.env
   standAt apos.atName
   let (f,first) <- holding [ov] (getMethod ov m pl)
   callWith pos f first (backTo pos (starEach [] X.env)) (backToKw pos (keywordEach [] X.env)))) uA._auto_1) :
  PE X (.Call (.Attribute o m apos) [] [] pos) (tMetT C m sp EX ta tNil):=by
 obtain ⟨f,fd,G,hm,b⟩:=D.ex;intro pins s σ H Q I h;refine Gk (pl:=pl) (thn (ho pins s σ H _ I h) fun u s1 ⟨x,H1,I1,rx,a,dx,fs,ex,ea,l,q⟩=>?_) ht;subst ex;obtain rfl:u=Value.ref a:=rx;refine Z6X I1 ea c hm l ?_;exact Gw (first:=[.ref a]) I1.kIn hm.kp (Z6e (us:=[.ref a]) (vs:=[.ref a]) G hr b hx I1 (.cons rfl .nil) q)
def Zao{pins:List (Addr×Obj)}{σ:St}{H:Hp}{s:Shared}{Q:VK}{us:List Value}{vs:List V}(M:Mk X.K C f)(F:FnOk X.prog X.w X.K X.mg X.base (CX1 X.prog X.w) k f fd ps sp)(hr:Room (k + 1) X.A)(hb:Binds X.K fd ps [])
  (I:Inv X pins σ H s) (r:Vals vs us) (h:∀ x dx,H x=none->H dx=none->dx≠x->sp (.ref x::vs) (upd (upd H dx (.own x)) x (.ins C dx [])) (fun v H2=>v=.non/\Q (.ref x) H2) E0):wpAny (model X.prog X.w) X.A (call (.ref C) us) (EP X pins σ Q) X.xe s:=
 ZdW (E:=E0) (dvs:=[]) (ds:=[]) M F hr hb .nil pass1 I r fun x dx h1 h2 h3=>by rw [Jo];exact h x dx h1 h2 h3
def ZgU(D:InitX X.prog X.w X.K X.mg X.base C k ps sp)(hr:Room (k + 1) X.A)(hm:X.mg x=some (.ref C))(ha:PA X (e::es) t)(hg:autoParam (Gl X x) uA._auto_1)(hdb:autoParam ((x == ("__debug__":Str))=false) uB._auto_1)
  (he:autoParam (starEach (e::es) X.env=(false,eval e X.env)::starEach es X.env) uA._auto_1) (hpl:autoParam ((backTo pos (starEach es X.env)).any (·.1)=false) uA._auto_1):PE X (.Call (.Name x p) (e::es) [] pos) (tMkT C sp (fun _=>E0) t):=by
 obtain ⟨f,fd,G,M,b⟩:=D.ex;intro pins s σ H Q I h;refine wpAny_Call_Name_kw (Z1J I hg hm ?_ hdb);refine Nj (h₀:=X.base) I.ok.mod.kin M.kp (thn (ha pos pins s σ H _ I h) fun us s1 ⟨vs,H1,I1,r,q⟩=>⟨I1.kIn,?_⟩) he hpl;exact Zao M G hr b I1 r q
def Zfa(D:InitX X.prog X.w X.K X.mg X.base C k ps sp)(hr:Room (k + 1) X.A)(hm:X.mg x=some (.ref C))(hg:autoParam (Gl X x) uA._auto_1)(hdb:autoParam ((x == ("__debug__":Str))=false) uB._auto_1):PE X (.Call (.Name x p) [] [] pos) (tMkT C sp (fun _=>E0) tNil):=by
 obtain ⟨f,fd,G,M,b⟩:=D.ex;intro pins s σ H Q I h;refine wpAny_Call_Name_kw (Z1J I hg hm ?_ hdb);exact Gw I.kIn M.kp (Zao (us:=[]) M G hr b I .nil h)
end
end
structure Land(X:Cx)(pins:List (Addr×Obj))(σ:St)(Hc:Hp)(sc:Shared)(H:Hp)(g:Heap)(Z:List Addr)(B:Heap)(ea t:Addr)(cls:Value)(s:Shared):Prop where
 inv0:Inv X pins σ Hc sc
 os:s.os=sc.os
 bare:AllBare s.gens
 un:Un (frs X.stack) [] Hc H sc.heap s.heap
 hok:HOk X.prog X.w H s.heap
 dom:∀ b o,sc.heap.get? b=some o->∃ o',g.get? b=some o'
 zz:∀ z∈Z,sc.heap.objs.size<=z
 tr:∀ a o,H a=some o->(∃ o',g.get? a=some o')/\a∉Z
 hB:∀ b o,g.get? b=some o->b∉frs X.stack->b∉Z->B.get? b=some o
 fl:Wq B X.stack ea cls (.ref t) s.heap
 dn:DN s.heap ea
section
mutual
variable {X:Cx}{pins:List (Addr×Obj)}{σ:St}{Hc H:Hp}{sc s:Shared}{g B:Heap}{Z:List Addr}{ea t:Addr}{cls:Value}
def Land.inv(L:Land X pins σ Hc sc H g Z B ea t cls s):Inv X pins σ H s:=L.inv0.call' (ch:=[]) L.os L.un L.hok L.bare fun b z=>absurd z (by simp)
def Land.step{h':Heap}(L:Land X pins σ Hc sc H g Z B ea t cls s)(fl':Wq B X.stack ea cls (.ref t) h')(up:s.heap.UpToSlots h')(k:Dk s.heap h'):Land X pins σ Hc sc H g Z B ea t cls { s with heap:=h' }:=by
 obtain ⟨un',hok',_⟩:=Zbx L.inv0 L.un L.hok L.dom L.zz L.tr L.hB L.fl.1 fl'.1 (fun b hb=>(L.fl.2.2.1.mem hb).2) up;obtain ⟨ob,hob,_⟩:=L.fl.there;exact ⟨L.inv0,L.os,L.bare,un',hok',L.dom,L.zz,L.tr,L.hB,fl',L.dn.step k hob⟩
private abbrev Cx.inH(X:Cx)(ea:Addr):Cx:={ X with A:=X.A.mark (some (.ref ea)),calm:=false,xe:=fun _ _=>False }
def Cx.Ok.inH(ok:X.Ok)(ea:Addr):(X.inH ea).Ok:=
 ⟨ok.mod,ok.kind,ok.glob,ok.blt,ok.above,ok.inj,ok.has,ok.cab,(fun z=>by cases z),ok.frames,ok.stk,ok.exf,ok.bs,ok.bsz,ok.noex,ok.exfs,ok.funs,ok.frf⟩
def Inv.inH(I:Inv X pins σ H s)(ea:Addr):Inv (X.inH ea) pins σ H s:=⟨I.ok.inH ea,I.os,I.bare,I.base,I.loc,I.cell,I.free,I.freeC,I.pin,I.hok,I.len⟩
def Inv.unH{ea:Addr}(I:Inv (X.inH ea) pins σ H s)(ok:X.Ok):Inv X pins σ H s:=⟨ok,I.os,I.bare,I.base,I.loc,I.cell,I.free,I.freeC,I.pin,I.hok,I.len⟩
def SP.unH{ea:Addr}{D:Ends}{f:Flow}(h:SP (X.inH ea) pins D f s)(ok:X.Ok):SP X pins D f s:=by
 cases f with
 | next=>obtain ⟨σ',H',I,q⟩:=h;exact ⟨σ',H',I.unH ok,q⟩
 | brk=>obtain ⟨σ',H',I,q⟩:=h;exact ⟨σ',H',I.unH ok,q⟩
 | cont=>obtain ⟨σ',H',I,q⟩:=h;exact ⟨σ',H',I.unH ok,q⟩
 | ret u=>obtain ⟨v,σ',H',I,r,q⟩:=h;exact ⟨v,σ',H',I.unH ok,r,q⟩
end
end
mutual
abbrev PHs(X:Cx)(hs:List ExceptHandler)(th:Value->TS):Prop:=
 ∀ (pins:List (Addr×Obj)) (σ:St) (Hc:Hp) (sc:Shared) (H:Hp) (g:Heap) (Z:List Addr) (B:Heap) (ea t:Addr) (cls:Value) (s:Shared) (D:Ends),Land X pins σ Hc sc H g Z B ea t cls s->th cls D σ H ->
  wpAny (model X.prog X.w) X.A (handleBy (.ref ea) X.env hs) (SP X pins D) X.xe s
abbrev hNil:Value->TS:=fun _ _ _ _=>False
abbrev hCons(K:Qa)(C:Addr)(ts:TS)(tr:Value->TS):Value->TS:=fun cls D σ H=>∃ b,Jz K cls (.ref C)=some b/\if b=true then ts D σ H else tr cls D σ H
end
section
mutual
variable {X:Cx}
def ZgX:PHs X [] hNil:=fun _ _ _ _ _ _ _ _ _ _ _ _ _ _ z=>z.elim
def Zfc{x:Str}{C:Addr}{np hpos:Pos}{b0:Stmt}{suite:List Stmt}{rest:List ExceptHandler}{ts:TS}{tr:Value->TS}(hm:X.mg x=some (.ref C))(hsu:∀ ea,PSs (X.inH ea) (b0::suite) ts)(hr:PHs X rest tr)
  (hg:autoParam (Gl X x) uA._auto_1) (hdb:autoParam ((x == ("__debug__":Str))=false) uB._auto_1):PHs X (.ExceptHandler (some (.Name x np)) none (b0::suite) hpos::rest) (hCons X.K C ts tr):=by
 intro pins σ Hc sc H g Z B ea t cls s D L q;obtain ⟨b,eb,q⟩:=q;have I:=L.inv;obtain ⟨ob,hob,hcl⟩:=L.fl.there;refine wpAny_handleBy_cons (codeAny_handlers_test (Z1J (X:=X.inH ea) (I.inH ea) hg hm ?_ hdb)) (by intro z;cases z)
 have LT:PySem.W.Looks (model X.prog X.w) s.heap (typeOf (.ref ea)) cls:=by
  rw [<- hcl];exact (PySem.W.Looks.ld hob).andThen .now
 refine (PySem.W.exm_one I.kIn LT eb).here ?_
 cases b with
 | true=>
  rw [if_pos rfl] at q;refine codeAny_handlers_suite (wpAny_mono (Z2Z Z46 (lands_againW (Q:=fun _ s1=>∃ h',s1={ s with heap:=h' }/\Wq B X.stack ea cls (.ref t) h'/\s.heap.UpToSlots h') L.fl fun h' fl' up=>⟨h',rfl,fl',up⟩)) (fun _ s1 z=>?_) fun _ _ z=>z);obtain ⟨⟨h',rfl,fl',up⟩,k⟩:=z;have L':=L.step fl' up k;exact wpAny_mono (hsu ea pins _ σ H D (L'.inv.inH ea) q) (fun f s2 z=>z.unH I.ok) fun _ _ z=>z.elim
 | false=>
  rw [if_neg Ql] at q;exact hr pins σ Hc sc H g Z B ea t cls s D L q
private abbrev Cx.tr(X:Cx)(pn:List (Addr×Obj))(xe:Value->Shared->Prop):Cx:={ X with pn:=pn,xe:=xe }
abbrev tTry(tb:(St->XK)->TS)(th:Value->TS):TS:=fun D σ H=>tb (fun σ' cls _ H'=>th cls D σ' H') D σ H
def Zc4{body:List Stmt}{h0:ExceptHandler}{hs:List ExceptHandler}{pos:Pos}{tb:(St->XK)->TS}{th:Value->TS}(hstk:X.stack=X.env::X.outer)(hfr:X.env.frame=some X.env.locals)
  (hb:∀ (pn:List (Addr×Obj)) (xe:Value->Shared->Prop) (EX:St->XK),Z19 (X.tr pn xe) EX->PSs (X.tr pn xe) body (tb EX)) (hh:PHs X (h0::hs) th):PS X (.Try body (h0::hs) [] [] pos) (tTry tb th):=by
 intro pins s σ H D I q
 have toY:∀ {pins':List (Addr×Obj)} {σ':St} {H':Hp} {s':Shared} {xe:Value->Shared->Prop},Inv (X.tr (X.pn++pins) xe) pins' σ' H' s'->Inv X pins σ' H' s':=fun J=>
  ⟨I.ok,J.os,J.bare,J.base,J.loc,J.cell,J.free,J.freeC,fun p hp=>J.pin p (Qh _ hp),J.hok,J.len⟩
 refine wpAny_Try_except ?_
 refine wpAny_mono (hb (X.pn++pins) (fun e s₁=>wpAny (model X.prog X.w) X.A (noteFrame e X.env) (fun _ s₂=>wpAny (model X.prog X.w) X.A (setFlight e none) (fun _ s₃=>wpAny (model X.prog X.w) X.A (handleBy e X.env (h0::hs)) (SP X pins D) X.xe s₃) X.xe s₂) X.xe s₁)
  (fun σ' cls _ H'=>th cls D σ' H') ?_ [] s σ H D ?_ q) (fun fl s1 z=>?_) fun _ _ z=>z
 .rintro pins' σ' Hc sc e s' J ⟨ea,cls,H',g,Z,rfl,os,bare,un,hok,dom,zz,tr,⟨B,t,fl,hB⟩,dn,q'⟩
  have I':Inv X pins σ' Hc sc:=toY J;have frm:X.A.frames=some (X.env::X.outer):=by rw [<- hstk];exact I.ok.frames
  have L:Land X pins σ' Hc sc H' g Z B ea t cls s':=⟨I',os,bare,un,hok,dom,zz,tr,hB,fl,dn⟩;have fl0:Wq B (X.env::X.outer) ea cls (.ref t) s'.heap:=by rw [<- hstk];exact fl
  refine wpAny_mono (Z2Z Zaw (wpAny_looks_onW (Q:=fun _ s4=>∃ h4,s4={ s' with heap:=h4 }/\Heap.HeldW B (X.env::X.outer) ea cls (.ref t) X.env.locals h4/\s'.heap.UpToSlots h4) frm hfr fl0 fun h4 held up4=>⟨h4,rfl,held,up4⟩)) (fun _ s4 z=>?_) fun _ _ z=>z;obtain ⟨⟨h4,rfl,held,up4⟩,k4⟩:=z;refine wpAny_mono (Z2Z Z46 (wpAny_landsW (Q:=fun _ s5=>∃ h5,s5={ s' with heap:=h5 }/\Wq B (X.env::X.outer) ea cls (.ref t) h5/\h4.UpToSlots h5) held fun h5 fl5 up5=>⟨h5,rfl,fl5,up5⟩)) (fun _ s5 z=>?_) fun _ _ z=>z;obtain ⟨⟨h5,rfl,fl5,up5⟩,k5⟩:=z;have fl5':Wq B X.stack ea cls (.ref t) h5:=by rw [hstk];exact fl5
  exact hh pins σ' Hc sc H' g Z B ea t cls _ D (L.step fl5' (up4.trans up5) (k4.trans k5)) q'
 .exact ⟨⟨I.ok.mod,I.ok.kind,I.ok.glob,I.ok.blt,I.ok.above,I.ok.inj,I.ok.has,I.ok.cab,I.ok.hd,I.ok.frames,I.ok.stk,I.ok.exf,I.ok.bs,I.ok.bsz,I.ok.noex,I.ok.exfs,I.ok.funs,I.ok.frf⟩,
   I.os,I.bare,I.base,I.loc,I.cell,I.free,I.freeC,fun p hp=>I.pin p (by simpa using hp),I.hok,I.len⟩
 .cases fl with
  | next=>obtain ⟨σ',H',J,q⟩:=z;exact wpAny_execs_nil ⟨σ',H',toY J,q⟩
  | brk=>obtain ⟨σ',H',J,q⟩:=z;exact ⟨σ',H',toY J,q⟩
  | cont=>obtain ⟨σ',H',J,q⟩:=z;exact ⟨σ',H',toY J,q⟩
  | ret u=>obtain ⟨v,σ',H',J,r,q⟩:=z;exact ⟨v,σ',H',toY J,r,q⟩
end
end
section
mutual
variable {X:Cx}
def Z89:∀ {bs:List Bool} {us:List Value} (i:Nat) (v:Value),Vals (bs.map V.bl) us->us[i]?=some v->∃ b,bs[i]?=some b/\v=.bool b
 | [],_,i,v,r,e=>by cases r;simp at e
 | b::bs,u::_,0,v,.cons r t,e=>by
  have e':u=v:=by simpa using e
  subst e';exact ⟨b,rfl,r⟩
 | b::bs,_,i + 1,v,.cons r t,e=>by
  obtain ⟨c,h1,h2⟩:=Z89 i v t (by simpa using e);exact ⟨c,by simpa using h1,h2⟩
def call_all(hc:X.calm=true):Z0f X (.builtin "all") (fun xs H Q=>∃ (p:Addr) (bs:List Bool),xs=[.ref p]/\SqL X.K H p (bs.map V.bl)/\Q (.bl (bs.all id)) H):=by
 intro pins s σ H xs us Q I r h;obtain ⟨p,bs,rfl,hq,q⟩:=h;obtain ⟨u,rfl,ru⟩:=vals1 r;cases ru;obtain ⟨its,rv,pl,hz⟩:=I.list hq;have hl:=pl.isList;have hlt:p < s.heap.objs.size:=by obtain ⟨_,e,_⟩:=hl;exact Qz e
 refine call_all_walk (wpAny_pyIter_list hl ?_)
 refine ⟨s.heap.objs.size,[s.heap.objs.size,p],[s.heap.objs.size],its.toArray.size,_,_,fun i=>(bs[i]?).getD true,rfl,Walks.list (A:=X.A.in1) (I.ok.hd hc) _ p (Jc hlt) its.toArray,
  ⟨⟨_,Qy _ rfl,rfl,rfl⟩,hl.push _⟩,fun i v s' Q' E' hP hQ=>?_,fun h' tk hk=>?_⟩
 .obtain ⟨b,e,rfl⟩:=Z89 i v rv (by simpa using hP)
  have hQ:Q' ((bs[i]?).getD true) s':=hQ;rw [e] at hQ;exact wpAny_truthy_bool hQ
 .have e:((List.range its.toArray.size).all fun i=>(bs[i]?).getD true)=bs.all id:=by
   have hlen:=rv.length;rw [Qx] at hlen;rw [Jh,<- hlen];exact LSm.range_all bs
  rw [e];exact ⟨.bl (bs.all id),H,I.kept (LSm.kept_iter hk),rfl,q⟩
end
end
namespace KQ
theorem call_all{X:Cx}(K:Qa)(hc:X.calm=true)(hK:autoParam (X.K=K) uA._auto_1):Z0f X (.builtin "all") (fun xs H Q=>∃ (p:Addr) (bs:List Bool),xs=[.ref p]/\SqL K H p (bs.map V.bl)/\Q (.bl (bs.all id)) H):=by subst hK;exact L2.call_all hc
end KQ
mutual
inductive Dt where
 | non | bl (b:Bool) | int (i:Int) | str (x:Str) | lst (l:List Dt) | tup (l:List Dt)
set_option genCtorIdx true in set_option genInjectivity false in gen_injective_theorems% Dt
mutual
abbrev Dt.dep:Dt->Nat
 | .lst l=>Dt.deps l + 1
 | .tup l=>Dt.deps l + 1
 | _=>1
abbrev Dt.deps:List Dt->Nat
 | []=>0
 | d::r=>max d.dep (Dt.deps r)
end
mutual
abbrev Z0T(H:Hp):Dt->V->Prop
 | .non,x=>x=.non
 | .bl b,x=>x=.bl b
 | .int i,x=>x=.int i
 | .str y,x=>x=.str y
 | .lst l,x=>∃ a xs,x=.ref a/\H a=some (.lst xs)/\xs.length < sizeLine/\Z13 H l xs
 | .tup l,x=>∃ a xs,x=.ref a/\H a=some (.tup xs)/\xs.length < sizeLine/\Z13 H l xs
abbrev Z13(H:Hp):List Dt->List V->Prop
 | [],[]=>True
 | d::l,v::r=>Z0T H d v/\Z13 H l r
 | _,_=>False
end
def Z13.length{H:Hp}:∀ {l:List Dt} {xs:List V},Z13 H l xs->xs.length=l.length
 | [],[],_=>rfl
 | [],_::_,h=>h.elim
 | _::_,[],h=>h.elim
 | d::l,v::r,h=>by simp [Z13.length (l:=l) (xs:=r) h.2]
def Z13.get{H:Hp}:∀ {l:List Dt} {xs:List V} {i:Nat} {d:Dt},Z13 H l xs->l[i]?=some d->∃ v,xs[i]?=some v/\Z0T H d v
 | [],_,_,_,_,e=>by simp at e
 | _::_,[],_,_,h,_=>h.elim
 | d::l,v::r,0,d',h,e=>by
  have e':d=d':=by simpa using e
  subst e';exact ⟨v,rfl,h.1⟩
 | d::l,v::r,i + 1,d',h,e=>by
  obtain ⟨u,h1,h2⟩:=Z13.get (l:=l) (xs:=r) (i:=i) (d:=d') h.2 (by simpa using e);exact ⟨u,by simpa using h1,h2⟩
mutual
def Z0T.keep{H H':Hp}(k:∀ a xs,(H a=some (.lst xs)->H' a=some (.lst xs))/\(H a=some (.tup xs)->H' a=some (.tup xs))):∀ {d:Dt} {x:V},Z0T H d x->Z0T H' d x
 | .non,_,h=>h
 | .bl _,_,h=>h
 | .int _,_,h=>h
 | .str _,_,h=>h
 | .lst l,_,⟨a,xs,e,h1,z,h2⟩=>⟨a,xs,e,(k a xs).1 h1,z,Z13.keep k h2⟩
 | .tup l,_,⟨a,xs,e,h1,z,h2⟩=>⟨a,xs,e,(k a xs).2 h1,z,Z13.keep k h2⟩
def Z13.keep{H H':Hp}(k:∀ a xs,(H a=some (.lst xs)->H' a=some (.lst xs))/\(H a=some (.tup xs)->H' a=some (.tup xs))):∀ {l:List Dt} {xs:List V},Z13 H l xs->Z13 H' l xs
 | [],[],_=>trivial
 | [],_::_,h=>h.elim
 | _::_,[],h=>h.elim
 | d::l,v::r,h=>⟨Z0T.keep k h.1,Z13.keep k h.2⟩
end
def Z0T.same{H H':Hp}(sm:Z11 H H'){d:Dt}{x:V}(h:Z0T H d x):Z0T H' d x:=h.keep fun a xs=>⟨fun e=>sm _ _ e,fun e=>sm _ _ e⟩
def Dt.deps_le{l:List Dt}{i:Nat}{d:Dt}(h:l[i]?=some d):d.dep<=Dt.deps l:=by
 induction l generalizing i with
 | nil=>simp at h
 | cons e r ih=>
  cases i with
  | zero=>
   have:e=d:=by simpa using h
   subst this;unfold Dt.deps;omega
  | succ i=>
   have:=ih (i:=i) (by simpa using h);unfold Dt.deps;omega
def Dt.dep_pos(d:Dt):1<=d.dep:=by cases d <;> simp [Dt.dep]
def Z8a{P:Program}{w:World}{outer:List Env}{H:Hp}{s:Shared}{e:Value}{s':Shared}(z:CX1 P w outer H s (fun _ _ _=>False) e s'):False:=by
 obtain ⟨_,_,_,_,_,_,_,_,_,_,_,_,_,_,_,q⟩:=z;exact q
end
section
mutual
variable {X:Cx}{K:Qa}{C:Addr}{e o value:Expr}{ta tv:TE}{f:Str}{pos pos':Pos}
abbrev Z2G(C:Addr)(ta:TE)(f:Str):TE:=fun σ H Q=>ta σ H fun x H1=>∃ a dx fs v,x=.ref a/\H1 a=some (.ins C dx fs)/\fs.lookup f=some v/\Q v H1
def Z4o(c:Cls K C)(n:Zv K C f)(he:PE X e ta)(hb:autoParam (attributeBase e f X.env (eval e X.env)=eval e X.env) uA._auto_1)(hK:autoParam (X.K=K) uA._auto_1):PE X (.Attribute e f pos) (Z2G C ta f):=by
 subst hK;intro pins s σ H Q I h;refine Zeb hb (thn (he pins s σ H _ I h) fun u s1 ⟨x,H1,I1,rx,a,dx,fs,v,ex,ea,l,q⟩=>?_);subst ex;cases (show u=Value.ref a from rx);exact ZaI I1 ea c n l fun u' s2 I2 ru=>⟨v,H1,I2,ru,q⟩
abbrev sFldC(C:Addr)(ta tv:TE)(f:Str):TS:=fun D σ H=>tv σ H fun y H1=>ta σ H1 fun x H2=>∃ a dx fs,x=.ref a/\H2 a=some (.ins C dx fs)/\fs.length < 1000/\D.nx σ (upd H2 a (.ins C dx (Z1g f y fs)))
def Zfi(c:Cls K C)(n:Zv K C f)(ha:PE X o ta)(hv:PE X value tv)(hs:autoParam (swapsWith value (some (.Attribute o f pos')) pos.line X.env=pure false) uA._auto_1)(hK:autoParam (X.K=K) uA._auto_1) :
  PS X (.Assign [.Attribute o f pos'] value pos) (sFldC C ta tv f):=by
 subst hK;intro pins s σ H D I h;refine plainObj_wpAny_Assign_Attribute (thn (hv pins s σ H _ I h) fun u s1 ⟨y,H1,I1,ry,q⟩=>thn (ha pins s1 σ H1 _ I1 q) fun ov s2 ⟨x,H2,I2,rx,a,dx,fs,ex,ea,l,q2⟩=>?_) hs;subst ex;cases (show ov=Value.ref a from rx);exact ZaS I2 ea c n l ry fun s3 I3=>⟨σ,_,I3,q2⟩
end
end
namespace KQ
theorem ix_seq{X:Cx}(K:Qa)(hK:autoParam (X.K=K) uA._auto_1):IxR X (rIx K):=by subst hK;exact L2.ix_seq
end KQ
mutual
def Z11.seqT{K:Qa}{H H':Hp}{a:Addr}{xs:List V}(e:Z11 H H')(h:SqT K H a xs):SqT K H' a xs:=by
 rcases h with (h | ⟨o,h⟩) | h
 .exact .inl (.inl (e _ _ h))
 .exact .inl (.inr ⟨o,e _ _ h⟩)
 .exact .inr h
abbrev Dt.ty:Dt->String
 | .non => "NoneType" | .bl _ => "bool" | .int _ => "int" | .str _ => "str" | .lst _ => "list" | .tup _ => "tuple"
def Z0T.ty{H:Hp}:∀ {d:Dt} {x:V},Z0T H d x->IsTy H x d.ty
 | .non,_,h=>by cases (show _=V.non from h);rfl
 | .bl b,_,h=>by cases (show _=V.bl b from h);rfl
 | .int i,_,h=>by cases (show _=V.int i from h);rfl
 | .str y,_,h=>by cases (show _=V.str y from h);rfl
 | .lst l,_,⟨a,xs,e,h1,_⟩=>by subst e;exact .inl ⟨rfl,xs,h1⟩
 | .tup l,_,⟨a,xs,e,h1,_⟩=>by subst e;exact .inr (.inl ⟨rfl,xs,h1⟩)
abbrev Dt.isL:Dt->Bool
 | .lst _=>true
 | _=>false
abbrev Dt.isT:Dt->Bool
 | .tup _=>true
 | _=>false
abbrev Dt.isB:Dt->Bool
 | .bl _=>true
 | _=>false
abbrev Dt.isS:Dt->Bool
 | .str _=>true
 | _=>false
abbrev Dt.isN:Dt->Bool
 | .non=>true
 | _=>false
abbrev Dt.isI:Dt->Bool
 | .int _=>true
 | _=>false
def Zdw:∀ N∈["NoneType","bool","int","str","list","tuple"],∀ T∈["list","tuple","bool","str","int"],(kit0 N T).isSome=true:=by decide +kernel
def Dt.ty_mem(d:Dt):d.ty∈["NoneType","bool","int","str","list","tuple"]:=by cases d <;> simp [Dt.ty]
def Dt.kit(d:Dt){T:String}(h:T∈["list","tuple","bool","str","int"]):(kit0 d.ty T).isSome=true:=Zdw _ d.ty_mem _ h
def Dt.sub_list(d:Dt):subT d.ty "list"=d.isL:=by cases d <;> (first | rfl | decide +kernel | (simp only [Dt.ty,Dt.isL];decide +kernel))
def Dt.sub_tuple(d:Dt):subT d.ty "tuple"=d.isT:=by cases d <;> (simp only [Dt.ty,Dt.isT];decide +kernel)
def Dt.sub_str(d:Dt):subT d.ty "str"=d.isS:=by cases d <;> (simp only [Dt.ty,Dt.isS];decide +kernel)
def Dt.sub_int(d:Dt):subT d.ty "int"=(d.isI || d.isB):=by cases d <;> (simp only [Dt.ty,Dt.isI,Dt.isB];decide +kernel)
def Z0T.isNon{H:Hp}{d:Dt}{x:V}(h:Z0T H d x):decide (x=V.non)=d.isN:=by
 cases d with
 | non=>cases (show x=V.non from h);rfl
 | bl b=>cases (show x=V.bl b from h);rfl
 | int i=>cases (show x=V.int i from h);rfl
 | str y=>cases (show x=V.str y from h);rfl
 | lst l=>obtain ⟨a,xs,e,_⟩:=h;subst e;rfl
 | tup l=>obtain ⟨a,xs,e,_⟩:=h;subst e;rfl
end
end L2
namespace RM
open PySem PySem.Spec PyProof.Rows L2
mutual
inductive NK where
 | tup | lst (m:Bool) | dic (m:Bool) (ks:List Key) | dit (m:Bool) (ks:List (List Key)) | ins (m:Bool) (C:Addr) (ns:List Str)
 | kst (K:Qa)
 | lnk (a:Addr) (l:Str)
set_option genCtorIdx true in set_option genInjectivity false in gen_injective_theorems% NK
inductive D where
 | at (v:V) | nd (k:NK) (l:List D)
set_option genCtorIdx true in set_option genInjectivity false in gen_injective_theorems% D
inductive T where
 | at (v:V) | nd (a:Addr) (k:NK) (l:List T)
set_option genCtorIdx true in set_option genInjectivity false in gen_injective_theorems% T
noncomputable instance:Inhabited T:=⟨.at .non⟩
noncomputable instance:Inhabited D:=⟨.at .non⟩
abbrev NK.mut:NK->Bool
 | .tup=>false | .lst m=>m | .dic m _=>m | .dit m _=>m | .ins m _ _=>m | .kst _=>false | .lnk _ _=>false
abbrev NK.out:NK->Bool
 | .kst _=>true | .lnk _ _=>true | _=>false
def NK.mut_out{k:NK}(h:k.mut=true):k.out=false:=by cases k <;> first | rfl | cases h
abbrev NodeOk(H:Hp)(a:Addr):NK->List V->Prop
 | .tup,vs=>H a=some (.tup vs)
 | .lst true,vs=>H a=some (.lst vs)
 | .lst false,vs=>Rd H a (.lst vs)
 | .dic _ ks,vs=>ks.length=vs.length/\ks.Nodup/\H a=some (.dK (ks.zip vs))
 | .dit _ ks,vs=>ks.length=vs.length/\ks.Nodup/\H a=some (.dT (ks.zip vs))
 | .ins _ C ns,vs=>ns.length=vs.length/\∃ dx,H a=some (.ins C dx (ns.zip vs))
 | .kst K,vs=>∃ (o:Obj) (its:Array Value) (n:Nat),K.lookup a=some o/\o.cls=.type "list"/\o.dict=none/\o.data=.seq its n/\its.size<=sizeLine/\Vals vs its.toList
 | .lnk b _,vs=>a=b/\vs=[]
def NodeOk.keep{H H':Hp}{a:Addr}{k:NK}{vs:List V}(h:NodeOk H a k vs)(e:k.out=true\/H' a=H a):NodeOk H' a k vs:=by
 rcases e with e | e
 .cases k with
  | kst K=>exact h
  | lnk b l=>exact h
  | _=>cases e
 cases k with
 | tup=>exact e.trans h
 | lst m=>cases m with
  | true=>exact e.trans h
  | false=>unfold NodeOk Rd at *;rw [e];exact h
 | dic m ks=>exact ⟨h.1,h.2.1,e.trans h.2.2⟩
 | dit m ks=>exact ⟨h.1,h.2.1,e.trans h.2.2⟩
 | ins m C ns=>obtain ⟨h1,dx,h2⟩:=h;exact ⟨h1,dx,e.trans h2⟩
 | kst K=>exact h
 | lnk b l=>exact h
def NodeOk.some{H:Hp}{a:Addr}{k:NK}{vs:List V}(h:NodeOk H a k vs)(hk:k.out=false):H a≠none:=by
 cases k with
 | tup=>rw [show H a=_ from h];simp
 | lst m=>cases m with
  | true=>rw [show H a=_ from h];simp
  | false=>rcases h with h | ⟨o,h⟩ <;> (rw [h];simp)
 | dic m ks=>rw [h.2.2];simp
 | dit m ks=>rw [h.2.2];simp
 | ins m C ns=>obtain ⟨h1,dx,h2⟩:=h;rw [h2];simp
 | kst K=>cases hk
 | lnk b l=>cases hk
abbrev cl:V->V
 | .ref _=>.flt 0 | v=>v
abbrev T.val:T->V
 | .at v=>v | .nd a _ _=>.ref a
mutual
abbrev T.er:T->D
 | .at v=>.at (cl v) | .nd _ k l=>.nd k (T.ers l)
abbrev T.ers:List T->List D
 | []=>[] | t::r=>t.er::T.ers r
end
mutual
abbrev T.own:T->List Addr
 | .at _=>[] | .nd a k l=>(if k.mut then [a] else [])++T.owns l
abbrev T.owns:List T->List Addr
 | []=>[] | t::r=>t.own++T.owns r
end
mutual
abbrev T.ro:T->List Addr
 | .at _=>[] | .nd a k l=>(if k.mut || k.out then [] else [a])++T.ros l
abbrev T.ros:List T->List Addr
 | []=>[] | t::r=>t.ro++T.ros r
end
mutual
abbrev T.ok(H:Hp):T->Prop
 | .at _=>True | .nd a k l=>NodeOk H a k (l.map T.val)/\T.oks H l
abbrev T.oks(H:Hp):List T->Prop
 | []=>True | t::r=>t.ok H/\T.oks H r
end
mutual
abbrev D.imm:D->Bool
 | .at _=>true | .nd k l=>!k.mut && D.imms l
abbrev D.imms:List D->Bool
 | []=>true | t::r=>t.imm && D.imms r
end
def T.owns_cons{t:T}{r:List T}:T.owns (t::r)=t.own++T.owns r:=rfl
def T.ros_cons{t:T}{r:List T}:T.ros (t::r)=t.ro++T.ros r:=rfl
def T.ers_eq:∀ l:List T,T.ers l=l.map T.er
 | []=>rfl
 | t::r=>by rw [T.ers,T.ers_eq r];rfl
def T.oks_iff{H:Hp}:∀ {l:List T},T.oks H l↔∀ t∈l,t.ok H
 | []=>by simp [T.oks]
 | t::r=>by simp only [T.oks,T.oks_iff (l:=r),Jb,forall_eq_or_imp]
def T.owns_app:∀ l m:List T,T.owns (l++m)=T.owns l++T.owns m
 | [],m=>rfl
 | t::r,m=>by simp only [Jm,T.owns,T.owns_app r m,Qn]
def T.ros_app:∀ l m:List T,T.ros (l++m)=T.ros l++T.ros m
 | [],m=>rfl
 | t::r,m=>by simp only [Jm,T.ros,T.ros_app r m,Qn]
def T.oks_app{H:Hp}{l m:List T}:T.oks H (l++m)↔T.oks H l/\T.oks H m:=by
 simp only [T.oks_iff,Qf];exact ⟨fun h=>⟨fun t z=>h t (.inl z),fun t z=>h t (.inr z)⟩,fun h t z=>z.elim (h.1 t) (h.2 t)⟩
def T.mem_owns{a:Addr}:∀ {l:List T},a∈T.owns l↔∃ t∈l,a∈t.own
 | []=>by simp [T.owns]
 | t::r=>by simp only [T.owns,Qf,T.mem_owns (l:=r),Jb,exists_eq_or_imp]
def T.mem_ros{a:Addr}:∀ {l:List T},a∈T.ros l↔∃ t∈l,a∈t.ro
 | []=>by simp [T.ros]
 | t::r=>by simp only [T.ros,Qf,T.mem_ros (l:=r),Jb,exists_eq_or_imp]
mutual
def T.keep{H H':Hp}:∀ {t:T},t.ok H->(∀ a,a∈t.own\/a∈t.ro->H' a=H a)->t.ok H'
 | .at _,_,_=>trivial
 | .nd a k l,h,e=>by
  refine ⟨h.1.keep (by
   cases ko:k.out with
   | true=>exact .inl rfl
   | false=>
    refine .inr (e a ?_);unfold T.own T.ro;rw [ko];cases k.mut <;> simp),T.keeps h.2 fun b hb=>e b ?_⟩
  .unfold T.own T.ro
   rcases hb with hb | hb
   .exact .inl (Qe _ hb)
   .exact .inr (Qe _ hb)
def T.keeps{H H':Hp}:∀ {l:List T},T.oks H l->(∀ a,a∈T.owns l\/a∈T.ros l->H' a=H a)->T.oks H' l
 | [],_,_=>trivial
 | t::r,h,e=>by
  refine ⟨T.keep h.1 fun a z=>e a ?_,T.keeps h.2 fun a z=>e a ?_⟩
  .unfold T.owns T.ros
   rcases z with z | z
   .exact .inl (Qh _ z)
   .exact .inr (Qh _ z)
  .unfold T.owns T.ros
   rcases z with z | z
   .exact .inl (Qe _ z)
   .exact .inr (Qe _ z)
end
mutual
def T.there{H:Hp}{a:Addr}:∀ {t:T},t.ok H->(a∈t.own\/a∈t.ro)->H a≠none
 | .at _,_,z=>by simp [T.own,T.ro] at z
 | .nd b k l,h,z=>by
  unfold T.own T.ro at z
  have:(a=b/\k.out=false)\/a∈T.owns l\/a∈T.ros l:=by
   rcases z with z | z
   .rcases Qf.mp z with z | z
    .left
     cases hm:k.mut with
     | true=>rw [hm] at z;exact ⟨by simpa using z,NK.mut_out hm⟩
     | false=>rw [hm] at z;simp at z
    .exact .inr (.inl z)
   .rcases Qf.mp z with z | z
    .left
     cases hm:(k.mut || k.out) with
     | true=>rw [hm] at z;simp at z
     | false=>rw [hm] at z;exact ⟨by simpa using z,by simp at hm;exact hm.2⟩
    .exact .inr (.inr z)
  rcases this with ⟨rfl,ko⟩ | z
  .exact h.1.some ko
  .exact T.theres h.2 z
def T.theres{H:Hp}{a:Addr}:∀ {l:List T},T.oks H l->(a∈T.owns l\/a∈T.ros l)->H a≠none
 | [],_,z=>by simp [T.owns,T.ros] at z
 | t::r,h,z=>by
  unfold T.owns T.ros at z;rcases z with z | z
  .rcases Qf.mp z with z | z
   .exact T.there h.1 (.inl z)
   .exact T.theres h.2 (.inl z)
  .rcases Qf.mp z with z | z
   .exact T.there h.1 (.inr z)
   .exact T.theres h.2 (.inr z)
end
mutual
def T.imm_own:∀ {t:T},t.er.imm=true->t.own=[]
 | .at _,_=>rfl
 | .nd a k l,h=>by
  simp only [T.er,D.imm,Ja,Wy] at h;simp only [T.own,h.1,T.imms_own h.2];rfl
def T.imms_own:∀ {l:List T},D.imms (T.ers l)=true->T.owns l=[]
 | [],_=>rfl
 | t::r,h=>by
  simp only [T.ers,D.imms,Ja] at h;simp only [T.owns,T.imm_own h.1,T.imms_own h.2];rfl
end
abbrev D.get:List Nat->D->Option D
 | [],d=>some d
 | i::p,.nd _ l=>match l[i]? with | some c=>c.get p | none=>none
 | _::_,.at _=>none
abbrev T.get:List Nat->T->Option T
 | [],d=>some d
 | i::p,.nd _ _ l=>match l[i]? with | some c=>c.get p | none=>none
 | _::_,.at _=>none
abbrev D.put(s:D):List Nat->D->D
 | [],_=>s
 | i::p,.nd k l=>match l[i]? with | some c=>.nd k (l.set i (D.put s p c)) | none=>.nd k l
 | _::_,.at v=>.at v
abbrev T.put(s:T):List Nat->T->T
 | [],_=>s
 | i::p,.nd a k l=>match l[i]? with | some c=>.nd a k (l.set i (T.put s p c)) | none=>.nd a k l
 | _::_,.at v=>.at v
def T.get_er:∀ (p:List Nat) (t:T),t.er.get p=(t.get p).map T.er
 | [],t=>rfl
 | i::p,.at v=>rfl
 | i::p,.nd a k l=>by
  simp only [T.er,D.get,T.get,T.ers_eq,Qc]
  cases e:l[i]? with
  | none=>rfl
  | some c=>exact T.get_er p c
def T.put_er(s:T):∀ (p:List Nat) (t:T),(T.put s p t).er=D.put s.er p t.er
 | [],t=>rfl
 | i::p,.at v=>rfl
 | i::p,.nd a k l=>by
  simp only [T.er,D.put,T.put,T.ers_eq,Qc]
  cases e:l[i]? with
  | none=>simp only [Option.map_none,T.er,T.ers_eq]
  | some c=>simp only [Qu,T.er,T.ers_eq,Wk,T.put_er s p c]
def T.put_val{s s':T}:∀ {p:List Nat} {t:T},t.get p=some s->s'.val=s.val->(T.put s' p t).val=t.val
 | [],t,h,e=>by cases h;exact e
 | i::p,.at v,h,e=>rfl
 | i::p,.nd a k l,h,e=>by
  simp only [T.put];cases l[i]? <;> rfl
def T.get_ok{H:Hp}{s:T}:∀ {p:List Nat} {t:T},t.get p=some s->t.ok H->s.ok H
 | [],t,h,e=>by cases h;exact e
 | i::p,.at v,h,e=>by cases h
 | i::p,.nd a k l,h,e=>by
  simp only [T.get] at h
  cases q:l[i]? with
  | none=>rw [q] at h;cases h
  | some c=>rw [q] at h;exact T.get_ok h (T.oks_iff.mp e.2 c (Qg q))
def T.get_app:∀ (p q:List Nat) (d:T),d.get (p++q)=(d.get p).bind (T.get q)
 | [],q,d=>rfl
 | i::p,q,.at v=>rfl
 | i::p,q,.nd _ k l=>by
  simp only [Jm,T.get]
  cases e:l[i]? with
  | none=>rfl
  | some c=>exact T.get_app p q c
def T.owns_get{i:Nat}{c:T}:∀ {l:List T},l[i]?=some c->∃ x y,T.owns l=x++(c.own++y)/\∀ c',T.owns (l.set i c')=x++(c'.own++y):=by
 induction i with
 | zero=>
  intro l h
  match l,h with
  | t::r,h=>
   cases h;exact ⟨[],T.owns r,rfl,fun c'=>rfl⟩
 | succ i ih=>
  intro l h
  match l,h with
  | t::r,h=>
   obtain ⟨x,y,e,f⟩:=ih (l:=r) (by simpa using h);exact ⟨t.own++x,y,by simp only [T.owns,e,Qn],fun c'=>by simp only [Nk,T.owns,f c',Qn]⟩
def T.ros_get{i:Nat}{c:T}:∀ {l:List T},l[i]?=some c->∃ x y,T.ros l=x++(c.ro++y)/\∀ c',T.ros (l.set i c')=x++(c'.ro++y):=by
 induction i with
 | zero=>
  intro l h
  match l,h with
  | t::r,h=>
   cases h;exact ⟨[],T.ros r,rfl,fun c'=>rfl⟩
 | succ i ih=>
  intro l h
  match l,h with
  | t::r,h=>
   obtain ⟨x,y,e,f⟩:=ih (l:=r) (by simpa using h);exact ⟨t.ro++x,y,by simp only [T.ros,e,Qn],fun c'=>by simp only [Nk,T.ros,f c',Qn]⟩
structure Ctx(t:T)(p:List Nat)(s:T)(c r:List Addr):Prop where
 own:t.own.Perm (c++s.own)
 ro:t.ro.Perm (r++s.ro)
 own':∀ s',(T.put s' p t).own.Perm (c++s'.own)
 ro':∀ s',(T.put s' p t).ro.Perm (r++s'.ro)
 ok:∀ {H H':Hp} {s':T},t.ok H->(∀ a,a∈c\/a∈r->H' a=H a)->s'.ok H'->s'.val=s.val->(T.put s' p t).ok H'
def pm3{α:Type}{x y a c:List α}{k:List α}(h:a.Perm (c++k)):(x++(a++y)).Perm ((x++(c++y))++k):=by
 rw [Qn];refine List.Perm.append_left x ?_;refine (h.append_right y).trans ?_;rw [Qn,Qn];exact List.Perm.append_left c Wf
def T.ctx{s:T}:∀ {p:List Nat} {t:T},t.get p=some s->∃ c r,Ctx t p s c r
 | [],t,h=>by
  cases h;exact ⟨[],[],.refl _,.refl _,fun _=>.refl _,fun _=>.refl _,fun _ _ h _=>h⟩
 | i::p,.at v,h=>by cases h
 | i::p,.nd a k l,h=>by
  simp only [T.get] at h
  cases q:l[i]? with
  | none=>rw [q] at h;cases h
  | some ch=>
   rw [q] at h;obtain ⟨c,r,C⟩:=T.ctx (p:=p) h;obtain ⟨x,y,e1,e2⟩:=T.owns_get q;obtain ⟨x',y',f1,f2⟩:=T.ros_get q;have put:∀ s',T.put s' (i::p) (.nd a k l)=.nd a k (l.set i (T.put s' p ch)):=fun s'=>by simp only [T.put,q]
   refine ⟨(if k.mut then [a] else [])++(x++(c++y)),(if k.mut || k.out then [] else [a])++(x'++(r++y')),?_,?_,fun s'=>?_,fun s'=>?_,fun {H H' s'} ho he hs hv=>?_⟩
   .simp only [T.own,e1];rw [Qn];exact List.Perm.append_left _ (pm3 C.own)
   .simp only [T.ro,f1];rw [Qn];exact List.Perm.append_left _ (pm3 C.ro)
   .rw [put];simp only [T.own,e2];rw [Qn];exact List.Perm.append_left _ (pm3 (C.own' s'))
   .rw [put];simp only [T.ro,f2];rw [Qn];exact List.Perm.append_left _ (pm3 (C.ro' s'))
   .rw [put]
    have hm:=Qg q
    have hch:(T.put s' p ch).ok H':=C.ok (T.oks_iff.mp ho.2 ch hm) (fun b hb=>he b (by
     rcases hb with hb | hb
     .exact .inl (by simp [hb])
     .exact .inr (by simp [hb]))) hs hv
    have hvs:(l.set i (T.put s' p ch)).map T.val=l.map T.val:=by
     rw [Wk,T.put_val h hv];refine Wr fun j=>?_;rw [Qp];by_cases hj:i=j
     .subst hj
      rw [if_pos rfl,Qc,q,if_pos (by simpa using (Qd.mp q).1)];rfl
     .rw [if_neg hj]
    refine ⟨?_,T.oks_iff.mpr fun t ht=>?_⟩
    .rw [hvs]
     refine ho.1.keep ?_
     cases ko:k.out with
     | true=>exact .inl rfl
     | false=>
      refine .inr (he a ?_);rw [ko];cases k.mut <;> simp
    .obtain ⟨j,hj⟩:=Jg.mp ht
     rw [Qp] at hj;by_cases hij:i=j
     .rw [if_pos hij] at hj
      split at hj
      .cases hj;exact hch
      .cases hj
     .rw [if_neg hij] at hj
      have tok:=T.oks_iff.mp ho.2 t (Qg hj);refine T.keep tok fun b hb=>he b ?_;rcases hb with hb | hb
      .left
       have h2:b∈T.owns (l.set i (.at .non)):=T.mem_owns.mpr ⟨t,Qg (by rw [Qp,if_neg hij];exact hj),hb⟩;rw [e2] at h2;simp only [T.own,Jq,Qf] at h2 ⊢;rcases h2 with h2 | h2 <;> simp [h2]
      .right
       have h2:b∈T.ros (l.set i (.at .non)):=T.mem_ros.mpr ⟨t,Qg (by rw [Qp,if_neg hij];exact hj),hb⟩;rw [f2] at h2;simp only [T.ro,Jq,Qf] at h2 ⊢;rcases h2 with h2 | h2 <;> simp [h2]
inductive DL where
 | non | own (w:Bool) (d:D) | bor (k:Nat) (p:List Nat)
set_option genCtorIdx true in set_option genInjectivity false in gen_injective_theorems% DL
inductive TL where
 | non | own (w:Bool) (t:T) | bor (k:Nat) (p:List Nat) (a:Addr)
set_option genCtorIdx true in set_option genInjectivity false in gen_injective_theorems% TL
inductive DV where
 | val (d:D) | plc (k:Nat) (p:List Nat)
set_option genCtorIdx true in set_option genInjectivity false in gen_injective_theorems% DV
inductive TV where
 | val (t:T) | plc (k:Nat) (p:List Nat) (a:Addr)
set_option genCtorIdx true in set_option genInjectivity false in gen_injective_theorems% TV
private abbrev Sd:=List DL
private abbrev Ts:=List TL
abbrev TL.er:TL->DL
 | .non=>.non | .own w t=>.own w t.er | .bor k p _=>.bor k p
abbrev TV.er:TV->DV
 | .val t=>.val t.er | .plc k p _=>.plc k p
abbrev TL.own1:TL->List Addr
 | .own true t=>t.own | _=>[]
abbrev TL.ro1:TL->List Addr
 | .own _ t=>t.ro | _=>[]
abbrev TL.rd1:TL->List Addr
 | .own false t=>t.own | _=>[]
abbrev Ze(ts:Ts):List Addr:=ts.flatMap TL.own1
abbrev roS(ts:Ts):List Addr:=ts.flatMap TL.ro1
abbrev rdS(ts:Ts):List Addr:=ts.flatMap TL.rd1
abbrev TV.tr:TV->List T
 | .val t=>[t] | .plc _ _ _=>[]
abbrev PlOk(ts:Ts)(k:Nat)(p:List Nat)(a:Addr):Prop:=∃ w t s,ts[k]?=some (.own w t)/\t.get p=some s/\s.val=.ref a
abbrev TL.v:TL->Option V
 | .non=>none | .own _ t=>some t.val | .bor _ _ a=>some (.ref a)
abbrev Z08(ts:Ts)(v:V):TV->Prop
 | .val t=>v=t.val
 | .plc k p a=>v=.ref a/\PlOk ts k p a
structure RC where
 H0:Hp
 G:Addr->Prop
 B:Addr->Prop
 EX:L2.St->XK
 ad:Str->Addr
structure Cf(R:RC)(ix:List Nat)(hd:List (Nat×Addr))(H:Hp)(σ:L2.St)(ts:Ts)(fr:List T):Prop where
 ok:∀ w t,TL.own w t∈ts->t.ok H
 fok:T.oks H fr
 nd:(Ze ts++T.owns fr).Nodup
 sep:∀ a,a∈roS ts\/a∈T.ros fr->a∉Ze ts/\a∉T.owns fr/\¬ R.B a
 rd:∀ a,a∈rdS ts->a∉Ze ts/\a∉T.owns fr
 g:∀ a,R.G a->H a=R.H0 a/\H a≠none/\a∉Ze ts/\a∉T.owns fr
 bg:∀ a,R.B a->R.G a
 bor:∀ (j k:Nat) (p:List Nat) (a:Addr),ts[j]?=some (TL.bor k p a)->PlOk ts k p a
 ixs:∀ j∈ix,j < ts.length
 sl:∀ (i j:Nat) (s:TL) (v:V),ix[i]?=some j->ts[j]?=some s->s.v=some v->σ[i]?=some (some v)
 hdi:∀ (j:Nat) (a:Addr),(j,a)∈hd->j < ts.length
 hdx:∀ (j:Nat) (a:Addr),(j,a)∈hd->j∉ix
 len:ix.length<=σ.length
 hdn:∀ (j:Nat) (a:Addr),(j,a)∈hd->∀ (s:TL) (v:V),ts[j]?=some s->s.v=some v->v=.ref a
def Z08.er_val{ts:Ts}{v:V}{tv:TV}{d:D}(h:Z08 ts v tv)(e:tv.er=.val d):∃ t,tv=.val t/\t.er=d/\v=t.val:=by
 cases tv with
 | val t=>simp only [TV.er,DV.val.injEq] at e;exact ⟨t,rfl,e,h⟩
 | plc k p a=>simp [TV.er] at e
def Z08.er_plc{ts:Ts}{v:V}{tv:TV}{k:Nat}{p:List Nat}(h:Z08 ts v tv)(e:tv.er=.plc k p):∃ a,tv=.plc k p a/\v=.ref a/\PlOk ts k p a:=by
 cases tv with
 | val t=>simp [TV.er] at e
 | plc k' p' a=>simp only [TV.er,DV.plc.injEq] at e;obtain ⟨rfl,rfl⟩:=e;exact ⟨a,rfl,h.1,h.2⟩
def Z1f{a:Addr}{ts:Ts}:a∈Ze ts↔∃ t,TL.own true t∈ts/\a∈t.own:=by
 unfold Ze;rw [List.mem_flatMap];constructor
 .rintro ⟨s,hs,h⟩
  cases s with
  | own w t=>cases w with
   | true=>exact ⟨t,hs,h⟩
   | false=>simp [TL.own1] at h
  | _=>simp [TL.own1] at h
 .rintro ⟨t,ht,h⟩
  exact ⟨_,ht,h⟩
def Z1p{a:Addr}{ts:Ts}:a∈roS ts↔∃ w t,TL.own w t∈ts/\a∈t.ro:=by
 unfold roS;rw [List.mem_flatMap];constructor
 .rintro ⟨s,hs,h⟩
  cases s with
  | own w t=>exact ⟨w,t,hs,h⟩
  | _=>simp [TL.ro1] at h
 .rintro ⟨w,t,ht,h⟩
  exact ⟨_,ht,h⟩
def Z3y{a:Addr}{ts:Ts}:a∈rdS ts↔∃ t,TL.own false t∈ts/\a∈t.own:=by
 unfold rdS;rw [List.mem_flatMap];constructor
 .rintro ⟨s,hs,h⟩
  cases s with
  | own w t=>cases w with
   | false=>exact ⟨t,hs,h⟩
   | true=>simp [TL.rd1] at h
  | _=>simp [TL.rd1] at h
 .rintro ⟨t,ht,h⟩
  exact ⟨_,ht,h⟩
end
section
mutual
variable {R:RC}{ix:List Nat}{hd:List (Nat×Addr)}{H:Hp}{σ:L2.St}{ts:Ts}{fr:List T}
def Cf.fresh(C:Cf R ix hd H σ ts fr){a:Addr}(h:H a=none):a∉Ze ts/\a∉roS ts/\a∉rdS ts/\a∉T.owns fr/\a∉T.ros fr/\¬ R.G a:=by
 refine ⟨fun z=>?_,fun z=>?_,fun z=>?_,fun z=>?_,fun z=>?_,fun z=>(C.g a z).2.1 h⟩
 .obtain ⟨t,ht,z⟩:=Z1f.mp z;exact T.there (C.ok _ t ht) (.inl z) h
 .obtain ⟨w,t,ht,z⟩:=Z1p.mp z;exact T.there (C.ok _ t ht) (.inr z) h
 .obtain ⟨t,ht,z⟩:=Z3y.mp z;exact T.there (C.ok _ t ht) (.inl z) h
 .exact T.theres C.fok (.inl z) h
 .exact T.theres C.fok (.inr z) h
def Cf.at(C:Cf R ix hd H σ ts fr)(v:V):Cf R ix hd H σ ts (.at v::fr):=
 ⟨C.ok,⟨trivial,C.fok⟩,by simpa [T.owns,T.own] using C.nd,by simpa [T.owns,T.own,T.ros,T.ro] using C.sep,by simpa [T.owns,T.own] using C.rd,by simpa [T.owns,T.own] using C.g,C.bg,C.bor,C.ixs,C.sl,C.hdi,C.hdx,C.len,C.hdn⟩
def Cf.less{fr':List T}{x:List Addr}(C:Cf R ix hd H σ ts fr)(ho:T.oks H fr')(h1:(T.owns fr).Perm (T.owns fr'++x))(h2:∀ a,a∈T.ros fr'->a∈T.ros fr\/a∈roS ts\/a∈x):Cf R ix hd H σ ts fr':=by
 have m1:∀ a,a∈T.owns fr'->a∈T.owns fr:=fun a z=>h1.mem_iff.mpr (Qh _ z);have nd:=(List.Perm.append_left (Ze ts) h1).nodup_iff.mp C.nd;rw [<- Qn] at nd;have nd1:=(Qm.mp nd);refine ⟨C.ok,ho,nd1.1,fun a z=>?_,fun a z=>⟨(C.rd a z).1,fun q=>(C.rd a z).2 (m1 a q)⟩,fun a z=>⟨(C.g a z).1,(C.g a z).2.1,(C.g a z).2.2.1,fun q=>(C.g a z).2.2.2 (m1 a q)⟩,C.bg,C.bor,C.ixs,C.sl,C.hdi,C.hdx,C.len,C.hdn⟩;have old:a∈roS ts\/a∈T.ros fr->a∉Ze ts/\a∉T.owns fr'/\¬ R.B a:=fun z=>⟨(C.sep a z).1,fun q=>(C.sep a z).2.1 (m1 a q),(C.sep a z).2.2⟩;rcases z with z | z
 .exact old (.inl z)
 .rcases h2 a z with z | z | z
  .exact old (.inr z)
  .exact old (.inl z)
  .refine ⟨fun q=>nd1.2.2 a (Qh _ q) a z rfl,fun q=>nd1.2.2 a (Qe _ q) a z rfl,fun q=>?_⟩
   exact (C.g a (C.bg a q)).2.2.2 (h1.mem_iff.mpr (Qe _ z))
def Cf.drop{t:T}(C:Cf R ix hd H σ ts (t::fr)):Cf R ix hd H σ ts fr:=
 C.less (x:=t.own) C.fok.2 (by rw [T.owns_cons];exact Wf) fun a z=>.inl (by rw [T.ros_cons];exact Qe _ z)
def Cf.drops{l:List T}(C:Cf R ix hd H σ ts (l++fr)):Cf R ix hd H σ ts fr:=by
 induction l with
 | nil=>exact C
 | cons t r ih=>exact ih C.drop
end
end
mutual
inductive ER(α:Type) where
 | ok (a:α) (s:Sd) | ex (C:Str) (s:Sd) | no
set_option genCtorIdx true in set_option genInjectivity false in gen_injective_theorems% ER
inductive SR where
 | nx (s:Sd) | rt (r:DV) (s:Sd) | bk (s:Sd) | ct (s:Sd) | ex (C:Str) (s:Sd) | no
set_option genCtorIdx true in set_option genInjectivity false in gen_injective_theorems% SR
private abbrev EF:=Sd->ER DV
private abbrev AF:=Sd->ER (List DV)
private abbrev BF:=Sd->ER Bool
private abbrev SF:=Sd->SR
abbrev trs(tvs:List TV):List T:=tvs.flatMap TV.tr
inductive TvsOk(ts:Ts):List V->List TV->Prop where
 | nil:TvsOk ts [] []
 | cons {v:V} {tv:TV} {vs:List V} {tvs:List TV}:Z08 ts v tv->TvsOk ts vs tvs->TvsOk ts (v::vs) (tv::tvs)
end
section
mutual
variable (R:RC)(ix:List Nat)
abbrev lE(f:EF):TE:=fun σ H Q=>∃ hd ts fr,Cf R ix hd H σ ts fr/\match f (ts.map TL.er) with
 | .ok r s'=>∀ H' ts' tv v,ts'.map TL.er=s'->tv.er=r->Z08 ts' v tv->Cf R ix hd H' σ ts' (tv.tr++fr)->Q v H'
 | .ex C s'=>∀ H' ts',ts'.map TL.er=s'->Cf R ix hd H' σ ts' fr->R.EX σ (.ref (R.ad C)) none H'
 | .no=>False
abbrev lA(f:AF):TA:=fun σ H Q=>∃ hd ts fr,Cf R ix hd H σ ts fr/\match f (ts.map TL.er) with
 | .ok r s'=>∀ H' ts' tvs vs,ts'.map TL.er=s'->tvs.map TV.er=r->TvsOk ts' vs tvs->Cf R ix hd H' σ ts' (trs tvs++fr)->Q vs H'
 | .ex C s'=>∀ H' ts',ts'.map TL.er=s'->Cf R ix hd H' σ ts' fr->R.EX σ (.ref (R.ad C)) none H'
 | .no=>False
abbrev lT(f:BF):TT:=fun σ H Q=>∃ hd ts fr,Cf R ix hd H σ ts fr/\match f (ts.map TL.er) with
 | .ok r s'=>∀ H' ts',ts'.map TL.er=s'->Cf R ix hd H' σ ts' fr->Q r H'
 | .ex C s'=>∀ H' ts',ts'.map TL.er=s'->Cf R ix hd H' σ ts' fr->R.EX σ (.ref (R.ad C)) none H'
 | .no=>False
abbrev lS(f:SF):L2.TS:=fun D σ H=>∃ hd ts fr,Cf R ix hd H σ ts fr/\match f (ts.map TL.er) with
 | .nx s'=>∀ H' σ' ts',ts'.map TL.er=s'->Cf R ix hd H' σ' ts' fr->D.nx σ' H'
 | .rt r s'=>∀ H' σ' ts' tv v,ts'.map TL.er=s'->tv.er=r->Z08 ts' v tv->Cf R ix hd H' σ' ts' (tv.tr++fr)->D.rt v H'
 | .bk s'=>∀ H' σ' ts',ts'.map TL.er=s'->Cf R ix hd H' σ' ts' fr->D.bk σ' H'
 | .ct s'=>∀ H' σ' ts',ts'.map TL.er=s'->Cf R ix hd H' σ' ts' fr->D.ct σ' H'
 | .ex C s'=>∀ H' σ' ts',ts'.map TL.er=s'->Cf R ix hd H' σ' ts' fr->R.EX σ' (.ref (R.ad C)) none H'
 | .no=>False
end
end
section
mutual
variable {X:Cx}{e:Expr}{es:List Expr}{st:Stmt}{sts:List Stmt}
def peM{t t':TE}(h:PE X e t)(m:∀ σ H Q,t' σ H Q->t σ H Q):PE X e t':=fun pins s σ H Q I q=>h pins s σ H Q I (m _ _ _ q)
def paM{t t':TA}(h:PA X es t)(m:∀ σ H Q,t' σ H Q->t σ H Q):PA X es t':=fun pos pins s σ H Q I q=>h pos pins s σ H Q I (m _ _ _ q)
def ptM{t t':TT}(h:PT X e t)(m:∀ σ H Q,t' σ H Q->t σ H Q):PT X e t':=fun pins s σ H Q I q=>h pins s σ H Q I (m _ _ _ q)
def psM{t t':L2.TS}(h:PS X st t)(m:∀ D σ H,t' D σ H->t D σ H):PS X st t':=fun pins s σ H D I q=>h pins s σ H D I (m _ _ _ q)
def pssM{t t':L2.TS}(h:PSs X sts t)(m:∀ D σ H,t' D σ H->t D σ H):PSs X sts t':=fun pins s σ H D I q=>h pins s σ H D I (m _ _ _ q)
end
end
noncomputable def eC(v:V):EF:=fun s=>.ok (.val (.at v)) s
section
mutual
variable {R:RC}{ix:List Nat}{hd:List (Nat×Addr)}{X:Cx}{e:Expr}
def lE_C{v:V}(hc:cl v=v)(σ:L2.St)(H:Hp)(Q:VK)(h:lE R ix (eC v) σ H Q):tC v σ H Q:=by
 obtain ⟨hd,ts,fr,C,h⟩:=h;exact h H ts (.val (.at v)) v rfl (by simp only [TV.er,T.er,hc]) rfl (C.at v)
def Z8{v:V}(h:PE X e (tC v))(hc:autoParam (cl v=v) uA._auto_1):PE X e (lE R ix (eC v)):=peM h (lE_C hc)
abbrev Zt(s:Sd):DV->Option D
 | .val d=>some d
 | .plc k p=>match s[k]? with | some (.own _ d)=>d.get p | _=>none
def Z6V{H:Hp}{σ:L2.St}{ts:Ts}{fr:List T}{tv:TV}{v:V}{d:D}(C:Cf R ix hd H σ ts fr)(hv:Z08 ts v tv)(ho:T.oks H tv.tr)(h:Zt (ts.map TL.er) tv.er=some d) :
  ∃ t:T,t.er=d/\t.val=v/\t.ok H/\(tv=.val t\/∃ k p a w u,tv=.plc k p a/\ts[k]?=some (TL.own w u)/\u.get p=some t):=by
 cases tv with
 | val t=>
  cases h;exact ⟨t,rfl,hv.symm,ho.1,.inl rfl⟩
 | plc k p a=>
  obtain ⟨rfl,w,t,s,h1,h2,h3⟩:=hv;simp only [TV.er,Zt,Qc,h1,Qu,TL.er,T.get_er,h2,Je.injEq] at h;exact ⟨s,h,h3,T.get_ok h2 (C.ok w t (Qg h1)),.inr ⟨k,p,a,w,t,rfl,h1,h2⟩⟩
abbrev mkV(k:Nat)(p:List Nat)(d:D):DV:=if d.imm then .val d else .plc k p
abbrev Z3(j:Nat):EF:=fun s=>match s[j]? with
 | some (.own _ d)=>.ok (mkV j [] d) s
 | some (.bor k p)=>match Zt s (.plc k p) with | some d=>.ok (mkV k p d) s | none=>.no
 | _=>.no
def Cf.copy{H:Hp}{σ:L2.St}{ts:Ts}{fr:List T}{w:Bool}{t s:T}(C:Cf R ix hd H σ ts fr)(hm:TL.own w t∈ts){p:List Nat}(hp:t.get p=some s)(hi:s.own=[]):Cf R ix hd H σ ts (s::fr):=by
 have ho:s.ok H:=T.get_ok hp (C.ok w t hm);obtain ⟨c,r,K⟩:=T.ctx hp;have hro:∀ a,a∈s.ro->a∈roS ts:=fun a z=>Z1p.mpr ⟨w,t,hm,K.ro.mem_iff.mpr (Qe _ z)⟩;refine ⟨C.ok,⟨ho,C.fok⟩,?_,fun a z=>?_,?_,?_,C.bg,C.bor,C.ixs,C.sl,C.hdi,C.hdx,C.len,C.hdn⟩
 .rw [T.owns_cons,hi];exact C.nd
 .rw [T.owns_cons,hi]
  refine C.sep a ?_;rcases z with z | z
  .exact .inl z
  .rw [T.ros_cons] at z
   rcases Qf.mp z with z | z
   .exact .inl (hro a z)
   .exact .inr z
 .rw [T.owns_cons,hi];exact C.rd
 .rw [T.owns_cons,hi];exact C.g
def ZcF(t:T)(h:t.er.imm=false):∃ a,t.val=.ref a:=by
 cases t with
 | «at» v=>cases h
 | nd a k l=>exact ⟨a,rfl⟩
def mk_ok{H:Hp}{σ:L2.St}{ts:Ts}{fr:List T}{w:Bool}{t s:T}{k:Nat}{p:List Nat}(C:Cf R ix hd H σ ts fr)(h1:ts[k]?=some (TL.own w t))(hp:t.get p=some s) :
  ∃ tv,tv.er=mkV k p s.er/\Z08 ts s.val tv/\Cf R ix hd H σ ts (tv.tr++fr):=by
 unfold mkV
 cases hi:s.er.imm with
 | true=>exact ⟨.val s,rfl,rfl,C.copy (Qg h1) hp (T.imm_own hi)⟩
 | false=>
  obtain ⟨a,ha⟩:=ZcF s hi;exact ⟨.plc k p a,rfl,⟨ha,w,t,s,h1,hp,ha⟩,C⟩
def Z5A{i j:Nat}(hix:ix[i]?=some j)(σ:L2.St)(H:Hp)(Q:VK)(h:lE R ix (Z3 j) σ H Q):Z1q i σ H Q:=by
 obtain ⟨hd,ts,fr,C,h⟩:=h;unfold Z3 at h;rw [Qc] at h
 cases e:ts[j]? with
 | none=>rw [e] at h;exact h.elim
 | some s=>
  rw [e] at h
  cases s with
  | non=>exact h.elim
  | own w t=>
   obtain ⟨tv,e1,e2,e3⟩:=mk_ok C e (show t.get []=some t from rfl);exact ⟨t.val,C.sl i j _ _ hix e rfl,h H ts tv t.val rfl e1 e2 e3⟩
  | bor k p a=>
   obtain ⟨w,t,s,h1,h2,h3⟩:=C.bor j k p a e;have hd:Zt (ts.map TL.er) (.plc k p)=some s.er:=by simp only [Zt,Qc,h1,Qu,TL.er,T.get_er,h2]
   simp only [Qu,TL.er,hd] at h;obtain ⟨tv,e1,e2,e3⟩:=mk_ok C h1 h2;rw [h3] at e2;exact ⟨.ref a,C.sl i j _ _ hix e rfl,h H ts tv (.ref a) rfl e1 e2 e3⟩
def Z2{i j:Nat}(h:PE X e (Z1q i))(hix:ix[i]?=some j):PE X e (lE R ix (Z3 j)):=peM h (Z5A hix)
end
end
mutual
abbrev Z1:AF:=fun s=>.ok [] s
abbrev unh(n k:Nat)(p:List Nat)(s:Sd):Option Sd:=match s.getLast? with
 | some (.bor k' p')=>if k'=k/\p'=p/\s.length=n + 1 then some s.dropLast else none
 | _=>none
abbrev unx(n:Nat)(s:Sd):Option Sd:=match s.getLast? with
 | some (.own _ _)=>none
 | some _=>if s.length=n + 1 then some s.dropLast else none
 | none=>none
abbrev Z0(f:EF)(g:AF):AF:=fun s=>match f s with
 | .ok (.val d) s1=>(match g s1 with | .ok rs s2=>.ok (.val d::rs) s2 | .ex C s2=>.ex C s2 | .no=>.no)
 | .ok (.plc k p) s1=>(match g (s1++[.bor k p]) with
  | .ok rs s2=>(match unh s1.length k p s2 with | some s3=>.ok (.plc k p::rs) s3 | none=>.no)
  | .ex C s2=>(match unx s1.length s2 with | some s3=>.ex C s3 | none=>.no) | .no=>.no)
 | .ex C s1=>.ex C s1
 | .no=>.no
end
section
mutual
variable {R:RC}{ix:List Nat}{hd:List (Nat×Addr)}{X:Cx}{e:Expr}{H:Hp}{σ:L2.St}{ts:Ts}{fr:List T}
def Z1x(a b:Ts):Ze (a++b)=Ze a++Ze b:=by simp [Ze]
def Z4r(a b:Ts):roS (a++b)=roS a++roS b:=by simp [roS]
def Z2X(a b:Ts):rdS (a++b)=rdS a++rdS b:=by simp [rdS]
def PlOk.app{a:Ts}{k:Nat}{p:List Nat}{x:Addr}(h:PlOk a k p x)(b:Ts):PlOk (a++b) k p x:=by
 obtain ⟨w,t,s,h1,h2,h3⟩:=h;exact ⟨w,t,s,by rw [Qo (Qd.mp h1).1];exact h1,h2,h3⟩
def Cf.hide{k:Nat}{p:List Nat}{a:Addr}(C:Cf R ix hd H σ ts fr)(h:PlOk ts k p a):Cf R ix (hd++[(ts.length,a)]) H σ (ts++[.bor k p a]) fr:=by
 have e1:Ze (ts++[.bor k p a])=Ze ts:=by rw [Z1x];simp [Ze,TL.own1]
 have e2:roS (ts++[.bor k p a])=roS ts:=by rw [Z4r];simp [roS,TL.ro1]
 have e3:rdS (ts++[.bor k p a])=rdS ts:=by rw [Z2X];simp [rdS,TL.rd1]
 refine ⟨fun w t z=>?_,C.fok,by rw [e1];exact C.nd,by rw [e1,e2];exact C.sep,by rw [e1,e3];exact C.rd,by rw [e1];exact C.g,C.bg,fun j k' p' a' z=>?_,fun j z=>by simpa using Wd (C.ixs j z),fun i j s v z1 z2 z3=>?_,fun j b z=>?_,fun j b z=>?_,C.len,fun j b z s v z2 z3=>?_⟩
 .rcases Qf.mp z with z | z
  .exact C.ok w t z
  .simp at z
 .by_cases hj:j < ts.length
  .rw [Qo hj] at z
   exact (C.bor j k' p' a' z).app _
  .rw [Jd (by omega)] at z
   have:j - ts.length=0:=by
    have:=(Qd.mp z).1;simp at this;omega
   rw [this] at z;cases z;exact h.app _
 .have:=C.ixs j (Qg z1)
  rw [Qo this] at z2;exact C.sl i j s v z1 z2 z3
 .rcases Qf.mp z with z | z
  .simpa using Wd (C.hdi j b z)
  .simp only [Jj,Prod.mk.injEq] at z
   simp [z.1]
 .rcases Qf.mp z with z | z
  .exact C.hdx j b z
  .simp only [Jj,Prod.mk.injEq] at z
   rw [z.1];exact fun q=>absurd (C.ixs _ q) (Jv _)
 .rcases Qf.mp z with z | z
  .by_cases hj:j < ts.length
   .rw [Qo hj] at z2
    exact C.hdn j b z s v z2 z3
   .exact absurd (C.hdi j b z) hj
  .simp only [Jj,Prod.mk.injEq] at z
   obtain ⟨rfl,rfl⟩:=z;rw [Jd (Qq _),Nat.sub_self] at z2;cases z2;cases z3;rfl
def Cf.pop{x:TL}{hm:List (Nat×Addr)}(C:Cf R ix (hd++hm) H σ (ts++[x]) fr)(hx:∀ w t,x≠.own w t)(hi:∀ j∈ix,j < ts.length)(hj:∀ j a,(j,a)∈hd->j < ts.length):Cf R ix hd H σ ts fr/\∀ k p a,x=.bor k p a->PlOk ts k p a:=by
 have e1:Ze (ts++[x])=Ze ts:=by rw [Z1x];cases x <;> simp_all [Ze,TL.own1]
 have e2:roS (ts++[x])=roS ts:=by rw [Z4r];cases x <;> simp_all [roS,TL.ro1]
 have e3:rdS (ts++[x])=rdS ts:=by rw [Z2X];cases x <;> simp_all [rdS,TL.rd1]
 have dn:∀ {k':Nat} {p':List Nat} {a':Addr},PlOk (ts++[x]) k' p' a'->PlOk ts k' p' a':=by
  rintro k' p' a' ⟨w,t,s,h1,h2,h3⟩;refine ⟨w,t,s,?_,h2,h3⟩;by_cases hj:k' < ts.length
  .rwa [Qo hj] at h1
  .rw [Jd (by omega)] at h1
   have:k' - ts.length=0:=by
    have:=(Qd.mp h1).1;simp at this;omega
   rw [this] at h1;exact absurd (Je.inj h1) (hx w t)
 refine ⟨⟨fun w t z=>C.ok w t (Qh _ z),C.fok,by rw [<- e1];exact C.nd,by rw [<- e1,<- e2];exact C.sep,by rw [<- e1,<- e3];exact C.rd,by rw [<- e1];exact C.g,C.bg,fun j k' p' a' z=>?_,hi,fun i j s v z1 z2 z3=>?_,hj,fun j b z=>C.hdx j b (Qh _ z),C.len,fun j b z s v z2 z3=>C.hdn j b (Qh _ z) s v (by rw [Qo (Qd.mp z2).1];exact z2) z3⟩,?_⟩
 .refine dn (C.bor j k' p' a' ?_)
  rw [Qo (Qd.mp z).1];exact z
 .refine C.sl i j s v z1 ?_ z3
  rw [Qo (Qd.mp z2).1];exact z2
 .rintro k p a rfl
  refine dn (C.bor ts.length k p a ?_);rw [Jd (Qq _),Nat.sub_self];rfl
def Za3{s:Sd}{l:DL}(h:ts.map TL.er=s++[l]):∃ ts0 t,ts=ts0++[t]/\ts0.map TL.er=s/\t.er=l:=by
 have hne:ts≠[]:=by rintro rfl;simp at h
 refine ⟨ts.dropLast,ts.getLast hne,(Gs hne).symm,?_,?_⟩
 .rw [Qam,h];simp
 .have:=congrArg List.getLast? h
  rw [List.getLast?_map,List.getLast?_eq_some_getLast hne] at this;simpa using this
def Ze5{s s':Sd}{n k:Nat}{p:List Nat}(h:unh n k p s=some s'):s=s'++[.bor k p]/\s'.length=n:=by
 unfold unh at h
 split at h
 case h_1 k' p' e=>
  split at h
  case isTrue q=>
   obtain ⟨rfl,rfl,q⟩:=q;cases h;obtain ⟨l,rfl⟩:=Qae.mp e;simp at q ⊢;exact q
  case isFalse=>cases h
 case h_2=>cases h
def Ze6{n:Nat}{s s':Sd}(h:unx n s=some s'):∃ x,s=s'++[x]/\(∀ w d,x≠.own w d)/\s'.length=n:=by
 unfold unx at h
 split at h
 case h_1=>cases h
 case h_2 x e q=>
  split at h
  case isTrue z=>
   cases h;obtain ⟨l,rfl⟩:=Qae.mp q;simp at z;exact ⟨x,by simp,e,by simp [z]⟩
  case isFalse=>cases h
 case h_3=>cases h
def Zgc{t:TL}(h:∀ w d,t.er≠.own w d):∀ w u,t≠.own w u:=by
 rintro w u rfl;exact h w u.er rfl
def Z08.pop{x:TL}{v:V}{tv:TV}(h:Z08 (ts++[x]) v tv)(hx:∀ w t,x≠.own w t):Z08 ts v tv:=by
 cases tv with
 | val t=>exact h
 | plc k p a=>
  obtain ⟨rfl,w,t,s,h1,h2,h3⟩:=h;refine ⟨rfl,w,t,s,?_,h2,h3⟩;by_cases hj:k < ts.length
  .rwa [Qo hj] at h1
  .rw [Jd (by omega)] at h1
   have:k - ts.length=0:=by
    have:=(Qd.mp h1).1;simp at this;omega
   rw [this] at h1;exact absurd (Je.inj h1) (hx w t)
def TvsOk.pop{x:TL}(hx:∀ w t,x≠.own w t):∀ {vs:List V} {tvs:List TV},TvsOk (ts++[x]) vs tvs->TvsOk ts vs tvs
 | _,_,.nil=>.nil
 | _,_,.cons h r=>.cons (h.pop hx) (TvsOk.pop hx r)
def Z5B{s:Sd}(h:ts.map TL.er=s):ts.length=s.length:=by rw [<- h];simp
def Z5z(σ:L2.St)(H:Hp)(Q:List V->Hp->Prop)(h:lA R ix Z1 σ H Q):tNil σ H Q:=by
 obtain ⟨hd,ts,fr,C,h⟩:=h;exact h H ts [] [] rfl rfl .nil C
def Z2P{f:EF}{g:AF}(σ:L2.St)(H:Hp)(Q:List V->Hp->Prop)(h:lA R ix (Z0 f g) σ H Q):Z2e (lE R ix f) (lA R ix g) σ H Q:=by
 obtain ⟨hd,ts,fr,C,h⟩:=h;refine ⟨hd,ts,fr,C,?_⟩;unfold Z0 at h
 cases ef:f (ts.map TL.er) with
 | no=>rw [ef] at h;exact h
 | ex E s1=>rw [ef] at h;exact h
 | ok r s1=>
  rw [ef] at h;intro H1 ts1 tv v e1 e2 hv C1
  cases r with
  | val d=>
   obtain ⟨t,rfl,rfl,rfl⟩:=hv.er_val e2;refine ⟨hd,ts1,t::fr,C1,?_⟩;rw [e1];dsimp only at h
   cases eg:g s1 with
   | no=>rw [eg] at h;exact h
   | ex E s2=>rw [eg] at h;intro H2 ts2 e3 C2;exact h H2 ts2 e3 C2.drop
   | ok rs s2=>
    rw [eg] at h;intro H2 ts2 tvs vs e3 e4 hvs C2;refine h H2 ts2 (.val t::tvs) (t.val::vs) e3 (by simp [TV.er,e4]) (.cons rfl hvs) ?_;refine C2.less (x:=[]) ?_ ?_ ?_
    .exact ⟨(T.oks_app.mp C2.fok).2.1,T.oks_app.mpr ⟨(T.oks_app.mp C2.fok).1,(T.oks_app.mp C2.fok).2.2⟩⟩
    .show (T.owns (trs tvs++t::fr)).Perm (T.owns (t::(trs tvs++fr))++[])
     rw [Jo,T.owns_app,T.owns_cons,T.owns_cons,T.owns_app];rw [<- Qn,<- Qn];exact List.Perm.append_right _ Wf
    .intro a z
     left;have z:a∈T.ros (t::(trs tvs++fr)):=z;rw [T.ros_app,T.ros_cons];rw [T.ros_cons,T.ros_app] at z;simp only [Qf] at z ⊢;rcases z with z | z | z <;> simp [z]
  | plc k p=>
   obtain ⟨a,rfl,rfl,hp⟩:=hv.er_plc e2;refine ⟨hd++[(ts1.length,a)],ts1++[.bor k p a],fr,C1.hide hp,?_⟩;rw [Wg,e1]
   show (match g (s1++[.bor k p]) with | .ok r s'=>_ | .ex C s'=>_ | .no=>_)
   dsimp only at h
   cases eg:g (s1++[.bor k p]) with
   | no=>rw [eg] at h;exact h
   | ex E s2=>
    rw [eg] at h;intro H2 ts2 e3 C2;dsimp only at h
    cases eu:unx s1.length s2 with
    | none=>rw [eu] at h;exact h.elim
    | some s3=>
     rw [eu] at h;obtain ⟨x,rfl,hx',hn⟩:=Ze6 eu;obtain ⟨ts3,y,rfl,e4,rfl⟩:=Za3 e3;have hln:ts3.length=ts1.length:=by rw [Z5B e4,hn,Z5B e1]
     exact h H2 ts3 e4 (C2.pop (Zgc hx') (fun j hj=>by rw [hln];exact C1.ixs j hj) fun j b hj=>by rw [hln];exact C1.hdi j b hj).1
   | ok rs s2=>
    rw [eg] at h;intro H2 ts2 tvs vs e3 e4 hvs C2;dsimp only at h
    cases eu:unh s1.length k p s2 with
    | none=>rw [eu] at h;exact h.elim
    | some s3=>
     rw [eu] at h;obtain ⟨rfl,hn⟩:=Ze5 eu;obtain ⟨ts3,y,rfl,e5,e6⟩:=Za3 e3
     obtain ⟨b,rfl⟩:∃ b,y=.bor k p b:=by
      cases y with
      | bor k' p' b=>simp only [TL.er,DL.bor.injEq] at e6;obtain ⟨rfl,rfl⟩:=e6;exact ⟨b,rfl⟩
      | _=>simp [TL.er] at e6
     have hln:ts3.length=ts1.length:=by rw [Z5B e5,hn,Z5B e1]
     obtain rfl:b=a:=by
      have:=C2.hdn ts1.length a (Qe _ (by simp)) (.bor k p b) (.ref b) (by rw [<- hln,Jd (Qq _),Nat.sub_self];rfl) rfl;cases this;rfl
     obtain ⟨C3,hpl⟩:=C2.pop (by intro w t z;cases z) (fun j hj=>by rw [hln];exact C1.ixs j hj) fun j b hj=>by rw [hln];exact C1.hdi j b hj
     exact h H2 ts3 (.plc k p b::tvs) (.ref b::vs) e5 (by simp [TV.er,e4]) (.cons ⟨rfl,hpl k p b rfl⟩ (hvs.pop (by intro w t z;cases z))) C3
def Za:PA X [] (lA R ix Z1):=paM ZF Z5z
def Z4{es:List Expr}{f:EF}{g:AF}(he:PE X e (lE R ix f))(hr:PA X es (lA R ix g))(hs:autoParam (starEach (e::es) X.env=(false,eval e X.env)::starEach es X.env) uA._auto_1):PA X (e::es) (lA R ix (Z0 f g)):=
 paM (Zg he hr hs) Z2P
end
end
mutual
abbrev Z0N(s:Sd):List DV->Option (List D)
 | []=>some []
 | r::rs=>match Zt s r,Z0N s rs with | some d,some ds=>some (d::ds) | _,_=>none
structure NewOk(H H':Hp)(l:List T)(t:T):Prop where
 ok:t.ok H'
 nd:t.own.Nodup
 own:∀ a∈t.own,H a=none
 ro:∀ a∈t.ro,H a=none\/a∈T.ros l
 sep:∀ a∈t.ro,a∉t.own
 keep:∀ a,H a≠none->H' a=H a
abbrev gNw(h:List D->Option D):List V->Hp->VK->Prop:=fun vs H Q=>∃ l:List T,T.oks H l/\l.map T.val=vs/\∃ d,h (T.ers l)=some d/\∀ t H',t.er=d->NewOk H H' l t->Q t.val H'
abbrev eNw(h:List D->Option D)(f:AF):EF:=fun s=>match f s with
 | .ok rs s1=>(match Z0N s1 rs with | some ds=>(match h ds with | some d=>.ok (.val d) s1 | none=>.no) | none=>.no)
 | .ex C s1=>.ex C s1
 | .no=>.no
end
section
mutual
variable {R:RC}{ix:List Nat}{hd:List (Nat×Addr)}{X:Cx}{e:Expr}{H H':Hp}{σ:L2.St}{ts:Ts}{fr:List T}
def NewOk.atom{l:List T}(v:V):NewOk H H l (.at v):=⟨trivial,Ng,by simp [T.own],by simp [T.ro],by simp [T.ro],fun _ _=>rfl⟩
def Z63(C:Cf R ix hd H σ ts fr):∀ {tvs:List TV} {vs:List V} {ds:List D},TvsOk ts vs tvs->T.oks H (trs tvs)->Z0N (ts.map TL.er) (tvs.map TV.er)=some ds ->
  ∃ l:List T,T.ers l=ds/\l.map T.val=vs/\T.oks H l/\∀ a∈T.ros l,a∈roS ts\/a∈T.ros (trs tvs)
 | [],_,_,.nil,_,h=>by cases h;exact ⟨[],rfl,rfl,trivial,by simp [T.ros]⟩
 | tv::tvs,_,_,.cons hv hr,ho,h=>by
  simp only [Qj,Z0N] at h
  cases e1:Zt (ts.map TL.er) tv.er with
  | none=>simp [e1] at h
  | some d=>
   cases e2:Z0N (ts.map TL.er) (tvs.map TV.er) with
   | none=>simp [e1,e2] at h
   | some ds=>
    simp only [e1,e2,Je.injEq] at h;subst h;have ho':T.oks H (tv.tr++trs tvs):=ho;obtain ⟨t,t1,t2,t3,t4⟩:=Z6V C hv (T.oks_app.mp ho').1 e1;obtain ⟨l,l1,l2,l3,l4⟩:=Z63 C hr (T.oks_app.mp ho').2 e2;refine ⟨t::l,by rw [T.ers,t1,l1],by simp [t2,l2],⟨t3,l3⟩,fun a z=>?_⟩;show a∈roS ts\/a∈T.ros (tv.tr++trs tvs);rw [T.ros_app,Qf];rw [T.ros_cons] at z;rcases Qf.mp z with z | z
    .rcases t4 with rfl | ⟨k,p,b,w,u,rfl,h1,h2⟩
     .exact .inr (.inl (by simpa [TV.tr,T.ros] using z))
     .obtain ⟨c,r,K⟩:=T.ctx h2
      exact .inl (Z1p.mpr ⟨w,u,Qg h1,K.ro.mem_iff.mpr (Qe _ z)⟩)
    .rcases l4 a z with z | z
     .exact .inl z
     .exact .inr (.inr z)
def Cf.new{l m:List T}{t:T}(C:Cf R ix hd H σ ts (m++fr))(N:NewOk H H' l t)(hl:∀ a∈T.ros l,a∈roS ts\/a∈T.ros m):Cf R ix hd H' σ ts (t::fr):=by
 have Cd:=C.drops;have kp:∀ a,H a≠none->H' a=H a:=N.keep;have nown:∀ a∈t.own,a∉Ze ts/\a∉roS ts/\a∉rdS ts/\a∉T.owns fr/\a∉T.ros fr/\¬ R.G a:=fun a z=>Cd.fresh (N.own a z);refine ⟨fun w u z=>T.keep (C.ok w u z) fun a q=>kp a (T.there (C.ok w u z) q),⟨N.ok,T.keeps Cd.fok fun a q=>kp a (T.theres Cd.fok q)⟩,?_,fun a z=>?_,fun a z=>?_,fun a z=>?_,C.bg,C.bor,C.ixs,C.sl,C.hdi,C.hdx,C.len,C.hdn⟩
 .rw [T.owns_cons]
  have h1:=Qm.mp Cd.nd;refine Qm.mpr ⟨h1.1,Qm.mpr ⟨N.nd,h1.2.1,fun a za b zb e=>(nown a za).2.2.2.1 (by rw [e];exact zb)⟩,fun a za b zb e=>?_⟩;rcases Qf.mp zb with zb | zb
  .exact (nown b zb).1 (by rw [<- e];exact za)
  .exact h1.2.2 a za b zb e
 .rw [T.owns_cons,Qf]
  have old:a∈roS ts\/a∈T.ros (m++fr)->a∉Ze ts/\¬ (a∈t.own\/a∈T.owns fr)/\¬ R.B a:=fun z=>by
   obtain ⟨h1,h2,h3⟩:=C.sep a z;refine ⟨h1,fun q=>?_,h3⟩;rcases q with q | q
   .rcases z with z | z
    .exact (nown a q).2.1 z
    .have:=T.theres C.fok (.inr z)
     exact this (N.own a q)
   .exact h2 (by rw [T.owns_app];exact Qe _ q)
  rcases z with z | z
  .exact old (.inl z)
  .rw [T.ros_cons] at z
   rcases Qf.mp z with z | z
   .rcases N.ro a z with z' | z'
    .obtain ⟨f1,f2,f3,f4,f5,f6⟩:=Cd.fresh z'
     exact ⟨f1,fun q=>q.elim (N.sep a z) f4,fun q=>f6 (C.bg a q)⟩
    .rcases hl a z' with q | q
     .exact old (.inl q)
     .exact old (.inr (by rw [T.ros_app];exact Qh _ q))
   .exact old (.inr (by rw [T.ros_app];exact Qe _ z))
 .rw [T.owns_cons,Qf]
  exact ⟨(Cd.rd a z).1,fun q=>q.elim (fun q=>(nown a q).2.2.1 z) (Cd.rd a z).2⟩
 .rw [T.owns_cons,Qf]
  obtain ⟨g1,g2,g3,g4⟩:=Cd.g a z;exact ⟨(kp a g2).trans g1,by rw [kp a g2];exact g2,g3,fun q=>q.elim (fun q=>(nown a q).2.2.2.2.2 z) g4⟩
def Z0P{h:List D->Option D}{f:AF}(σ:L2.St)(H:Hp)(Q:VK)(q:lE R ix (eNw h f) σ H Q):lA R ix f σ H fun vs H1=>gNw h vs H1 Q:=by
 obtain ⟨hd,ts,fr,C,q⟩:=q;refine ⟨hd,ts,fr,C,?_⟩;unfold eNw at q
 cases ef:f (ts.map TL.er) with
 | no=>rw [ef] at q;exact q
 | ex E s1=>rw [ef] at q;exact q
 | ok rs s1=>
  rw [ef] at q;intro H1 ts1 tvs vs e1 e2 hv C1;subst e1 e2;dsimp only at q
  cases ed:Z0N (ts1.map TL.er) (tvs.map TV.er) with
  | none=>rw [ed] at q;exact q.elim
  | some ds=>
   rw [ed] at q;dsimp only at q
   cases eh:h ds with
   | none=>rw [eh] at q;exact q.elim
   | some d=>
    rw [eh] at q;obtain ⟨l,l1,l2,l3,l4⟩:=Z63 C1 hv (T.oks_app.mp C1.fok).1 ed;exact ⟨l,l3,l2,d,by rw [l1];exact eh,fun t H' e N=>q H' ts1 (.val t) t.val rfl (by rw [<- e];rfl) rfl (C1.new N l4)⟩
def Zd{f:EF}{Q Q':VK}(m:∀ v H,Q v H->Q' v H)(h:lE R ix f σ H Q):lE R ix f σ H Q':=by
 obtain ⟨hd,ts,fr,C,h⟩:=h;refine ⟨hd,ts,fr,C,?_⟩
 cases ef:f (ts.map TL.er) with
 | no=>rw [ef] at h;exact h
 | ex E s1=>rw [ef] at h;exact h
 | ok r s1=>rw [ef] at h;intro H1 ts1 tv v a b c d;exact m _ _ (h H1 ts1 tv v a b c d)
def lA_1{f:EF}{r:List V->Hp->Prop}(h:lA R ix (Z0 f Z1) σ H r):lE R ix f σ H fun x H1=>r [x] H1:=by
 have h1:=Z2P σ H r h;exact Zd (fun v H1 q=>Z5z σ H1 (fun vs H2=>r (v::vs) H2) q) h1
def Z1e{f g:EF}{r:List V->Hp->Prop}(h:lA R ix (Z0 f (Z0 g Z1)) σ H r):lE R ix f σ H fun x H1=>lE R ix g σ H1 fun y H2=>r [x,y] H2:=by
 have h1:=Z2P σ H r h;exact Zd (fun v H1 q=>lA_1 (r:=fun vs H2=>r (v::vs) H2) q) h1
def lA_3{f g k:EF}{r:List V->Hp->Prop}(h:lA R ix (Z0 f (Z0 g (Z0 k Z1))) σ H r):lE R ix f σ H fun x H1=>lE R ix g σ H1 fun y H2=>lE R ix k σ H2 fun z H3=>r [x,y,z] H3:=by
 have h1:=Z2P σ H r h;exact Zd (fun v H1 q=>Z1e (r:=fun vs H2=>r (v::vs) H2) q) h1
abbrev oNw(h:List D->Option D):R2:=fun x y H Q=>gNw h [x,y] H Q
def Zq{a b:Expr}{pos:Pos}{op:Operator}{h:List D->Option D}{fa fb:EF}(ho:OpR X (binaryOp op) (oNw h))(ha:PE X a (lE R ix fa))(hb:PE X b (lE R ix fb)):PE X (.BinOp a op b pos) (lE R ix (eNw h (Z0 fa (Z0 fb Z1)))):=
 peM (pe_op ho ha hb) fun σ H Q q=>Z1e (Z0P σ H Q q)
def Zh8{a b:Expr}{pos:Pos}{op:CmpOp}{h:List D->Option D}{fa fb:EF}(ho:OpR X (compareOp op) (oNw h))(ha:PE X a (lE R ix fa))(hb:PE X b (lE R ix fb))(hm:behindInMarks op b=false):PE X (.Compare a [op] [b] pos) (lE R ix (eNw h (Z0 fa (Z0 fb Z1)))):=
 peM (Z4n ho ha hb hm) fun σ H Q q=>Z1e (Z0P σ H Q q)
def opM{f:Value->Value->Sem Value}{r r':R2}(h:OpR X f r)(m:∀ x y H Q,r' x y H Q->r x y H Q):OpR X f r':=fun pins s σ H x y v u Q I rx ry q=>h pins s σ H x y v u Q I rx ry (m _ _ _ _ q)
def callM{f:Value}{r r':List V->Hp->VK->Prop}(h:Z0f X f r)(m:∀ vs H Q,r' vs H Q->r vs H Q):Z0f X f r':=fun pins s σ H x u Q I rx q=>h pins s σ H x u Q I rx (m _ _ _ q)
end
end
mutual
inductive Sel where
 | ch (j:Nat) | ar (m:Nat) | cs (v:V)
set_option genCtorIdx true in set_option genInjectivity false in gen_injective_theorems% Sel
abbrev pick(rs:List DV)(ds:List D)(s1:Sd):Sel->ER DV
 | .ch j=>match rs,ds with
  | .val _::_,.nd _ l::_=>(match l[j]? with | some c=>.ok (.val c) s1 | none=>.no)
  | .plc k p::_,.nd _ l::_=>(match l[j]? with | some c=>.ok (mkV k (p++[j]) c) s1 | none=>.no)
  | _,_=>.no
 | .ar m=>match rs[m]? with | some r=>.ok r s1 | none=>.no
 | .cs v=>.ok (.val (.at (cl v))) s1
abbrev eCh(h:List D->Option Sel)(f:AF):EF:=fun s=>match f s with
 | .ok rs s1=>(match Z0N s1 rs with | some ds=>(match h ds with | some c=>pick rs ds s1 c | none=>.no) | none=>.no)
 | .ex C s1=>.ex C s1
 | .no=>.no
abbrev selT(l:List T):Sel->Option V
 | .ch j=>match l with | .nd _ _ c::_=>(c[j]?).map T.val | _=>none
 | .ar m=>(l[m]?).map T.val
 | .cs v=>some v
abbrev gCh(h:List D->Option Sel):List V->Hp->VK->Prop:=fun vs H Q=>∃ l:List T,T.oks H l/\l.map T.val=vs/\∃ c v,h (T.ers l)=some c/\selT l c=some v/\Q v H
end
section
mutual
variable {R:RC}{ix:List Nat}{hd:List (Nat×Addr)}{X:Cx}{e:Expr}{H H':Hp}{σ:L2.St}{ts:Ts}{fr:List T}
def Z7Z{m:Nat}{tv:TV}:∀ {tvs:List TV},tvs[m]?=some tv->∃ x,(T.owns (trs tvs)).Perm (T.owns tv.tr++x)/\(∀ a∈T.ros tv.tr,a∈T.ros (trs tvs))/\∀ t∈tv.tr,t∈trs tvs:=by
 induction m with
 | zero=>
  intro tvs h
  match tvs,h with
  | y::r,h=>
   cases h;show ∃ x,(T.owns (tv.tr++trs r)).Perm _/\_;exact ⟨T.owns (trs r),by rw [T.owns_app],fun a z=>by show a∈T.ros (tv.tr++trs r);rw [T.ros_app];exact Qh _ z,fun t z=>Qh _ z⟩
 | succ m ih=>
  intro tvs h
  match tvs,h with
  | y::r,h=>
   obtain ⟨x,h1,h2,h3⟩:=ih (tvs:=r) (by simpa using h);refine ⟨T.owns y.tr++x,?_,fun a z=>?_,fun t z=>Qe _ (h3 t z)⟩
   .show (T.owns (y.tr++trs r)).Perm _
    rw [T.owns_app];refine (List.Perm.append_left _ h1).trans ?_;rw [<- Qn,<- Qn];exact List.Perm.append_right _ Wf
   .show a∈T.ros (y.tr++trs r)
    rw [T.ros_app];exact Qe _ (h2 a z)
def Cf.one{m:Nat}{tv:TV}{tvs:List TV}(C:Cf R ix hd H σ ts (trs tvs++fr))(h:tvs[m]?=some tv):Cf R ix hd H σ ts (tv.tr++fr):=by
 obtain ⟨x,h1,h2,h3⟩:=Z7Z h;have ok:=T.oks_app.mp C.fok;refine C.less (x:=x) (T.oks_app.mpr ⟨T.oks_iff.mpr fun t z=>T.oks_iff.mp ok.1 t (h3 t z),ok.2⟩) ?_ fun a z=>?_
 .rw [T.owns_app,T.owns_app,Qn]
  refine (List.Perm.append_right _ h1).trans ?_;rw [Qn];exact List.Perm.append_left _ Wf
 .rw [T.ros_app] at z ⊢
  rcases Qf.mp z with z | z
  .exact .inl (Qh _ (h2 a z))
  .exact .inl (Qe _ z)
def Cf.child{a:Addr}{k:NK}{l:List T}{j:Nat}{c:T}(C:Cf R ix hd H σ ts (.nd a k l::fr))(h:l[j]?=some c):Cf R ix hd H σ ts (c::fr):=by
 obtain ⟨x,y,e1,e2⟩:=T.owns_get h;obtain ⟨x',y',f1,f2⟩:=T.ros_get h;refine C.less (x:=(if k.mut then [a] else [])++(x++y)) ⟨T.oks_iff.mp C.fok.1.2 c (Qg h),C.fok.2⟩ ?_ fun b z=>?_
 .rw [T.owns_cons,T.owns_cons,T.own,e1]
  refine Qw.mpr fun b=>?_;simp only [Jk];omega
 .left
  rw [T.ros_cons,T.ro,f1];rw [T.ros_cons] at z;simp only [Qf] at z ⊢;rcases z with z | z <;> simp [z]
def TvsOk.get:∀ {vs:List V} {tvs:List TV} {m:Nat} {tv:TV},TvsOk ts vs tvs->tvs[m]?=some tv->∃ v,vs[m]?=some v/\Z08 ts v tv
 | _,_,0,_,.cons h _,e=>by cases e;exact ⟨_,rfl,h⟩
 | _,_,m + 1,_,.cons _ r,e=>by simpa using TvsOk.get r (by simpa using e)
def lA_ch{h:List D->Option Sel}{f:AF}(σ:L2.St)(H:Hp)(Q:VK)(q:lE R ix (eCh h f) σ H Q):lA R ix f σ H fun vs H1=>gCh h vs H1 Q:=by
 obtain ⟨hd,ts,fr,C,q⟩:=q;refine ⟨hd,ts,fr,C,?_⟩;unfold eCh at q
 cases ef:f (ts.map TL.er) with
 | no=>rw [ef] at q;exact q
 | ex E s1=>rw [ef] at q;exact q
 | ok rs s1=>
  rw [ef] at q;intro H1 ts1 tvs vs e1 e2 hv C1;subst e1 e2;dsimp only at q
  cases ed:Z0N (ts1.map TL.er) (tvs.map TV.er) with
  | none=>rw [ed] at q;exact q.elim
  | some ds=>
   rw [ed] at q;dsimp only at q
   cases eh:h ds with
   | none=>rw [eh] at q;exact q.elim
   | some c=>
    rw [eh] at q;obtain ⟨l,l1,l2,l3,l4⟩:=Z63 C1 hv (T.oks_app.mp C1.fok).1 ed;dsimp only at q
    cases c with
    | cs v=>exact ⟨l,l3,l2,_,v,by rw [l1];exact eh,rfl,q H1 ts1 (.val (.at v)) v rfl rfl rfl (C1.drops.at v)⟩
    | ar m=>
     simp only [pick,Qc] at q
     cases em:tvs[m]? with
     | none=>rw [em] at q;exact q.elim
     | some tv=>
      rw [em] at q;obtain ⟨v,v1,v2⟩:=hv.get em;refine ⟨l,l3,l2,_,v,by rw [l1];exact eh,?_,q H1 ts1 tv v rfl rfl v2 (C1.one em)⟩;rw [<- l2,Qc] at v1;exact v1
    | ch j=>
     cases hv with
     | nil=>simp only [Jw,pick] at q
     | @cons v tv vs tvs hv hr=>
      simp only [Qj,Z0N] at ed
      cases e1:Zt (ts1.map TL.er) tv.er with
      | none=>rw [e1] at ed;cases ed
      | some d=>
       cases e2:Z0N (ts1.map TL.er) (tvs.map TV.er) with
       | none=>rw [e1,e2] at ed;cases ed
       | some ds'=>
        rw [e1,e2] at ed;cases ed;have ho:T.oks H1 (tv.tr++trs tvs):=(T.oks_app.mp C1.fok).1;obtain ⟨t,t1,t2,t3,t4⟩:=Z6V C1 hv (T.oks_app.mp ho).1 e1;obtain ⟨l',l1',l2',l3',_⟩:=Z63 C1 hr (T.oks_app.mp ho).2 e2;have C2:Cf R ix hd H1 σ ts1 (tv.tr++fr):=C1.one (m:=0) (tvs:=tv::tvs) rfl
        cases t with
        | «at» v0=>
         cases t1;rcases t4 with rfl | ⟨k,p,a,w,u,rfl,_,_⟩ <;> simp only [Qj,TV.er,T.er,pick] at q
        | nd a k ch=>
         simp only [T.er] at t1;subst t1;rcases t4 with rfl | ⟨k',p,a',w,u,rfl,h1,h2⟩
         .simp only [Qj,TV.er,pick,T.ers_eq,Qc] at q
          cases ec:ch[j]? with
          | none=>rw [ec] at q;exact q.elim
          | some c=>
           rw [ec] at q;refine ⟨.nd a k ch::l',⟨t3,l3'⟩,by simp [t2,l2'],.ch j,c.val,by rw [T.ers,l1'];exact eh,by simp [selT,ec],?_⟩;exact q H1 ts1 (.val c) c.val rfl rfl rfl (C2.child ec)
         .simp only [Qj,TV.er,pick,T.ers_eq,Qc] at q
          cases ec:ch[j]? with
          | none=>rw [ec] at q;exact q.elim
          | some c=>
           rw [ec] at q;refine ⟨.nd a k ch::l',⟨t3,l3'⟩,by simp [t2,l2'],.ch j,c.val,by rw [T.ers,l1'];exact eh,by simp [selT,ec],?_⟩;obtain ⟨tv',f1,f2,f3⟩:=mk_ok (p:=p++[j]) C2 h1 (by rw [T.get_app,h2];show T.get [j] (.nd a k ch)=some c;simp only [T.get,ec]);exact q H1 ts1 tv' c.val rfl f1 f2 f3
end
end
mutual
abbrev sub:List Nat->List Nat->Option Nat
 | [],i::_=>some i
 | x::p,y::q=>if x=y then sub p q else none
 | _,[]=>none
def Z6O{i:Nat}:∀ {p q:List Nat},sub p q=some i->∃ r,q=p++i::r
 | [],j::r,h=>by cases h;exact ⟨r,rfl⟩
 | x::p,y::q,h=>by
  unfold sub at h
  split at h
  case isTrue e=>subst e;obtain ⟨r,rfl⟩:=Z6O h;exact ⟨r,rfl⟩
  case isFalse=>cases h
 | x::p,[],h=>by cases h
 | [],[],h=>by cases h
abbrev gone(k:Nat)(p:List Nat)(keep:Nat->Bool)(k':Nat)(q:List Nat):Bool:=decide (k'=k) && (match sub p q with | some i=>!keep i | none=>false)
abbrev killD(k:Nat)(p:List Nat)(keep:Nat->Bool):DL->DL
 | .bor k' q=>if gone k p keep k' q then .non else .bor k' q
 | s=>s
abbrev ZP(k:Nat)(p:List Nat)(keep:Nat->Bool):TL->TL
 | .bor k' q a=>if gone k p keep k' q then .non else .bor k' q a
 | s=>s
def Z3Y{k:Nat}{p:List Nat}{keep:Nat->Bool}{k':Nat}{q:List Nat}{a:Addr}:ZP k p keep (.bor k' q a)=if gone k p keep k' q then .non else .bor k' q a:=rfl
def ZbE{k:Nat}{p:List Nat}{keep:Nat->Bool}{k':Nat}{q:List Nat}:killD k p keep (.bor k' q)=if gone k p keep k' q then .non else .bor k' q:=rfl
def ZeM{k:Nat}{p:List Nat}{keep:Nat->Bool}(s:TL):(ZP k p keep s).er=killD k p keep s.er:=by
 cases s with
 | non=>rfl
 | own w t=>rfl
 | bor k' q a=>
  simp only [TL.er];rw [Z3Y,ZbE];cases gone k p keep k' q <;> rfl
def Z0t{k:Nat}{p:List Nat}{keep:Nat->Bool}(s:TL):ZP k p keep s=s\/(ZP k p keep s=.non/\∃ k' q a,s=.bor k' q a):=by
 cases s with
 | non=>exact .inl rfl
 | own w t=>exact .inl rfl
 | bor k' q a=>
  rw [Z3Y];cases gone k p keep k' q
  .exact .inl rfl
  .exact .inr ⟨rfl,_,_,_,rfl⟩
def Z1o{α:Type}{f:TL->List α}{k:Nat}{y:TL}:∀ {ts:Ts},ts[k]?=some y->∃ x z,ts.flatMap f=x++(f y++z)/\∀ y',(ts.set k y').flatMap f=x++(f y'++z):=by
 induction k with
 | zero=>
  intro ts h
  match ts,h with
  | t::r,h=>cases h;exact ⟨[],r.flatMap f,rfl,fun y'=>rfl⟩
 | succ k ih=>
  intro ts h
  match ts,h with
  | t::r,h=>
   obtain ⟨x,z,e1,e2⟩:=ih (ts:=r) (by simpa using h);exact ⟨f t++x,z,by simp [e1],fun y'=>by simp [e2 y']⟩
def Z3x{α:Type}{f:TL->List α}{k:Nat}{p:List Nat}{keep:Nat->Bool}(hb:∀ k q a,f (.bor k q a)=f .non)(ts:Ts):(ts.map (ZP k p keep)).flatMap f=ts.flatMap f:=by
 induction ts with
 | nil=>rfl
 | cons t r ih=>
  simp only [Qj,We,ih];rcases Z0t (k:=k) (p:=p) (keep:=keep) t with e | ⟨e,k',q,a,rfl⟩
  .rw [e]
  .rw [e,hb]
def Z64{s s':T}:∀ {p q:List Nat} {t u:T},t.get p=some s->s'.val=s.val->sub p q=none->t.get q=some u->∃ u',(T.put s' p t).get q=some u'/\u'.val=u.val
 | [],[],t,u,h1,h2,_,h4=>by cases h1;cases h4;exact ⟨s',rfl,h2⟩
 | [],j::q,t,u,_,_,h3,_=>by cases h3
 | i::p,[],t,u,h1,h2,_,h4=>by cases h4;exact ⟨_,rfl,T.put_val h1 h2⟩
 | i::p,j::q,.at v,u,h1,_,_,_=>by cases h1
 | i::p,j::q,.nd a k l,u,h1,h2,h3,h4=>by
  simp only [T.get] at h1 h4
  cases e:l[i]? with
  | none=>rw [e] at h1;cases h1
  | some c=>
   rw [e] at h1;simp only [T.put,e,T.get];unfold sub at h3;by_cases hij:i=j
   .subst hij
    rw [if_pos rfl] at h3;rw [e] at h4;rw [Qp,if_pos rfl,if_pos (Qd.mp e).1];exact Z64 h1 h2 h3 h4
   .rw [Qp,if_neg hij]
    exact ⟨u,h4,rfl⟩
def Z6W{s s':T}:∀ {p r:List Nat} {t:T},t.get p=some s->(T.put s' p t).get (p++r)=s'.get r
 | [],r,t,_=>rfl
 | i::p,r,.at v,h=>by cases h
 | i::p,r,.nd a k l,h=>by
  simp only [T.get] at h
  cases e:l[i]? with
  | none=>rw [e] at h;cases h
  | some c=>
   rw [e] at h;simp only [T.put,e,Jm,T.get];rw [Qp,if_pos rfl,if_pos (Qd.mp e).1];exact Z6W h
end
section
variable {R:RC}{ix:List Nat}{hd:List (Nat×Addr)}{X:Cx}{e:Expr}{H H':Hp}{σ:L2.St}{ts:Ts}{fr:List T}
theorem Cf.write{k:Nat}{t:T}{p:List Nat}{a:Addr}{kd kd':NK}{l l' fr':List T}{x:List Addr}{o:HO}{keep:Nat->Bool}(C:Cf R ix hd H σ ts fr)(hk:ts[k]?=some (.own true t))(hp:t.get p=some (.nd a kd l))(hm:kd.mut=true)(hm':kd'.mut=true)
  (ho:(T.nd a kd' l').ok (upd H a o)) (hf:T.oks (upd H a o) fr') (hown:(T.owns l++T.owns fr).Perm (T.owns l'++T.owns fr'++x))
  (hro:∀ b,b∈T.ros l'\/b∈T.ros fr'->b∈T.ros l\/b∈T.ros fr\/b∈roS ts\/b∈x) (hkeep:∀ (i:Nat) (c:T),keep i=true->l[i]?=some c->l'[i]?=some c) :
  Cf R ix hd (upd H a o) σ ((ts.set k (.own true (T.put (.nd a kd' l') p t))).map (ZP k p keep)) fr':=by
 obtain ⟨c,r,K⟩:=T.ctx hp;obtain ⟨x1,z1,o1,o2⟩:=Z1o (f:=TL.own1) hk;obtain ⟨x2,z2,r1,r2⟩:=Z1o (f:=TL.ro1) hk;obtain ⟨x3,z3,d1,d2⟩:=Z1o (f:=TL.rd1) hk;have own_nd:(T.nd a kd l).own=a::T.owns l:=by simp [T.own,hm]
 have own_nd':(T.nd a kd' l').own=a::T.owns l':=by simp [T.own,hm']
 have ro_nd:(T.nd a kd l).ro=T.ros l:=by simp [T.ro,hm]
 have ro_nd':(T.nd a kd' l').ro=T.ros l':=by simp [T.ro,hm']
 generalize hs':T.nd a kd' l'=s' at *;have hv:s'.val=(T.nd a kd l).val:=by rw [<- hs'];rfl
 generalize ht':T.put s' p t=t'
 have eO:Ze ((ts.set k (.own true t')).map (ZP k p keep))=x1++(t'.own++z1):=by
  unfold Ze;rw [Z3x (by intros;rfl),o2];rfl
 have eR:roS ((ts.set k (.own true t')).map (ZP k p keep))=x2++(t'.ro++z2):=by
  unfold roS;rw [Z3x (by intros;rfl),r2];rfl
 have eD:rdS ((ts.set k (.own true t')).map (ZP k p keep))=rdS ts:=by
  unfold rdS;rw [Z3x (by intros;rfl),d2,d1];rfl
 have fO:Ze ts=x1++(t.own++z1):=o1;have fR:roS ts=x2++(t.ro++z2):=r1
 have pm:(Ze ts++T.owns fr).Perm ((x1++(t'.own++z1)++T.owns fr')++x):=by
  rw [fO];refine Qw.mpr fun b=>?_;have q1:=(Qw.mp K.own b);have q2:=(Qw.mp (K.own' s') b);have q3:=(Qw.mp hown b);rw [ht'] at q2;rw [own_nd] at q1;rw [own_nd'] at q2;simp only [Jk,List.count_cons] at q1 q2 q3 ⊢;omega
 have nd2:=pm.nodup_iff.mp C.nd;have nd3:=Qm.mp nd2
 have sub1:∀ b,b∈x1++(t'.own++z1)\/b∈T.owns fr'->b∈Ze ts\/b∈T.owns fr:=fun b z=>by
  have:b∈Ze ts++T.owns fr:=pm.mem_iff.mpr (Qh _ (by rcases z with z | z;exact Qh _ z;exact Qe _ z))
  exact Qf.mp this
 have subx:∀ b,b∈x->b∈Ze ts\/b∈T.owns fr:=fun b z=>Qf.mp (pm.mem_iff.mpr (Qe _ z));have ina:a∈t.own:=K.own.mem_iff.mpr (Qe _ (by rw [own_nd];exact Qs));have inS:a∈Ze ts:=by rw [fO];simp [ina]
 have hn1:=(Qm.mp C.nd).1;rw [fO] at hn1;have up:∀ b,b≠a->upd H a o b=H b:=fun b hb=>Zb hb
 have other:∀ (j:Nat) w u,j≠k->ts[j]?=some (TL.own w u)->u.ok (upd H a o):=by
  intro j w u hj hu;have hm:=Qg hu;refine T.keep (C.ok w u hm) fun b hb=>up b ?_;rintro rfl;rcases hb with hb | hb
  .cases w with
   | false=>exact (C.rd b (Z3y.mpr ⟨u,hm,hb⟩)).1 inS
   | true=>
    have h1:b∈Ze (ts.set k .non):=Z1f.mpr ⟨u,Qg (by rw [Qp,if_neg (Ne.symm hj)];exact hu),hb⟩;unfold Ze at h1;rw [o2] at h1;have h2:=Qm.mp hn1;have h3:=Qm.mp h2.2.1;simp only [TL.own1,Jq,Qf] at h1;rcases h1 with h1 | h1
    .exact h2.2.2 b h1 b (Qh _ ina) rfl
    .exact h3.2.2 b ina b h1 rfl
  .exact (C.sep b (.inl (Z1p.mpr ⟨w,u,hm,hb⟩))).1 inS
 have tok':t'.ok (upd H a o):=by
  rw [<- ht'];refine K.ok (C.ok true t (Qg hk)) (fun b hb=>up b ?_) ho hv;rintro rfl;rcases hb with hb | hb
  .have h2:=(Qm.mp hn1).2.1
   have h3:=(Qm.mp h2).1;have h4:=K.own.nodup_iff.mp h3;exact (Qm.mp h4).2.2 b hb b (by rw [own_nd];exact Qs) rfl
  .exact (C.sep b (.inl (by rw [fR];simp [K.ro.mem_iff.mpr (Qh _ hb)]))).1 inS
 have slot:∀ (j:Nat) (y:TL),((ts.set k (.own true t')).map (ZP k p keep))[j]?=some y->(j=k/\y=.own true t')\/(j≠k/\∃ y0,ts[j]?=some y0/\y=ZP k p keep y0):=by
  intro j y hy;rw [Qc,Qp] at hy;by_cases hj:k=j
  .subst hj
   rw [if_pos rfl,if_pos (Qd.mp hk).1] at hy;cases hy;exact .inl ⟨rfl,rfl⟩
  .rw [if_neg hj] at hy
   cases ey:ts[j]? with
   | none=>rw [ey] at hy;cases hy
   | some y0=>rw [ey] at hy;cases hy;exact .inr ⟨Ne.symm hj,y0,rfl,rfl⟩
 have tv':t'.val=t.val:=by rw [<- ht'];exact T.put_val hp hv
 have slv:∀ (j:Nat) (y:TL) (v:V),((ts.set k (.own true t')).map (ZP k p keep))[j]?=some y->y.v=some v->∃ y0,ts[j]?=some y0/\y0.v=some v:=by
  intro j y v hy hv;rcases slot j y hy with ⟨rfl,rfl⟩ | ⟨hj,y0,h0,rfl⟩
  .exact ⟨_,hk,by rw [<- hv];simp only [TL.v,tv']⟩
  .refine ⟨y0,h0,?_⟩
   rcases Z0t (k:=k) (p:=p) (keep:=keep) y0 with e | ⟨e,_⟩
   .rwa [e] at hv
   .rw [e] at hv;cases hv
 have len:((ts.set k (.own true t')).map (ZP k p keep)).length=ts.length:=by simp
 refine ⟨fun w u hu=>?_,hf,by rw [eO];exact nd3.1,fun b z=>?_,fun b z=>?_,fun b z=>?_,C.bg,fun j k' q b hj=>?_,fun j hj=>by rw [len];exact C.ixs j hj,fun i j y v h1 h2 h3=>?_,fun j b hj=>by rw [len];exact C.hdi j b hj,C.hdx,C.len,fun j b hj y v h2 h3=>?_⟩
 .obtain ⟨j,hj⟩:=Jg.mp hu
  rcases slot j _ hj with ⟨rfl,e⟩ | ⟨hjk,y0,h0,e⟩
  .cases e;exact tok'
  .rcases Z0t (k:=k) (p:=p) (keep:=keep) y0 with e' | ⟨e',_⟩
   .rw [e'] at e;subst e;exact other j w u hjk h0
   .rw [e'] at e;cases e
 .have old:b∈roS ts\/b∈T.ros fr->b∉x1++(t'.own++z1)/\b∉T.owns fr'/\¬ R.B b:=fun z=>by
   obtain ⟨h1,h2,h3⟩:=C.sep b z;exact ⟨fun q=>(sub1 b (.inl q)).elim h1 h2,fun q=>(sub1 b (.inr q)).elim h1 h2,h3⟩
  have new:b∈T.ros l'\/b∈T.ros fr'->b∉x1++(t'.own++z1)/\b∉T.owns fr'/\¬ R.B b:=fun z=>by
   rcases hro b z with q | q | q | q
   .exact old (.inl (by rw [fR];simp [K.ro.mem_iff.mpr (Qe _ (by rw [ro_nd];exact q))]))
   .exact old (.inr q)
   .exact old (.inl q)
   .refine ⟨fun y=>nd3.2.2 b (Qh _ y) b q rfl,fun y=>nd3.2.2 b (Qe _ y) b q rfl,fun y=>?_⟩
    obtain ⟨_,_,g3,g4⟩:=C.g b (C.bg b y);exact (subx b q).elim g3 g4
  rw [eO];rw [eR] at z;rcases z with z | z
  .simp only [Qf] at z
   rcases z with z | z | z
   .exact old (.inl (by rw [fR];simp [z]))
   .have z':=(K.ro' s').mem_iff.mp (by rw [ht'];exact z)
    rcases Qf.mp z' with z' | z'
    .exact old (.inl (by rw [fR];simp [K.ro.mem_iff.mpr (Qh _ z')]))
    .rw [ro_nd'] at z';exact new (.inl z')
   .exact old (.inl (by rw [fR];simp [z]))
  .exact new (.inr z)
 .rw [eD] at z
  rw [eO];obtain ⟨h1,h2⟩:=C.rd b z;exact ⟨fun q=>(sub1 b (.inl q)).elim h1 h2,fun q=>(sub1 b (.inr q)).elim h1 h2⟩
 .rw [eO]
  obtain ⟨g1,g2,g3,g4⟩:=C.g b z;have hb:b≠a:=by rintro rfl;exact g3 inS
  rw [up b hb];exact ⟨g1,g2,fun q=>(sub1 b (.inl q)).elim g3 g4,fun q=>(sub1 b (.inr q)).elim g3 g4⟩
 .
  rcases slot j _ hj with ⟨rfl,e⟩ | ⟨hjk,y0,h0,e⟩
  .cases e
  .rcases Z0t (k:=k) (p:=p) (keep:=keep) y0 with e' | ⟨e',_⟩
   .rw [e'] at e
    subst e;obtain ⟨w,u,s,h1,h2,h3⟩:=C.bor j k' q b h0;by_cases hkk:k'=k
    .subst hkk
     rw [hk] at h1;cases h1
     have at':((ts.set k' (.own true t')).map (ZP k' p keep))[k']?=some (.own true t'):=by
      rw [Qc,Qp,if_pos rfl,if_pos (Qd.mp hk).1];rfl
     cases hs:sub p q with
     | none=>
      obtain ⟨u',q1,q2⟩:=Z64 (s':=s') hp hv hs h2;rw [ht'] at q1;exact ⟨true,t',u',at',q1,q2.trans h3⟩
     | some i=>
      have hki:keep i=true:=by
       rw [Z3Y] at e'
       cases hg:keep i with
       | true=>rfl
       | false=>
        have:gone k' p keep k' q=true:=by simp [gone,hs,hg]
        rw [this] at e';cases e'
      obtain ⟨r',rfl⟩:=Z6O hs;refine ⟨true,t',s,at',?_,h3⟩;rw [<- ht',Z6W hp,<- hs'];rw [T.get_app,hp] at h2;have h2':T.get (i::r') (.nd a kd l)=some s:=h2;simp only [T.get] at h2' ⊢
      cases el:l[i]? with
      | none=>rw [el] at h2';cases h2'
      | some ch=>rw [el] at h2';rw [hkeep i ch hki el];exact h2'
    .refine ⟨w,u,s,?_,h2,h3⟩
     rw [Qc,Qp,if_neg (Ne.symm hkk),h1];rfl
   .rw [e'] at e;cases e
 .obtain ⟨y0,q1,q2⟩:=slv j y v h2 h3
  exact C.sl i j y0 v h1 q1 q2
 .obtain ⟨y0,q1,q2⟩:=slv j y v h2 h3
  exact C.hdn j b hj y0 v q1 q2
end
mutual
inductive Mu where
 | add (kd:NK) (m:Nat)
 | set (j m:Nat)
set_option genCtorIdx true in set_option genInjectivity false in gen_injective_theorems% Mu
abbrev HoOk(o:HO):NK->List V->Prop
 | .lst true,vs=>o=.lst vs
 | .dic true ks,vs=>ks.length=vs.length/\ks.Nodup/\o=.dK (ks.zip vs)
 | .dit true ks,vs=>ks.length=vs.length/\ks.Nodup/\o=.dT (ks.zip vs)
 | .ins true C ns,vs=>ns.length=vs.length/\∃ dx,o=.ins C dx (ns.zip vs)
 | _,_=>False
def HoOk.node{o:HO}{kd:NK}{vs:List V}{H:Hp}{a:Addr}(h:HoOk o kd vs):NodeOk (upd H a o) a kd vs/\kd.mut=true:=by
 cases kd with
 | tup=>exact h.elim
 | lst m=>cases m with
  | true=>cases h;exact ⟨Zj,rfl⟩
  | false=>exact h.elim
 | dic m ks=>cases m with
  | true=>obtain ⟨h1,h2,rfl⟩:=h;exact ⟨⟨h1,h2,Zj⟩,rfl⟩
  | false=>exact h.elim
 | dit m ks=>cases m with
  | true=>obtain ⟨h1,h2,rfl⟩:=h;exact ⟨⟨h1,h2,Zj⟩,rfl⟩
  | false=>exact h.elim
 | ins m C ns=>cases m with
  | true=>obtain ⟨h1,dx,rfl⟩:=h;exact ⟨⟨h1,dx,Zj⟩,rfl⟩
  | false=>exact h.elim
 | kst K=>exact h.elim
 | lnk b l=>exact h.elim
abbrev wr(s:Sd)(k:Nat)(p:List Nat)(n:D)(keep:Nat->Bool):Sd:=match s[k]? with
 | some (.own true d)=>(s.set k (.own true (D.put n p d))).map (killD k p keep)
 | _=>s
abbrev eMu(ri:Nat)(h:List D->Option Mu)(f:AF):EF:=fun s=>match f s with
 | .ok rs s1=>(match Z0N s1 rs,rs[ri]? with
  | some ds,some (.plc k p)=>(match s1[k]?,ds[ri]?,h ds with
   | some (.own true _),some (.nd kd l),some (.add kd' m)=>if kd.mut then (match rs[m]? with | some (.val x)=>.ok (.val (.at .non)) (wr s1 k p (.nd kd' (l++[x])) fun _=>true) | _=>.no) else .no
   | some (.own true _),some (.nd kd l),some (.set j m)=>if kd.mut/\j < l.length then (match rs[m]? with | some (.val x)=>.ok (.val (.at .non)) (wr s1 k p (.nd kd (l.set j x)) fun i=>i != j) | _=>.no) else .no
   | _,_,_=>.no)
  | _,_=>.no)
 | .ex C s1=>.ex C s1
 | .no=>.no
abbrev gMu(ri:Nat)(h:List D->Option Mu):List V->Hp->(Hp->Prop)->Prop:=fun vs H Q=>∃ l:List T,T.oks H l/\l.map T.val=vs/\∃ a kd ch op,l[ri]?=some (.nd a kd ch)/\kd.mut=true/\h (T.ers l)=some op/\match op with
 | .add kd' m=>∃ x,l[m]?=some x/\∀ o,HoOk o kd' (ch.map T.val++[x.val])->Q (upd H a o)
 | .set j m=>∃ x,l[m]?=some x/\j < ch.length/\∀ o,HoOk o kd ((ch.map T.val).set j x.val)->Q (upd H a o)
end
section
mutual
variable {R:RC}{ix:List Nat}{hd:List (Nat×Addr)}{X:Cx}{e:Expr}{H H':Hp}{σ:L2.St}{ts:Ts}{fr:List T}
def Z8e(C:Cf R ix hd H σ ts fr):∀ {tvs:List TV} {vs:List V} {ds:List D},TvsOk ts vs tvs->T.oks H (trs tvs)->Z0N (ts.map TL.er) (tvs.map TV.er)=some ds ->
  ∃ l:List T,T.ers l=ds/\l.map T.val=vs/\T.oks H l/\l.length=tvs.length/\∀ (m:Nat) tv t,tvs[m]?=some tv->l[m]?=some t->(tv=.val t\/∃ k p a w u,tv=.plc k p a/\ts[k]?=some (TL.own w u)/\u.get p=some t)
 | [],_,_,.nil,_,h=>by cases h;exact ⟨[],rfl,rfl,trivial,rfl,by simp⟩
 | tv::tvs,_,_,.cons hv hr,ho,h=>by
  simp only [Qj,Z0N] at h
  cases e1:Zt (ts.map TL.er) tv.er with
  | none=>simp [e1] at h
  | some d=>
   cases e2:Z0N (ts.map TL.er) (tvs.map TV.er) with
   | none=>simp [e1,e2] at h
   | some ds=>
    simp only [e1,e2,Je.injEq] at h;subst h;have ho':T.oks H (tv.tr++trs tvs):=ho;obtain ⟨t,t1,t2,t3,t4⟩:=Z6V C hv (T.oks_app.mp ho').1 e1;obtain ⟨l,l1,l2,l3,l4,l5⟩:=Z8e C hr (T.oks_app.mp ho').2 e2;refine ⟨t::l,by rw [T.ers,t1,l1],by simp [t2,l2],⟨t3,l3⟩,by simp [l4],fun m y z h1 h2=>?_⟩
    cases m with
    | zero=>cases h1;cases h2;exact t4
    | succ m=>exact l5 m y z (by simpa using h1) (by simpa using h2)
def wr_er{k:Nat}{p:List Nat}{t s':T}{keep:Nat->Bool}(hk:ts[k]?=some (.own true t)):((ts.set k (.own true (T.put s' p t))).map (ZP k p keep)).map TL.er=wr (ts.map TL.er) k p s'.er keep:=by
 unfold wr;rw [Qc,hk];show _=((ts.map TL.er).set k (.own true (D.put s'.er p t.er))).map (killD k p keep);rw [<- T.put_er,show DL.own true (T.put s' p t).er=(TL.own true (T.put s' p t)).er from rfl,<- Wk,Jl,Jl];exact Wu fun s _=>ZeM s
def lA_mu{ri:Nat}{h:List D->Option Mu}{f:AF}(σ:L2.St)(H:Hp)(Q:VK)(q:lE R ix (eMu ri h f) σ H Q):lA R ix f σ H fun vs H1=>gMu ri h vs H1 (Q .non):=by
 obtain ⟨hd,ts,fr,C,q⟩:=q;refine ⟨hd,ts,fr,C,?_⟩;unfold eMu at q
 cases ef:f (ts.map TL.er) with
 | no=>rw [ef] at q;exact q
 | ex E s1=>rw [ef] at q;exact q
 | ok rs s1=>
  rw [ef] at q;intro H1 ts1 tvs vs e1 e2 hv C1;subst e1 e2;dsimp only at q
  cases ed:Z0N (ts1.map TL.er) (tvs.map TV.er) with
  | none=>rw [ed] at q;exact q.elim
  | some ds=>
   rw [ed,Qc] at q;obtain ⟨l,l1,l2,l3,l4,l5⟩:=Z8e C1 hv (T.oks_app.mp C1.fok).1 ed
   cases er:tvs[ri]? with
   | none=>rw [er] at q;exact q.elim
   | some tr=>
    rw [er] at q
    cases tr with
    | val t=>exact q.elim
    | plc k p a=>
     simp only [Qu,TV.er,Qc] at q;have hri:ri < l.length:=by rw [l4];exact (Qd.mp er).1
     obtain ⟨tn,hn⟩:∃ tn,l[ri]?=some tn:=⟨l[ri],Qk hri⟩;have hnd:ds[ri]?=some tn.er:=by rw [<- l1,T.ers_eq,Qc,hn];rfl
     rcases l5 ri _ tn er hn with z | ⟨k',p',a',w,u,z,hk,hp⟩
     .cases z
     .cases z
      rw [hk,hnd] at q;simp only [Qu,TL.er] at q
      cases w with
      | false=>exact q.elim
      | true=>
       cases tn with
       | «at» v=>exact q.elim
       | nd a2 kd ch=>
        simp only [T.er] at q
        have hkn:kd.mut=true/\True:=⟨by
         cases hm:kd.mut with
         | true=>rfl
         | false=>
          exfalso
          cases eh:h ds with
          | none=>rw [eh] at q;exact q
          | some op=>cases op with
           | add kd' m=>rw [eh] at q;dsimp only at q;rw [hm] at q;exact q
           | set j m=>
            rw [eh] at q;dsimp only at q;rw [hm] at q;rw [if_neg (by rintro ⟨z,_⟩;cases z)] at q;exact q,trivial⟩
        refine ⟨l,l3,l2,a2,kd,ch,?_⟩;have ok:=T.oks_app.mp C1.fok;have hok:(T.nd a2 kd ch).ok H1:=T.oks_iff.mp l3 _ (Qg hn)
        have ha2:a2∈Ze ts1:=by
         obtain ⟨c,r,K⟩:=T.ctx hp;exact Z1f.mpr ⟨u,Qg hk,K.own.mem_iff.mpr (Qe _ (by simp [T.own,hkn.1]))⟩
        have stay:∀ (o:HO) (y:T),y∈trs tvs++fr->y.ok (upd H1 a2 o):=fun o y hy=>T.keep (T.oks_iff.mp C1.fok y hy) fun b hb=>Zb (by
         rintro rfl;rcases hb with hb | hb
         .have:=(Qm.mp C1.nd).2.2 b ha2 b (T.mem_owns.mpr ⟨y,hy,hb⟩)
          exact this rfl
         .exact (C1.sep b (.inr (T.mem_ros.mpr ⟨y,hy,hb⟩))).1 ha2)
        have kid:∀ (o:HO) (y:T),y∈ch->y.ok (upd H1 a2 o):=fun o y hy=>T.keep (T.oks_iff.mp hok.2 y hy) fun b hb=>Zb (by
         rintro rfl;obtain ⟨c,r,K⟩:=T.ctx hp;rcases hb with hb | hb
         .have n1:=(Qm.mp C1.nd).1
          obtain ⟨x1,z1,o1,_⟩:=Z1o (f:=TL.own1) hk;unfold Ze at n1;rw [o1] at n1;have n2:=(Qm.mp ((Qm.mp n1).2.1)).1;have n3:=(Qm.mp (K.own.nodup_iff.mp n2)).2.1;simp only [T.own,hkn.1,if_true,Gm,Jx] at n3;exact n3.1 (T.mem_owns.mpr ⟨y,hy,hb⟩)
         .refine (C1.sep b (.inl (Z1p.mpr ⟨true,u,Qg hk,K.ro.mem_iff.mpr (Qe _ ?_)⟩))).1 ha2
          simp only [T.ro,hkn.1,if_true,Jq];exact T.mem_ros.mpr ⟨y,hy,hb⟩)
        cases eh:h ds with
        | none=>rw [eh] at q;exact q.elim
        | some op=>
         rw [eh] at q
         have arg:∀ {m:Nat} {x:D} ,(tvs[m]?).map TV.er=some (.val x)->∃ t,tvs[m]?=some (.val t)/\l[m]?=some t/\t.er=x:=by
          intro m x hx
          cases em:tvs[m]? with
          | none=>rw [em] at hx;cases hx
          | some tv=>
           rw [em] at hx
           cases tv with
           | plc _ _ _=>cases hx
           | val t=>
            cases hx;have hml:m < l.length:=by rw [l4];exact (Qd.mp em).1
            rcases l5 m _ _ em (Qk hml) with z | ⟨_,_,_,_,_,z,_⟩
            .cases z;exact ⟨l[m],rfl,Qk hml,rfl⟩
            .cases z
         cases op with
         | add kd' m=>
          simp only [hkn.1,if_true] at q
          cases em:(tvs[m]?).map TV.er with
          | none=>rw [em] at q;exact q.elim
          | some r=>
           rw [em] at q
           cases r with
           | plc _ _=>exact q.elim
           | val x=>
            obtain ⟨t,t1,t2,rfl⟩:=arg em;refine ⟨.add kd' m,hn,hkn.1,by rw [l1];exact eh,t,t2,fun o ho=>?_⟩;obtain ⟨n1,n2⟩:=HoOk.node (H:=H1) (a:=a2) ho;obtain ⟨x,p1,p2,p3⟩:=Z7Z t1
            have W:=Cf.write (kd':=kd') (l':=ch++[t]) (fr':=fr) (x:=x) (o:=o) (keep:=fun _=>true) C1 hk hp hkn.1 n2
             ⟨by simpa using n1,T.oks_app.mpr ⟨T.oks_iff.mpr (kid o),stay o t (Qh _ (p3 t (by simp [TV.tr]))),trivial⟩⟩ (T.oks_iff.mpr fun y hy=>stay o y (Qe _ hy))
             (by
              rw [T.owns_app,T.owns_app];refine Qw.mpr fun b=>?_;have:=Qw.mp p1 b;simp only [TV.tr,T.owns,Jk,List.count_nil] at this ⊢;omega)
             (fun b hb=>by
              rw [T.ros_app] at hb ⊢;rcases hb with hb | hb
              .rcases Qf.mp hb with hb | hb
               .exact .inl hb
               .exact .inr (.inl (Qh _ (p2 b (by simpa [TV.tr] using hb))))
              .exact .inr (.inl (Qe _ hb)))
             (fun i c _ hc=>by rw [Qo (Qd.mp hc).1];exact hc)
            refine q _ _ (.val (.at .non)) .non ?_ rfl rfl (W.at .non);rw [wr_er hk];simp only [T.er,T.ers_eq,Wg,Qj,Jw]
         | set j m=>
          simp only [hkn.1,true_and] at q;by_cases hj:j < (T.ers ch).length
          case neg=>rw [if_neg hj] at q;exact q.elim
          rw [if_pos hj] at q;have hj:j < ch.length:=by simpa [T.ers_eq] using hj
          cases em:(tvs[m]?).map TV.er with
          | none=>rw [em] at q;exact q.elim
          | some r=>
           rw [em] at q
           cases r with
           | plc _ _=>exact q.elim
           | val x=>
            obtain ⟨t,t1,t2,rfl⟩:=arg em;refine ⟨.set j m,hn,hkn.1,by rw [l1];exact eh,t,t2,hj,fun o ho=>?_⟩;obtain ⟨n1,n2⟩:=HoOk.node (H:=H1) (a:=a2) ho;obtain ⟨x,p1,p2,p3⟩:=Z7Z t1;obtain ⟨x0,y0,c1,c2⟩:=T.owns_get (Qk hj)
            have W:=Cf.write (kd':=kd) (l':=ch.set j t) (fr':=fr) (x:=ch[j].own++x) (o:=o) (keep:=fun i=>i != j) C1 hk hp hkn.1 n2
             ⟨by rw [Wk];exact n1,T.oks_iff.mpr fun y hy=>by
              rcases Qaf hy with hy | rfl
              .exact kid o y hy
              .exact stay o _ (Qh _ (p3 _ (by simp [TV.tr])))⟩ (T.oks_iff.mpr fun y hy=>stay o y (Qe _ hy))
             (by
              rw [T.owns_app,c1,c2];refine Qw.mpr fun b=>?_;have:=Qw.mp p1 b;simp only [TV.tr,T.owns,Jk,List.count_nil] at this ⊢;omega)
             (fun b hb=>by
              rw [T.ros_app];rcases hb with hb | hb
              .obtain ⟨y,hy,hb2⟩:=T.mem_ros.mp hb
               rcases Qaf hy with hy | hy
               .exact .inl (T.mem_ros.mpr ⟨y,hy,hb2⟩)
               .rw [hy] at hb2
                exact .inr (.inl (Qh _ (p2 b (by simpa [TV.tr,T.ros] using hb2))))
              .exact .inr (.inl (Qe _ hb)))
             (fun i c hi hc=>by
              have:j≠i:=by rintro rfl;simp at hi
              rw [Qp,if_neg this];exact hc)
            refine q _ _ (.val (.at .non)) .non ?_ rfl rfl (W.at .non);rw [wr_er hk];simp only [T.er,T.ers_eq,Wk]
end
end
mutual
abbrev Z0j(j:Nat):DL->DL
 | .bor k q=>if k=j then .non else .bor k q
 | s=>s
abbrev Zf(j:Nat):TL->TL
 | .bor k q a=>if k=j then .non else .bor k q a
 | s=>s
def Z1V{j:Nat}(s:TL):(Zf j s).er=Z0j j s.er:=by
 cases s with
 | bor k q a=>
  show (if k=j then TL.non else _).er=if k=j then DL.non else _
  split <;> rfl
 | _=>rfl
def Z06{j:Nat}(s:TL):(Zf j s=s/\∀ q a,s≠.bor j q a)\/(Zf j s=.non/\∃ q a,s=.bor j q a):=by
 cases s with
 | bor k q a=>
  by_cases h:k=j
  .subst h;exact .inr ⟨if_pos rfl,q,a,rfl⟩
  .exact .inl ⟨if_neg h,fun q' a' z=>h (by cases z;rfl)⟩
 | non=>exact .inl ⟨rfl,fun _ _ z=>by cases z⟩
 | own w t=>exact .inl ⟨rfl,fun _ _ z=>by cases z⟩
def Z2t{α:Type}{f:TL->List α}{j:Nat}(hb:∀ k q a,f (.bor k q a)=f .non)(ts:Ts):(ts.map (Zf j)).flatMap f=ts.flatMap f:=by
 induction ts with
 | nil=>rfl
 | cons t r ih=>
  simp only [Qj,We,ih];rcases Z06 (j:=j) t with ⟨e,_⟩ | ⟨e,q,a,rfl⟩
  .rw [e]
  .rw [e,hb]
abbrev Zm(j:Nat)(s:Sd):DV->Option Sd
 | .val d=>some ((s.map (Z0j j)).set j (.own true d))
 | .plc k p=>if k=j then (if p=[] then some s else none) else some ((s.map (Z0j j)).set j (.bor k p))
end
section
mutual
variable {R:RC}{ix:List Nat}{hd:List (Nat×Addr)}{X:Cx}{e:Expr}{H H':Hp}{σ:L2.St}{ts:Ts}{fr:List T}
def Cf.slot{i j:Nat}{y:TL}{m:List T}{v:V}(C:Cf R ix hd H σ ts (m++fr))(hix:ix[i]?=some j)(hnd:ix.Nodup)(hv:y.v=some v)(hm:(∃ t,y=.own true t/\m=[t])\/(m=[]/\∃ k p a,y=.bor k p a/\k≠j/\PlOk ts k p a)) :
  Cf R ix hd H (σ.set i (some v)) ((ts.map (Zf j)).set j y) fr:=by
 have hj:j < ts.length:=C.ixs j (Qg hix);obtain ⟨y0,hy0⟩:∃ y0,ts[j]?=some y0:=⟨ts[j],Qk hj⟩;have hy0':(ts.map (Zf j))[j]?=some (Zf j y0):=by rw [Qc,hy0];rfl
 obtain ⟨x1,z1,o1,o2⟩:=Z1o (f:=TL.own1) hy0';obtain ⟨x2,z2,r1,r2⟩:=Z1o (f:=TL.ro1) hy0';obtain ⟨x3,z3,d1,d2⟩:=Z1o (f:=TL.rd1) hy0';rw [Z2t (by intros;rfl)] at o1 r1 d1
 have e1:(Zf j y0).own1=y0.own1/\(Zf j y0).ro1=y0.ro1/\(Zf j y0).rd1=y0.rd1:=by
  rcases Z06 (j:=j) y0 with ⟨e,_⟩ | ⟨e,q,a,rfl⟩ <;> rw [e] <;> exact ⟨rfl,rfl,rfl⟩
 rw [e1.1] at o1;rw [e1.2.1] at r1;rw [e1.2.2] at d1;have fO:Ze ts=x1++(y0.own1++z1):=o1;have fR:roS ts=x2++(y0.ro1++z2):=r1;have fD:rdS ts=x3++(y0.rd1++z3):=d1;have gO:Ze ((ts.map (Zf j)).set j y)=x1++(y.own1++z1):=o2 y;have gR:roS ((ts.map (Zf j)).set j y)=x2++(y.ro1++z2):=r2 y;have gD:rdS ((ts.map (Zf j)).set j y)=x3++(y.rd1++z3):=d2 y
 have yo:y.own1=T.owns m:=by
  rcases hm with ⟨t,rfl,rfl⟩ | ⟨rfl,k,p,a,rfl,_⟩
  .simp [TL.own1,T.owns]
  .rfl
 have yr:y.ro1=T.ros m:=by
  rcases hm with ⟨t,rfl,rfl⟩ | ⟨rfl,k,p,a,rfl,_⟩
  .simp [TL.ro1,T.ros]
  .rfl
 have yd:y.rd1=[]:=by
  rcases hm with ⟨t,rfl,rfl⟩ | ⟨rfl,k,p,a,rfl,_⟩ <;> rfl
 have pm:(Ze ts++T.owns (m++fr)).Perm ((x1++(y.own1++z1)++T.owns fr)++y0.own1):=by
  rw [fO,T.owns_app,yo];refine Qw.mpr fun b=>?_;simp only [Jk];omega
 have nd2:=Qm.mp (pm.nodup_iff.mp C.nd)
 have sub1:∀ b,b∈x1++(y.own1++z1)\/b∈T.owns fr->b∈Ze ts\/b∈T.owns (m++fr):=fun b z=>Qf.mp (pm.mem_iff.mpr (Qh _ (by
  rcases z with z | z
  .exact Qh _ z
  .exact Qe _ z)))
 have slot:∀ (j':Nat) (s:TL),((ts.map (Zf j)).set j y)[j']?=some s->(j'=j/\s=y)\/(j'≠j/\∃ s0,ts[j']?=some s0/\s=Zf j s0):=by
  intro j' s hs;rw [Qp] at hs;by_cases h:j=j'
  .subst h
   rw [if_pos rfl,if_pos (by simpa using hj)] at hs;cases hs;exact .inl ⟨rfl,rfl⟩
  .rw [if_neg h,Qc] at hs
   cases e:ts[j']? with
   | none=>rw [e] at hs;cases hs
   | some s0=>rw [e] at hs;cases hs;exact .inr ⟨Ne.symm h,s0,rfl,rfl⟩
 have plk:∀ {k:Nat} {p:List Nat} {a:Addr},k≠j->PlOk ts k p a->PlOk ((ts.map (Zf j)).set j y) k p a:=by
  rintro k p a hk ⟨w,u,s,h1,h2,h3⟩;exact ⟨w,u,s,by rw [Qp,if_neg (Ne.symm hk),Qc,h1];rfl,h2,h3⟩
 have lenS:((ts.map (Zf j)).set j y).length=ts.length:=by simp
 have hi:i < σ.length:=Qv (Qd.mp hix).1 C.len;refine ⟨fun w u hu=>?_,(T.oks_app.mp C.fok).2,by rw [gO];exact nd2.1,fun b z=>?_,fun b z=>?_,fun b z=>?_,C.bg,fun j' k q b hj'=>?_,fun j' hj'=>by rw [lenS];exact C.ixs j' hj',fun i' j' s u h1 h2 h3=>?_,fun j' b hb=>by rw [lenS];exact C.hdi j' b hb,C.hdx,by rw [List.length_set];exact C.len,fun j' b hb s u h2 h3=>?_⟩
 .obtain ⟨j',hj'⟩:=Jg.mp hu
  rcases slot j' _ hj' with ⟨rfl,e⟩ | ⟨_,s0,h0,e⟩
  .rcases hm with ⟨t,rfl,rfl⟩ | ⟨rfl,k,p,a,rfl,_⟩
   .cases e;exact (T.oks_app.mp C.fok).1.1
   .cases e
  .rcases Z06 (j:=j) s0 with ⟨e',_⟩ | ⟨e',_⟩
   .rw [e'] at e;subst e;exact C.ok w u (Qg h0)
   .rw [e'] at e;cases e
 .have old:b∈roS ts\/b∈T.ros (m++fr)->b∉x1++(y.own1++z1)/\b∉T.owns fr/\¬ R.B b:=fun z=>by
   obtain ⟨h1,h2,h3⟩:=C.sep b z;exact ⟨fun q=>(sub1 b (.inl q)).elim h1 h2,fun q=>(sub1 b (.inr q)).elim h1 h2,h3⟩
  rw [gO];rw [gR] at z;rcases z with z | z
  .rw [yr] at z
   simp only [Qf] at z;rcases z with z | z | z
   .exact old (.inl (by rw [fR];simp [z]))
   .exact old (.inr (by rw [T.ros_app];simp [z]))
   .exact old (.inl (by rw [fR];simp [z]))
  .exact old (.inr (by rw [T.ros_app];simp [z]))
 .rw [gO]
  rw [gD,yd] at z
  have z':b∈rdS ts:=by
   rw [fD];simp only [Jq,Qf] at z ⊢;rcases z with z | z <;> simp [z]
  obtain ⟨h1,h2⟩:=C.rd b z';exact ⟨fun q=>(sub1 b (.inl q)).elim h1 h2,fun q=>(sub1 b (.inr q)).elim h1 h2⟩
 .rw [gO]
  obtain ⟨g1,g2,g3,g4⟩:=C.g b z;exact ⟨g1,g2,fun q=>(sub1 b (.inl q)).elim g3 g4,fun q=>(sub1 b (.inr q)).elim g3 g4⟩
 .rcases slot j' _ hj' with ⟨rfl,e⟩ | ⟨_,s0,h0,e⟩
  .rcases hm with ⟨t,rfl,rfl⟩ | ⟨rfl,k',p',a',rfl,hk,hp⟩
   .cases e
   .cases e;exact plk hk hp
  .rcases Z06 (j:=j) s0 with ⟨e',hne⟩ | ⟨e',_⟩
   .rw [e'] at e
    subst e;exact plk (fun z=>hne q b (by rw [z])) (C.bor j' k q b h0)
   .rw [e'] at e;cases e
 .rcases slot j' _ h2 with ⟨rfl,rfl⟩ | ⟨hne,s0,h0,rfl⟩
  .have:i'=i:=by
    have a1:=(Qd.mp h1);have a2:=(Qd.mp hix);exact (List.getElem_inj hnd).mp (a1.2.trans a2.2.symm)
   subst this;rw [hv] at h3;cases h3;rw [Qp,if_pos rfl,if_pos hi]
  .have hii:i≠i':=by rintro rfl;rw [hix] at h1;cases h1;exact hne rfl
   rw [Qp,if_neg hii];refine C.sl i' j' s0 u h1 h0 ?_;rcases Z06 (j:=j) s0 with ⟨e',_⟩ | ⟨e',_⟩
   .rwa [e'] at h3
   .rw [e'] at h3;cases h3
 .have hne:j'≠j:=by rintro rfl;exact C.hdx j' b hb (Qg hix)
  rcases slot j' _ h2 with ⟨rfl,rfl⟩ | ⟨_,s0,h0,rfl⟩
  .exact absurd rfl hne
  .refine C.hdn j' b hb s0 u h0 ?_
   rcases Z06 (j:=j) s0 with ⟨e',_⟩ | ⟨e',_⟩
   .rwa [e'] at h3
   .rw [e'] at h3;cases h3
abbrev lG(R:RC)(ix:List Nat)(b:Sd->DV->Option Sd):TG:=fun v σ H Q=>∃ hd ts fr tv,Cf R ix hd H σ ts (tv.tr++fr)/\Z08 ts v tv/\∃ s',b (ts.map TL.er) tv.er=some s'/\∀ σ' ts',ts'.map TL.er=s'->Cf R ix hd H σ' ts' fr->Q σ' H
def ZeR{i j:Nat}(hix:ix[i]?=some j)(hnd:ix.Nodup)(v:V)(σ:L2.St)(H:Hp)(Q:L2.St->Hp->Prop)(h:lG R ix (Zm j) v σ H Q):Z1l i v σ H Q:=by
 obtain ⟨hd,ts,fr,tv,C,hv,s',hs,q⟩:=h
 have er1:∀ y:TL,((ts.map (Zf j)).set j y).map TL.er=((ts.map TL.er).map (Z0j j)).set j y.er:=fun y=>by
  rw [Wk,Jl,Jl];exact congrArg (fun l=>List.set l j y.er) (Wu fun s _=>Z1V s)
 cases tv with
 | val t=>
  cases hv;cases hs;exact q _ _ (er1 (.own true t)) (Cf.slot (y:=.own true t) C hix hnd rfl (.inl ⟨t,rfl,rfl⟩))
 | plc k p a=>
  obtain ⟨rfl,hp⟩:=hv;simp only [TV.er,Zm] at hs;by_cases hk:k=j
  .subst hk
   rw [if_pos rfl] at hs;by_cases hp0:p=[]
   .subst hp0
    rw [if_pos rfl] at hs;cases hs
    have:σ.set i (some (.ref a))=σ:=by
     obtain ⟨w,t,s,h1,h2,h3⟩:=hp;cases h2;have h4:=C.sl i k _ _ hix h1 rfl;rw [h3] at h4;refine Wr fun n=>?_;rw [Qp];by_cases hn:i=n
     .subst hn
      rw [if_pos rfl,if_pos (Qd.mp h4).1,h4]
     .rw [if_neg hn]
    show Q (σ.set i (some (.ref a))) H;rw [this];exact q σ ts rfl C
   .rw [if_neg hp0] at hs;cases hs
  .rw [if_neg hk] at hs
   cases hs;exact q _ _ (er1 (.bor k p a)) (Cf.slot (y:=.bor k p a) (m:=[]) C hix hnd rfl (.inr ⟨rfl,k,p,a,rfl,hk,hp⟩))
end
end
mutual
abbrev bV(f:EF):BF:=fun s=>match f s with
 | .ok (.val (.at (.bl b))) s1=>.ok b s1
 | .ok _ _=>.no
 | .ex C s1=>.ex C s1
 | .no=>.no
abbrev bNot(f:BF):BF:=fun s=>match f s with
 | .ok b s1=>.ok (!b) s1
 | r=>r
abbrev bAnd(f g:BF):BF:=fun s=>match f s with
 | .ok true s1=>g s1
 | r=>r
abbrev bOr(f g:BF):BF:=fun s=>match f s with
 | .ok false s1=>g s1
 | r=>r
abbrev Zc(f g:SF):SF:=fun s=>match f s with
 | .nx s1=>g s1
 | r=>r
abbrev sIf(c:BF)(a b:SF):SF:=fun s=>match c s with
 | .ok true s1=>a s1
 | .ok false s1=>b s1
 | .ex C s1=>.ex C s1
 | .no=>.no
abbrev sE(f:EF):SF:=fun s=>match f s with
 | .ok _ s1=>.nx s1
 | .ex C s1=>.ex C s1
 | .no=>.no
abbrev Z0l(f:EF):SF:=fun s=>match f s with
 | .ok r s1=>.rt r s1
 | .ex C s1=>.ex C s1
 | .no=>.no
abbrev sRetN:SF:=fun s=>.rt (.val (.at .non)) s
abbrev ZV:SF:=fun s=>.nx s
abbrev Z03(f:EF)(b:Sd->DV->Option Sd):SF:=fun s=>match f s with
 | .ok r s1=>(match b s1 r with | some s2=>.nx s2 | none=>.no)
 | .ex C s1=>.ex C s1
 | .no=>.no
abbrev eIf(c:BF)(a b:EF):EF:=fun s=>match c s with
 | .ok true s1=>a s1
 | .ok false s1=>b s1
 | .ex C s1=>.ex C s1
 | .no=>.no
end
section
mutual
variable {R:RC}{ix:List Nat}{hd:List (Nat×Addr)}{X:Cx}{e:Expr}{H H':Hp}{σ:L2.St}{ts:Ts}{fr:List T}
def lT_v{f:EF}(σ:L2.St)(H:Hp)(Q:Bool->Hp->Prop)(h:lT R ix (bV f) σ H Q):lE R ix f σ H fun x H1=>∃ c,x=.bl c/\Q c H1:=by
 obtain ⟨hd,ts,fr,C,h⟩:=h;refine ⟨hd,ts,fr,C,?_⟩;unfold bV at h
 cases ef:f (ts.map TL.er) with
 | no=>rw [ef] at h;exact h
 | ex E s1=>rw [ef] at h;exact h
 | ok r s1=>
  rw [ef] at h;intro H1 ts1 tv v e1 e2 hv C1
  cases r with
  | plc k p=>exact h.elim
  | val d=>
   obtain ⟨t,rfl,rfl,rfl⟩:=hv.er_val e2
   cases t with
   | nd a k l=>exact h.elim
   | «at» v=>
    cases v with
    | bl b=>exact ⟨b,rfl,h H1 ts1 e1 C1.drop⟩
    | _=>exact h.elim
def ZgI{f:BF}(σ:L2.St)(H:Hp)(Q:Bool->Hp->Prop)(h:lT R ix (bNot f) σ H Q):tNot (lT R ix f) σ H Q:=by
 obtain ⟨hd,ts,fr,C,h⟩:=h;refine ⟨hd,ts,fr,C,?_⟩;unfold bNot at h
 cases ef:f (ts.map TL.er) with
 | no=>rw [ef] at h;exact h
 | ex E s1=>rw [ef] at h;exact h
 | ok r s1=>rw [ef] at h;exact h
def ZgH{f g:BF}(σ:L2.St)(H:Hp)(Q:Bool->Hp->Prop)(h:lT R ix (bAnd f g) σ H Q):tAnd (lT R ix f) (lT R ix g) σ H Q:=by
 obtain ⟨hd,ts,fr,C,h⟩:=h;refine ⟨hd,ts,fr,C,?_⟩;unfold bAnd at h
 cases ef:f (ts.map TL.er) with
 | no=>rw [ef] at h;exact h
 | ex E s1=>rw [ef] at h;exact h
 | ok r s1=>
  rw [ef] at h;intro H1 ts1 e1 C1
  cases r with
  | true=>subst e1;rw [if_pos rfl];exact ⟨hd,ts1,fr,C1,h⟩
  | false=>rw [if_neg Ql];exact h H1 ts1 e1 C1
def lT_or{f g:BF}(σ:L2.St)(H:Hp)(Q:Bool->Hp->Prop)(h:lT R ix (bOr f g) σ H Q):tOr (lT R ix f) (lT R ix g) σ H Q:=by
 obtain ⟨hd,ts,fr,C,h⟩:=h;refine ⟨hd,ts,fr,C,?_⟩;unfold bOr at h
 cases ef:f (ts.map TL.er) with
 | no=>rw [ef] at h;exact h
 | ex E s1=>rw [ef] at h;exact h
 | ok r s1=>
  rw [ef] at h;intro H1 ts1 e1 C1
  cases r with
  | true=>rw [if_pos rfl];exact h H1 ts1 e1 C1
  | false=>subst e1;rw [if_neg Ql];exact ⟨hd,ts1,fr,C1,h⟩
def ZgG{f g:SF}(D:Ends)(σ:L2.St)(H:Hp)(h:lS R ix (Zc f g) D σ H):tSeq (lS R ix f) (lS R ix g) D σ H:=by
 obtain ⟨hd,ts,fr,C,h⟩:=h;refine ⟨hd,ts,fr,C,?_⟩;unfold Zc at h
 cases ef:f (ts.map TL.er) with
 | nx s1=>
  rw [ef] at h;intro H1 σ1 ts1 e1 C1;subst e1;exact ⟨hd,ts1,fr,C1,h⟩
 | no=>rw [ef] at h;exact h
 | ex E s1=>rw [ef] at h;exact h
 | rt r s1=>rw [ef] at h;exact h
 | bk s1=>rw [ef] at h;exact h
 | ct s1=>rw [ef] at h;exact h
def lS_if{c:BF}{f g:SF}(D:Ends)(σ:L2.St)(H:Hp)(h:lS R ix (sIf c f g) D σ H):tIfS (lT R ix c) (lS R ix f) (lS R ix g) D σ H:=by
 obtain ⟨hd,ts,fr,C,h⟩:=h;refine ⟨hd,ts,fr,C,?_⟩;unfold sIf at h
 cases ef:c (ts.map TL.er) with
 | no=>rw [ef] at h;exact h
 | ex E s1=>rw [ef] at h;intro H1 ts1 e1 C1;exact h H1 σ ts1 e1 C1
 | ok r s1=>
  rw [ef] at h;intro H1 ts1 e1 C1;subst e1
  cases r with
  | true=>rw [if_pos rfl];exact ⟨hd,ts1,fr,C1,h⟩
  | false=>rw [if_neg Ql];exact ⟨hd,ts1,fr,C1,h⟩
def lS_e{f:EF}(D:Ends)(σ:L2.St)(H:Hp)(h:lS R ix (sE f) D σ H):tDrop (lE R ix f) D σ H:=by
 obtain ⟨hd,ts,fr,C,h⟩:=h;refine ⟨hd,ts,fr,C,?_⟩;unfold sE at h
 cases ef:f (ts.map TL.er) with
 | no=>rw [ef] at h;exact h
 | ex E s1=>rw [ef] at h;intro H1 ts1 e1 C1;exact h H1 σ ts1 e1 C1
 | ok r s1=>rw [ef] at h;intro H1 ts1 tv v e1 e2 hv C1;exact h H1 σ ts1 e1 C1.drops
def ZgF{f:EF}(D:Ends)(σ:L2.St)(H:Hp)(h:lS R ix (Z0l f) D σ H):tRet (lE R ix f) D σ H:=by
 obtain ⟨hd,ts,fr,C,h⟩:=h;refine ⟨hd,ts,fr,C,?_⟩;unfold Z0l at h
 cases ef:f (ts.map TL.er) with
 | no=>rw [ef] at h;exact h
 | ex E s1=>rw [ef] at h;intro H1 ts1 e1 C1;exact h H1 σ ts1 e1 C1
 | ok r s1=>rw [ef] at h;intro H1 ts1 tv v e1 e2 hv C1;exact h H1 σ ts1 tv v e1 e2 hv C1
def ZeU(D:Ends)(σ:L2.St)(H:Hp)(h:lS R ix ZV D σ H):tNext D σ H:=by
 obtain ⟨hd,ts,fr,C,h⟩:=h;exact h H σ ts rfl C
def ZgE{f:EF}{b:Sd->DV->Option Sd}(D:Ends)(σ:L2.St)(H:Hp)(h:lS R ix (Z03 f b) D σ H):tAsg (lE R ix f) (lG R ix b) D σ H:=by
 obtain ⟨hd,ts,fr,C,h⟩:=h;refine ⟨hd,ts,fr,C,?_⟩;unfold Z03 at h
 cases ef:f (ts.map TL.er) with
 | no=>rw [ef] at h;exact h
 | ex E s1=>rw [ef] at h;intro H1 ts1 e1 C1;exact h H1 σ ts1 e1 C1
 | ok r s1=>
  rw [ef] at h;intro H1 ts1 tv v e1 e2 hv C1;subst e1 e2;refine ⟨hd,ts1,fr,tv,C1,hv,?_⟩;dsimp only at h
  cases eb:b (ts1.map TL.er) tv.er with
  | none=>rw [eb] at h;exact h.elim
  | some s2=>rw [eb] at h;exact ⟨s2,rfl,fun σ' ts' e C'=>h H1 σ' ts' e C'⟩
end
end
section
mutual
variable {R:RC}{ix:List Nat}{X:Cx}{e a b c:Expr}{st:Stmt}{sts as bs:List Stmt}{pos:Pos}{f g:SF}{fe fa fb:EF}{fc fd:BF}
def Zx:PSs X [] (lS R ix ZV):=pssM Z4q ZeU
def Z5(h1:PS X st (lS R ix f))(h2:PSs X sts (lS R ix g)):PSs X (st::sts) (lS R ix (Zc f g)):=pssM (Z2V h1 h2) ZgG
def Z7(h1:PS X st (lS R ix f)):PSs X [st] (lS R ix f):=Z20 h1
def Z02(hc:PT X c (lT R ix fc))(ha:PSs X as (lS R ix f))(hb:PSs X bs (lS R ix g)):PS X (.If c as bs pos) (lS R ix (sIf fc f g)):=psM (ps_if hc ha hb) lS_if
def rs_e(he:PE X e (lE R ix fe))(hs:autoParam (swapsWith e none pos.line X.env=pure false) uA._auto_1):PS X (.Expr e pos) (lS R ix (sE fe)):=psM (Zam he hs) lS_e
def ZR(he:PE X e (lE R ix fe)):PS X (.Return (some e) pos) (lS R ix (Z0l fe)):=psM (Z3b he) ZgF
def Zk{i j:Nat}{x:Str}(hN:X.N.Nodup)(hi:X.N[i]?=some x)(hx:Loc X.env.scope x)(hix:ix[i]?=some j)(hnd:ix.Nodup)(hf:autoParam (X.fn x=true\/X.env.scope.names.lookup x=some .local) uE._auto_1):PG X (.Name x pos) (lG R ix (Zm j)):=by
 intro pins s σ H v u Q I r h;exact Z2U hN hi hx hf pins s σ H v u Q I r (ZeR hix hnd v σ H Q h)
def Zz{tg:Expr}{bd:Sd->DV->Option Sd}(he:PE X e (lE R ix fe))(hg:PG X tg (lG R ix bd))(hs:autoParam (swapsWithSole [tg] e pos.line X.env=pure false) uA._auto_1)(hw:autoParam (swappedStores [tg] e X.env=pure none) uA._auto_1)(h1:autoParam ((assignEach [tg] X.env).map (·.2)=[assign tg X.env]) uA._auto_1):PS X (.Assign [tg] e pos) (lS R ix (Z03 fe bd)):=
 psM (Zh1 he hg hs hw h1) ZgE
def rt_v(h:PE X e (lE R ix fe))(he:autoParam (∀ whole,isTrue e X.env whole=(do let v <- whole;standAt e.pos;holding [v] (truthy v))) uC._auto_1):PT X e (lT R ix (bV fe)):=ptM (Z9l h he) lT_v
def Z1U(h:PT X a (lT R ix fc)):PT X (.UnaryOp .Not a pos) (lT R ix (bNot fc)):=ptM (Zh4 h) ZgI
def Zap(h:PT X a (lT R ix fc)):PW X (.BoolOp .And [a] pos) (lT R ix fc):=Zfj h
def Z4t(h:PT X a (lT R ix fc)):PW X (.BoolOp .Or [a] pos) (lT R ix fc):=Z7m h
def Zcc{rest:List Expr}(ha:PT X a (lT R ix fc))(hb:PW X (.BoolOp .And (b::rest) pos) (lT R ix fd)):PW X (.BoolOp .And (a::b::rest) pos) (lT R ix (bAnd fc fd)):=
 fun whole pins s σ H Q I q=>Zh5 ha hb whole pins s σ H Q I (ZgH σ H Q q)
def rw_or{rest:List Expr}(ha:PT X a (lT R ix fc))(hb:PW X (.BoolOp .Or (b::rest) pos) (lT R ix fd)):PW X (.BoolOp .Or (a::b::rest) pos) (lT R ix (bOr fc fd)):=
 fun whole pins s σ H Q I q=>pw_or ha hb whole pins s σ H Q I (lT_or σ H Q q)
end
end
mutual
abbrev ZZ(it:Nat->Sd->Option (Option DV))(b:Sd->DV->Option Sd)(body:SF):Nat->Nat->Sd->SR
 | 0,_,_=>.no
 | m + 1,i,s=>match it i s with
  | none=>.no
  | some none=>.nx s
  | some (some r)=>match b s r with
   | none=>.no
   | some s1=>match body s1 with
    | .nx s2=>ZZ it b body m (i + 1) s2
    | .ct s2=>ZZ it b body m (i + 1) s2
    | .bk s2=>.nx s2
    | .rt r s2=>.rt r s2
    | .ex C s2=>.ex C s2
    | .no=>.no
abbrev popD(n:Nat)(s:Sd):Option Sd:=if s.length=n + 1 then some (s.map (Z0j n)).dropLast else none
abbrev fin(n:Nat):SR->SR
 | .nx s=>(match popD n s with | some s'=>.nx s' | none=>.no)
 | .rt (.val d) s=>(match popD n s with | some s'=>.rt (.val d) s' | none=>.no)
 | .rt (.plc k p) s=>if k=n then .no else (match popD n s with | some s'=>.rt (.plc k p) s' | none=>.no)
 | .ex C s=>(match popD n s with | some s'=>.ex C s' | none=>.no)
 | _=>.no
abbrev held(n k:Nat)(p:List Nat)(s:Sd):Bool:=match s[n]? with
 | some (.bor k' p')=>decide (k'=k) && decide (p'=p)
 | some (.own _ _)=>decide (k=n) && decide (p=[])
 | _=>false
abbrev itP(isT:Bool)(n k:Nat)(p:List Nat)(i:Nat)(s:Sd):Option (Option DV):=if held n k p s then (match Zt s (.plc k p),isT with
  | some (.nd (.lst _) l),false=>some ((l[i]?).map (mkV k (p++[i])))
  | some (.nd .tup l),true=>some ((l[i]?).map (mkV k (p++[i])))
  | _,_=>none) else none
abbrev seqOf:Option D->Option (Bool×Nat)
 | some (.nd (.lst _) l)=>some (false,l.length)
 | some (.nd .tup l)=>some (true,l.length)
 | _=>none
abbrev sForL(f:EF)(b:Sd->DV->Option Sd)(body:SF):SF:=fun s=>match f s with
 | .ok (.plc k p) s1=>(match seqOf (Zt s1 (.plc k p)) with
  | some (t,m)=>fin s1.length (ZZ (itP t s1.length k p) b body (m + 1) 0 (s1++[.bor k p]))
  | none=>.no)
 | .ok (.val d) s1=>(match seqOf (some d) with
  | some (t,m)=>fin s1.length (ZZ (itP t s1.length s1.length []) b body (m + 1) 0 (s1++[.own true d]))
  | none=>.no)
 | .ex C s1=>.ex C s1
 | .no=>.no
abbrev itR(lo:Int)(n:Nat)(i:Nat)(_:Sd):Option (Option DV):=some (if i < n then some (.val (.at (.int (lo + i)))) else none)
abbrev Z2D(f:AF)(b:Sd->DV->Option Sd)(body:SF):SF:=fun s=>match f s with
 | .ok [.val (.at (.int j))] s1=>if -(2 ^ 62)<=j/\j < 2 ^ 62 then ZZ (itR 0 j.toNat) b body (j.toNat + 1) 0 s1 else .no
 | .ok [.val (.at (.int i)),.val (.at (.int j))] s1=>if -(2 ^ 62)<=i/\i < 2 ^ 62/\-(2 ^ 62)<=j/\j < 2 ^ 62 then ZZ (itR i (j - i).toNat) b body ((j - i).toNat + 1) 0 s1 else .no
 | .ok _ _=>.no
 | .ex C s1=>.ex C s1
 | .no=>.no
def map1{α β:Type}{f:α->β}{l:List α}{b:β}(h:l.map f=[b]):∃ a,l=[a]/\f a=b:=by
 cases l with
 | nil=>cases h
 | cons x r=>cases r with
  | nil=>simp at h;exact ⟨x,rfl,h⟩
  | cons y r=>simp at h
def map2{α β:Type}{f:α->β}{l:List α}{b c:β}(h:l.map f=[b,c]):∃ x y,l=[x,y]/\f x=b/\f y=c:=by
 cases l with
 | nil=>cases h
 | cons x r=>
  simp only [Qj,Js.injEq] at h;obtain ⟨y,rfl,h2⟩:=map1 h.2;exact ⟨x,y,rfl,h.1,h2⟩
end
section
mutual
variable {R:RC}{ix:List Nat}{hd:List (Nat×Addr)}{X:Cx}{e:Expr}{H H':Hp}{σ:L2.St}{ts:Ts}{fr:List T}{D:Ends}
abbrev Post(R:RC)(ix:List Nat)(hd:List (Nat×Addr))(fr:List T)(D:Ends):SR->Prop
 | .nx s'=>∀ H' σ' ts',ts'.map TL.er=s'->Cf R ix hd H' σ' ts' fr->D.nx σ' H'
 | .rt r s'=>∀ H' σ' ts' tv v,ts'.map TL.er=s'->tv.er=r->Z08 ts' v tv->Cf R ix hd H' σ' ts' (tv.tr++fr)->D.rt v H'
 | .ex C s'=>∀ H' σ' ts',ts'.map TL.er=s'->Cf R ix hd H' σ' ts' fr->R.EX σ' (.ref (R.ad C)) none H'
 | _=>False
def Z1w{J:It}{it:Nat->Sd->Option (Option DV)}{b:Sd->DV->Option Sd}{body:SF}{m:Nat}
  (ok:∀ i H σ ts,Cf R ix hd H σ ts fr->(it i (ts.map TL.er)=some none->J.stop i H)/\∀ r,it i (ts.map TL.er)=some (some r)->J.go i H/\∀ x H',J.yld i H x H'->∃ tv,tv.er=r/\Z08 ts x tv/\Cf R ix hd H' σ ts (tv.tr++fr))
  (C:Cf R ix hd H σ ts fr) (P:Post R ix hd fr D (ZZ it b body m 0 (ts.map TL.er))) :
  ∃ W:Nat->Nat->L2.St->Hp->Prop,(∃ m,W 0 m σ H)/\∀ i m σ H,W i m σ H ->
   (J.stop i H/\D.nx σ H)\/(J.go i H/\∃ N:L2.St->Hp->Prop,(∀ σ' H',N σ' H'->∃ m',m' < m/\W (i + 1) m' σ' H')/\∀ x H',J.yld i H x H'->lG R ix b x σ H' fun σ2 H2=>lS R ix body { D with nx:=N,ct:=N,bk:=D.nx } σ2 H2):=by
 refine ⟨fun i m σ H=>∃ ts,Cf R ix hd H σ ts fr/\Post R ix hd fr D (ZZ it b body m i (ts.map TL.er)),⟨m,ts,C,P⟩,?_⟩;rintro i m σ H ⟨ts,C,P⟩
 cases m with
 | zero=>exact P.elim
 | succ m=>
  unfold ZZ at P;obtain ⟨o1,o2⟩:=ok i H σ ts C
  cases ei:it i (ts.map TL.er) with
  | none=>rw [ei] at P;exact P.elim
  | some y=>
   rw [ei] at P
   cases y with
   | none=>exact .inl ⟨o1 ei,P H σ ts rfl C⟩
   | some r=>
    obtain ⟨g1,g2⟩:=o2 r ei;refine .inr ⟨g1,fun σ' H'=>∃ ts',Cf R ix hd H' σ' ts' fr/\Post R ix hd fr D (ZZ it b body m (i + 1) (ts'.map TL.er)),fun σ' H' n=>⟨m,Wn m,n⟩,fun x H' hy=>?_⟩;obtain ⟨tv,rfl,hv,C'⟩:=g2 x H' hy;dsimp only at P
    cases eb:b (ts.map TL.er) tv.er with
    | none=>rw [eb] at P;exact P.elim
    | some s1=>
     rw [eb] at P;refine ⟨hd,ts,fr,tv,C',hv,s1,eb,fun σ2 ts2 e2 C2=>⟨hd,ts2,fr,C2,?_⟩⟩;rw [e2];dsimp only at P
     cases ed:body s1 with
     | nx s2=>rw [ed] at P;intro H3 σ3 ts3 e3 C3;subst e3;exact ⟨ts3,C3,P⟩
     | ct s2=>rw [ed] at P;intro H3 σ3 ts3 e3 C3;subst e3;exact ⟨ts3,C3,P⟩
     | bk s2=>rw [ed] at P;exact P
     | rt r s2=>rw [ed] at P;exact P
     | ex E s2=>rw [ed] at P;exact P
     | no=>rw [ed] at P;exact P.elim
def Z97{lo:Int}{n:Nat}(i:Nat)(H:Hp)(σ:L2.St)(ts:Ts)(C:Cf R ix hd H σ ts fr):(itR lo n i (ts.map TL.er)=some none->(Itr lo n).stop i H)/\∀ r,itR lo n i (ts.map TL.er)=some (some r)->(Itr lo n).go i H/\∀ x H',(Itr lo n).yld i H x H'->∃ tv,tv.er=r/\Z08 ts x tv/\Cf R ix hd H' σ ts (tv.tr++fr):=by
 unfold itR;by_cases h:i < n
 .rw [if_pos h]
  refine ⟨fun z=>by simp at z,fun r hr=>⟨h,?_⟩⟩;cases hr;rintro x _ ⟨rfl,rfl⟩;exact ⟨.val (.at (.int (lo + i))),rfl,rfl,C.at _⟩
 .rw [if_neg h]
  exact ⟨fun _=>Nat.le_of_not_lt h,fun r hr=>by simp at hr⟩
def Post.of{f:SF}(h:match f (ts.map TL.er) with
 | .nx s'=>∀ H' σ' ts',ts'.map TL.er=s'->Cf R ix hd H' σ' ts' fr->D.nx σ' H'
 | .rt r s'=>∀ H' σ' ts' tv v,ts'.map TL.er=s'->tv.er=r->Z08 ts' v tv->Cf R ix hd H' σ' ts' (tv.tr++fr)->D.rt v H'
 | .bk s'=>∀ H' σ' ts',ts'.map TL.er=s'->Cf R ix hd H' σ' ts' fr->D.bk σ' H'
 | .ct s'=>∀ H' σ' ts',ts'.map TL.er=s'->Cf R ix hd H' σ' ts' fr->D.ct σ' H'
 | .ex C s'=>∀ H' σ' ts',ts'.map TL.er=s'->Cf R ix hd H' σ' ts' fr->R.EX σ' (.ref (R.ad C)) none H'
 | .no=>False) (hb:∀ s,f (ts.map TL.er)≠.bk s) (hc:∀ s,f (ts.map TL.er)≠.ct s):Post R ix hd fr D (f (ts.map TL.er)):=by
 cases e:f (ts.map TL.er) with
 | nx s=>rw [e] at h;exact h
 | rt r s=>rw [e] at h;exact h
 | ex E s=>rw [e] at h;exact h
 | no=>rw [e] at h;exact h
 | bk s=>exact absurd e (hb s)
 | ct s=>exact absurd e (hc s)
def Z1s{it:Nat->Sd->Option (Option DV)}{b:Sd->DV->Option Sd}{body:SF}:∀ (m i:Nat) (s s':Sd),ZZ it b body m i s≠.bk s'/\ZZ it b body m i s≠.ct s'
 | 0,_,_,_=>⟨(by intro z;cases z),(by intro z;cases z)⟩
 | m + 1,i,s,s'=>by
  unfold ZZ
  cases it i s with
  | none=>exact ⟨(by intro z;cases z),(by intro z;cases z)⟩
  | some y=>cases y with
   | none=>exact ⟨(by intro z;cases z),(by intro z;cases z)⟩
   | some r=>
    dsimp only
    cases b s r with
    | none=>exact ⟨(by intro z;cases z),(by intro z;cases z)⟩
    | some s1=>
     dsimp only
     cases body s1 with
     | nx s2=>exact Z1s m (i + 1) s2 s'
     | ct s2=>exact Z1s m (i + 1) s2 s'
     | _=>exact ⟨(by intro z;cases z),(by intro z;cases z)⟩
def Z99{f:AF}{b:Sd->DV->Option Sd}{body:SF}(D:Ends)(σ:L2.St)(H:Hp)(h:lS R ix (Z2D f b body) D σ H) :
  lA R ix f σ H fun vs H1=>(∃ j:Int,vs=[.int j]/\(-(2 ^ 62)<=j/\j < 2 ^ 62)/\(∃ W:Nat->Nat->L2.St->Hp->Prop,(∃ m,W 0 m σ H1)/\∀ i m σ H,W i m σ H ->
   ((Itr 0 j.toNat).stop i H/\D.nx σ H)\/((Itr 0 j.toNat).go i H/\∃ N:L2.St->Hp->Prop,(∀ σ' H',N σ' H'->∃ m',m' < m/\W (i + 1) m' σ' H')/\∀ x H',(Itr 0 j.toNat).yld i H x H'->lG R ix b x σ H' fun σ2 H2=>lS R ix body { D with nx:=N,ct:=N,bk:=D.nx } σ2 H2))) \/
   (∃ k j:Int,vs=[.int k,.int j]/\(-(2 ^ 62)<=k/\k < 2 ^ 62/\-(2 ^ 62)<=j/\j < 2 ^ 62)/\(∃ W:Nat->Nat->L2.St->Hp->Prop,(∃ m,W 0 m σ H1)/\∀ i m σ H,W i m σ H ->
   ((Itr k (j - k).toNat).stop i H/\D.nx σ H)\/((Itr k (j - k).toNat).go i H/\∃ N:L2.St->Hp->Prop,(∀ σ' H',N σ' H'->∃ m',m' < m/\W (i + 1) m' σ' H')/\∀ x H',(Itr k (j - k).toNat).yld i H x H'->lG R ix b x σ H' fun σ2 H2=>lS R ix body { D with nx:=N,ct:=N,bk:=D.nx } σ2 H2))):=by
 obtain ⟨hd,ts,fr,C,h⟩:=h;refine ⟨hd,ts,fr,C,?_⟩;unfold Z2D at h
 cases ef:f (ts.map TL.er) with
 | no=>rw [ef] at h;exact h
 | ex E s1=>rw [ef] at h;intro H1 ts1 e1 C1;exact h H1 σ ts1 e1 C1
 | ok rs s1=>
  rw [ef] at h;intro H1 ts1 tvs vs e1 e2 hv C1;subst e1
  have one:∀ {r:DV} {v:V} {tv:TV} {i:Int},tv.er=r->Z08 ts1 v tv->r=.val (.at (.int i))->v=.int i:=by
   rintro r v tv i rfl hv hr;obtain ⟨t,rfl,te,rfl⟩:=hv.er_val hr
   cases t with
   | nd a k l=>cases te
   | «at» u=>cases u with
    | int j=>cases te;rfl
    | _=>cases te
  have z:(∃ j,rs=[.val (.at (.int j))])\/∃ k j,rs=[.val (.at (.int k)),.val (.at (.int j))]:=by
   clear e2 ef;rcases rs with _ | ⟨r,l⟩;exact h.elim;rcases r with ((_ | _ | i | _) | _) | _ <;> try exact h.elim
   rcases l with _ | ⟨r,l⟩;exact .inl ⟨_,rfl⟩;rcases r with ((_ | _ | j | _) | _) | _ <;> try exact h.elim
   rcases l with _ | _;exact .inr ⟨_,_,rfl⟩;exact h.elim
  rcases z with ⟨j,rfl⟩ | ⟨k,j,rfl⟩
  .obtain ⟨tv,rfl,e5⟩:=map1 e2
   cases hv with
   | cons hv hn=>
   cases hn;cases one e5 hv rfl;by_cases hj:-(2 ^ 62)<=j/\j < 2 ^ 62
   .dsimp only at h
    rw [if_pos hj] at h;refine .inl ⟨j,rfl,hj,Z1w Z97 (C1.drops) (Post.of (f:=fun s=>ZZ (itR 0 j.toNat) b body (j.toNat + 1) 0 s) h (fun s=>(Z1s _ _ _ s).1) fun s=>(Z1s _ _ _ s).2)⟩
   .dsimp only at h;rw [if_neg hj] at h;exact h.elim
  .obtain ⟨tv,tw,rfl,e5,e3⟩:=map2 e2
   cases hv with
   | cons hv hw=>
   cases hw with
   | cons hw hn=>
   cases hn;cases one e5 hv rfl;cases one e3 hw rfl;by_cases hj:-(2 ^ 62)<=k/\k < 2 ^ 62/\-(2 ^ 62)<=j/\j < 2 ^ 62
   .dsimp only at h
    rw [if_pos hj] at h;exact .inr ⟨k,j,rfl,hj,Z1w Z97 (C1.drops) (Post.of (f:=fun s=>ZZ (itR k (j - k).toNat) b body ((j - k).toNat + 1) 0 s) h (fun s=>(Z1s _ _ _ s).1) fun s=>(Z1s _ _ _ s).2)⟩
   .dsimp only at h;rw [if_neg hj] at h;exact h.elim
end
end
section
mutual
variable {R:RC}{ix:List Nat}{hd hm:List (Nat×Addr)}{X:Cx}{e:Expr}{H H':Hp}{σ:L2.St}{ts:Ts}{fr:List T}{D:Ends}
def Cf.push{t:T}{a:Addr}(C:Cf R ix hd H σ ts (t::fr))(ha:t.val=.ref a):Cf R ix (hd++[(ts.length,a)]) H σ (ts++[.own true t]) fr:=by
 have e1:Ze (ts++[.own true t])=Ze ts++t.own:=by rw [Z1x];simp [Ze,TL.own1]
 have e2:roS (ts++[.own true t])=roS ts++t.ro:=by rw [Z4r];simp [roS,TL.ro1]
 have e3:rdS (ts++[.own true t])=rdS ts:=by rw [Z2X];simp [rdS,TL.rd1]
 refine ⟨fun w u z=>?_,C.fok.2,?_,fun b z=>?_,fun b z=>?_,fun b z=>?_,C.bg,fun j k' p' a' z=>?_,fun j z=>by simpa using Wd (C.ixs j z),fun i j s v z1 z2 z3=>?_,fun j b z=>?_,fun j b z=>?_,C.len,fun j b z s v z2 z3=>?_⟩
 .rcases Qf.mp z with z | z
  .exact C.ok w u z
  .simp only [Jj,TL.own.injEq] at z
   rw [z.2];exact C.fok.1
 .rw [e1,Qn];exact C.nd
 .rw [e1]
  have:=C.sep b (by
   rw [e2] at z;rw [T.ros_cons];simp only [Qf] at z ⊢;rcases z with (z | z) | z <;> simp [z])
  rw [T.owns_cons] at this;simp only [Qf,not_or] at this ⊢;exact ⟨⟨this.1,this.2.1.1⟩,this.2.1.2,this.2.2⟩
 .rw [e3] at z
  rw [e1];have:=C.rd b z;rw [T.owns_cons] at this;simp only [Qf,not_or] at this ⊢;exact ⟨⟨this.1,this.2.1⟩,this.2.2⟩
 .rw [e1]
  have:=C.g b z;rw [T.owns_cons] at this;simp only [Qf,not_or] at this ⊢;exact ⟨this.1,this.2.1,⟨this.2.2.1,this.2.2.2.1⟩,this.2.2.2.2⟩
 .have hj:j < ts.length:=by
   rcases Nat.lt_or_ge j ts.length with h | h
   .exact h
   .rw [Jd h] at z
    have:j - ts.length=0:=by
     have:=(Qd.mp z).1;simp at this;omega
    rw [this] at z;cases z
  rw [Qo hj] at z;exact (C.bor j k' p' a' z).app _
 .have:=C.ixs j (Qg z1)
  rw [Qo this] at z2;exact C.sl i j s v z1 z2 z3
 .rcases Qf.mp z with z | z
  .simpa using Wd (C.hdi j b z)
  .simp only [Jj,Prod.mk.injEq] at z
   simp [z.1]
 .rcases Qf.mp z with z | z
  .exact C.hdx j b z
  .simp only [Jj,Prod.mk.injEq] at z
   rw [z.1];exact fun q=>absurd (C.ixs _ q) (Jv _)
 .rcases Qf.mp z with z | z
  .rw [Qo (C.hdi j b z)] at z2
   exact C.hdn j b z s v z2 z3
  .simp only [Jj,Prod.mk.injEq] at z
   obtain ⟨rfl,rfl⟩:=z;rw [Jd (Qq _),Nat.sub_self] at z2;cases z2;simp only [TL.v,Je.injEq] at z3;rw [<- z3,ha]
def Cf.popAny{x:TL}(C:Cf R ix (hd++hm) H σ (ts++[x]) fr)(hi:∀ j∈ix,j < ts.length)(hj:∀ j a,(j,a)∈hd->j < ts.length):Cf R ix hd H σ (ts.map (Zf ts.length)) fr:=by
 have o1:∀ a,a∈Ze (ts.map (Zf ts.length))->a∈Ze (ts++[x]):=fun a z=>by
  unfold Ze at z;rw [Z2t (by intros;rfl)] at z;rw [Z1x];exact Qh _ z
 have r1:∀ a,a∈roS (ts.map (Zf ts.length))->a∈roS (ts++[x]):=fun a z=>by
  unfold roS at z;rw [Z2t (by intros;rfl)] at z;rw [Z4r];exact Qh _ z
 have d1:∀ a,a∈rdS (ts.map (Zf ts.length))->a∈rdS (ts++[x]):=fun a z=>by
  unfold rdS at z;rw [Z2t (by intros;rfl)] at z;rw [Z2X];exact Qh _ z
 have slot:∀ (j:Nat) (s:TL),(ts.map (Zf ts.length))[j]?=some s->∃ s0,ts[j]?=some s0/\s=Zf ts.length s0/\(ts++[x])[j]?=some s0:=by
  intro j s hs;rw [Qc] at hs
  cases e:ts[j]? with
  | none=>rw [e] at hs;cases hs
  | some s0=>rw [e] at hs;cases hs;exact ⟨s0,rfl,rfl,by rw [Qo (Qd.mp e).1];exact e⟩
 have vv:∀ (s0:TL) (v:V),(Zf ts.length s0).v=some v->s0.v=some v:=by
  intro s0 v h;rcases Z06 (j:=ts.length) s0 with ⟨e',_⟩ | ⟨e',_⟩
  .rwa [e'] at h
  .rw [e'] at h;cases h
 refine ⟨fun w u z=>?_,C.fok,?_,fun b z=>?_,fun b z=>?_,fun b z=>?_,C.bg,fun j k q b z=>?_,fun j z=>by simpa using hi j z,fun i j s v z1 z2 z3=>?_,fun j b z=>by simpa using hj j b z,fun j b z=>C.hdx j b (Qh _ z),C.len,fun j b z s v z2 z3=>?_⟩
 .obtain ⟨j,hj'⟩:=Jg.mp z
  obtain ⟨s0,h1,h2,h3⟩:=slot j _ hj';rcases Z06 (j:=ts.length) s0 with ⟨e',_⟩ | ⟨e',_⟩
  .rw [e'] at h2;subst h2;exact C.ok w u (Qg h3)
  .rw [e'] at h2;cases h2
 .have:=C.nd
  rw [Z1x,Qn] at this;have h1:=Qm.mp this;have h2:=Qm.mp h1.2.1;have e:Ze (ts.map (Zf ts.length))=Ze ts:=by unfold Ze;exact Z2t (by intros;rfl) ts
  rw [e];exact Qm.mpr ⟨h1.1,h2.2.1,fun a za b zb=>h1.2.2 a za b (Qe _ zb)⟩
 .have:=C.sep b (z.imp (r1 b) id)
  exact ⟨fun q=>this.1 (o1 b q),this.2.1,this.2.2⟩
 .have:=C.rd b (d1 b z)
  exact ⟨fun q=>this.1 (o1 b q),this.2⟩
 .have:=C.g b z
  exact ⟨this.1,this.2.1,fun q=>this.2.2.1 (o1 b q),this.2.2.2⟩
 .obtain ⟨s0,h1,h2,h3⟩:=slot j _ z
  rcases Z06 (j:=ts.length) s0 with ⟨e',hne⟩ | ⟨e',_⟩
  .rw [e'] at h2
   subst h2;have hk:k≠ts.length:=fun z=>hne q b (by rw [z]);obtain ⟨w,u,s,q1,q2,q3⟩:=C.bor j k q b h3;refine ⟨w,u,s,?_,q2,q3⟩
   have hlt:k < ts.length:=by
    have:=(Qd.mp q1).1;simp at this;omega
   rw [Qo hlt] at q1;rw [Qc,q1];rfl
  .rw [e'] at h2;cases h2
 .obtain ⟨s0,h1,rfl,h3⟩:=slot j _ z2
  exact C.sl i j s0 v z1 h3 (vv s0 v z3)
 .obtain ⟨s0,h1,rfl,h3⟩:=slot j _ z2
  exact C.hdn j b (Qh _ z) s0 v h3 (vv s0 v z3)
def Z1t{n:Nat}{s s':Sd}{ts':Ts}(h:popD n s=some s')(e:ts'.map TL.er=s):∃ ts0 x,ts'=ts0++[x]/\ts0.length=n/\(ts0.map (Zf n)).map TL.er=s':=by
 unfold popD at h
 split at h
 case isFalse=>cases h
 case isTrue hl=>
  cases h;have hne:ts'≠[]:=by rintro rfl;rw [<- e] at hl;simp at hl
  refine ⟨ts'.dropLast,ts'.getLast hne,(Gs hne).symm,?_,?_⟩
  .rw [List.length_dropLast,Z5B e,hl];rfl
  .rw [<- e,<- Qam,Jl,<- Qam,Jl]
   exact Wu fun s _=>Z1V s
def Z4G{r:SR}{n:Nat}{hm:List (Nat×Addr)}(hi:∀ j∈ix,j < n)(hj:∀ j a,(j,a)∈hd->j < n)
  (h:match fin n r with
  | .nx s'=>∀ H' σ' ts',ts'.map TL.er=s'->Cf R ix hd H' σ' ts' fr->D.nx σ' H'
  | .rt r s'=>∀ H' σ' ts' tv v,ts'.map TL.er=s'->tv.er=r->Z08 ts' v tv->Cf R ix hd H' σ' ts' (tv.tr++fr)->D.rt v H'
  | .bk s'=>∀ H' σ' ts',ts'.map TL.er=s'->Cf R ix hd H' σ' ts' fr->D.bk σ' H'
  | .ct s'=>∀ H' σ' ts',ts'.map TL.er=s'->Cf R ix hd H' σ' ts' fr->D.ct σ' H'
  | .ex C s'=>∀ H' σ' ts',ts'.map TL.er=s'->Cf R ix hd H' σ' ts' fr->R.EX σ' (.ref (R.ad C)) none H'
  | .no=>False):Post R ix (hd++hm) fr D r:=by
 cases r with
 | nx s=>
  intro H' σ' ts' e C;simp only [fin] at h
  cases ep:popD n s with
  | none=>rw [ep] at h;exact h.elim
  | some s'=>
   rw [ep] at h;obtain ⟨ts0,x,rfl,hl,e2⟩:=Z1t ep e;subst hl;exact h H' σ' _ e2 (C.popAny hi hj)
 | ex E s=>
  intro H' σ' ts' e C;simp only [fin] at h
  cases ep:popD n s with
  | none=>rw [ep] at h;exact h.elim
  | some s'=>
   rw [ep] at h;obtain ⟨ts0,x,rfl,hl,e2⟩:=Z1t ep e;subst hl;exact h H' σ' _ e2 (C.popAny hi hj)
 | rt r s=>
  intro H' σ' ts' tv v e e1 hv C
  cases r with
  | val d=>
   obtain ⟨t,rfl,rfl,rfl⟩:=hv.er_val e1;simp only [fin] at h
   cases ep:popD n s with
   | none=>rw [ep] at h;exact h.elim
   | some s'=>
    rw [ep] at h;obtain ⟨ts0,x,rfl,hl,e2⟩:=Z1t ep e;subst hl;exact h H' σ' _ (.val t) t.val e2 rfl rfl (C.popAny hi hj)
  | plc k p=>
   obtain ⟨a,rfl,rfl,hp⟩:=hv.er_plc e1;simp only [fin] at h;by_cases hk:k=n
   .rw [if_pos hk] at h;exact h.elim
   .rw [if_neg hk] at h
    cases ep:popD n s with
    | none=>rw [ep] at h;exact h.elim
    | some s'=>
     rw [ep] at h;obtain ⟨ts0,x,rfl,hl,e2⟩:=Z1t ep e;subst hl;refine h H' σ' _ (.plc k p a) (.ref a) e2 rfl ⟨rfl,?_⟩ (C.popAny hi hj);obtain ⟨w,u,s,q1,q2,q3⟩:=hp;refine ⟨w,u,s,?_,q2,q3⟩
     have hlt:k < ts0.length:=by
      have:=(Qd.mp q1).1;simp at this;omega
     rw [Qo hlt] at q1;rw [Qc,q1];rfl
 | bk s=>exact h.elim
 | ct s=>exact h.elim
 | no=>exact h.elim
end
end
noncomputable def iSeq(K:Qa)(tl:TE):TI:=fun σ H R=>tl σ H fun x H1=>∃ a,x=.ref a/\(((∃ xs,SqL K H1 a xs)/\R (Itl K a) H1)\/((∃ xs,SqT K H1 a xs)/\R (Itt K a) H1))
section
variable {X:Cx}{tg:Expr}
theorem ZgY{l:Expr}{tl:TE}(hl:PE X l tl):PI X tg l (iSeq X.K tl):=by
 intro pins s σ H R I h;refine thn (hl pins s σ H _ I h) fun v s1 ⟨x,H1,I1,r1,q1⟩=>?_;obtain ⟨a,e,⟨⟨xs,hq⟩,q⟩ | ⟨⟨xs,hq⟩,q⟩⟩:=q1
 .subst e
  cases r1;obtain ⟨its,rv,p,hz⟩:=I1.list hq;refine wpAny_pyIter_list p.isList ?_;refine ⟨s1.heap.objs.size,[s1.heap.objs.size],_,_,H1,rfl,I1.kept (t':=s1.toks) fun b o e=>Qi _ e,Z8s a _,⟨_,Qy _ rfl,rfl,rfl⟩,fun b hb=>?_,q⟩;have e:b=s1.heap.objs.size:=by simpa using hb
  subst e;exact I1.fpOk (Qq _) (I1.hok.fresh (Qq _))
 .subst e
  cases r1;obtain ⟨its,rv,p,hz⟩:=I1.tuple hq;refine wpAny_pyIter_tuple (show s1.heap.IsTuple a its.toArray from p) ?_;refine ⟨s1.heap.objs.size,[s1.heap.objs.size],_,_,H1,rfl,I1.kept (t':=s1.toks) fun b o e=>Qi _ e,ZaW a _,⟨_,Qy _ rfl,rfl,rfl⟩,fun b hb=>?_,q⟩;have e:b=s1.heap.objs.size:=by simpa using hb
  subst e;exact I1.fpOk (Qq _) (I1.hok.fresh (Qq _))
end
section
mutual
variable {K:Qa}{R:RC}{ix:List Nat}{hd hm:List (Nat×Addr)}{X:Cx}{e:Expr}{H H':Hp}{σ:L2.St}{ts:Ts}{fr:List T}{D:Ends}
def NodeOk.sqL{a:Addr}{m:Bool}{vs:List V}(h:NodeOk H a (.lst m) vs):SqL K H a vs:=by
 cases m with
 | true=>exact .of h
 | false=>exact .inl h
def NodeOk.sqT{a:Addr}{vs:List V}(h:NodeOk H a .tup vs):SqT K H a vs:=.of h
def Za6{n k:Nat}{p:List Nat}{a:Addr}(C:Cf R ix (hd++[(n,a)]) H σ ts fr)(h:held n k p (ts.map TL.er)=true){d:RM.D}(hd':Zt (ts.map TL.er) (.plc k p)=some d)(hn:∃ kd l,d=.nd kd l) :
  ∃ w t kd ch,ts[k]?=some (.own w t)/\t.get p=some (.nd a kd ch)/\d=.nd kd (T.ers ch)/\(T.nd a kd ch).ok H:=by
 have get:∀ w t,ts[k]?=some (TL.own w t)->∃ s,t.get p=some s/\s.er=d/\s.ok H:=by
  intro w t hk;simp only [Zt,Qc,hk,Qu,TL.er,T.get_er] at hd'
  cases es:t.get p with
  | none=>rw [es] at hd';cases hd'
  | some s=>rw [es] at hd';cases hd';exact ⟨s,rfl,rfl,T.get_ok es (C.ok w t (Qg hk))⟩
 have nodeOf:∀ s:T,s.er=d->s.val=.ref a->∃ kd ch,s=.nd a kd ch/\d=.nd kd (T.ers ch):=by
  rintro s rfl hv;obtain ⟨kd,l,hl⟩:=hn
  cases s with
  | «at» v=>cases hl
  | nd b k ch=>cases hv;exact ⟨k,ch,rfl,rfl⟩
 unfold held at h;rw [Qc] at h
 cases en:ts[n]? with
 | none=>rw [en] at h;cases h
 | some y=>
  rw [en] at h
  cases y with
  | non=>cases h
  | bor k' p' b=>
   simp only [Qu,TL.er,Ja,decide_eq_true_eq] at h;obtain ⟨rfl,rfl⟩:=h;have hb:=C.hdn n a (Qe _ (by simp)) _ _ en rfl;cases hb;obtain ⟨w,t,s,h1,h2,h3⟩:=C.bor n k' p' a en;obtain ⟨s',g1,g2,g3⟩:=get w t h1;rw [h2] at g1;cases g1;obtain ⟨kd,ch,rfl,e2⟩:=nodeOf s g2 h3;exact ⟨w,t,kd,ch,h1,h2,e2,g3⟩
  | own w t=>
   simp only [Qu,TL.er,Ja,decide_eq_true_eq] at h;obtain ⟨rfl,rfl⟩:=h;have hb:=C.hdn k a (Qe _ (by simp)) _ _ en rfl;obtain ⟨s',g1,g2,g3⟩:=get w t en;cases g1;obtain ⟨kd,ch,rfl,e2⟩:=nodeOf t g2 hb;exact ⟨w,_,kd,ch,en,rfl,e2,g3⟩
def Z7G{n k:Nat}{p:List Nat}{a:Addr}(i:Nat)(H:Hp)(σ:L2.St)(ts:Ts)(C:Cf R ix (hd++[(n,a)]) H σ ts fr):(itP false n k p i (ts.map TL.er)=some none->(Itl K a).stop i H)/\∀ r,itP false n k p i (ts.map TL.er)=some (some r)->(Itl K a).go i H/\∀ x H',(Itl K a).yld i H x H'->∃ tv,tv.er=r/\Z08 ts x tv/\Cf R ix (hd++[(n,a)]) H' σ ts (tv.tr++fr):=by
 have main:∀ y,itP false n k p i (ts.map TL.er)=some y->∃ w t m ch,ts[k]?=some (TL.own w t)/\t.get p=some (.nd a (.lst m) ch)/\(T.nd a (.lst m) ch).ok H/\y=(ch[i]?).map fun c=>mkV k (p++[i]) c.er:=by
  intro y hy;unfold itP at hy
  split at hy
  case isFalse=>cases hy
  case isTrue hh=>
   cases ed:Zt (ts.map TL.er) (.plc k p) with
   | none=>rw [ed] at hy;cases hy
   | some d=>
    rw [ed] at hy
    cases d with
    | «at» v=>cases hy
    | nd kd l=>
     cases kd with
     | lst m=>
      obtain ⟨w,t,kd,ch,h1,h2,h3,h4⟩:=Za6 C hh ed ⟨_,_,rfl⟩;cases h3;simp only [Je.injEq] at hy;exact ⟨w,t,m,ch,h1,h2,h4,by rw [<- hy,T.ers_eq,Qc,Qac];rfl⟩
     | _=>cases hy
 refine ⟨fun h=>?_,fun r h=>?_⟩
 .obtain ⟨w,t,m,ch,h1,h2,h3,h4⟩:=main _ h
  refine ⟨ch.map T.val,h3.1.sqL,?_⟩
  cases e:ch[i]? with
  | some c=>rw [e] at h4;cases h4
  | none=>simpa using e
 .obtain ⟨w,t,m,ch,h1,h2,h3,h4⟩:=main _ h
  cases e:ch[i]? with
  | none=>rw [e] at h4;cases h4
  | some c=>
   rw [e] at h4;have hs:SqL K H a (ch.map T.val):=h3.1.sqL;refine ⟨⟨_,c.val,hs,by rw [Qc,e];rfl⟩,?_⟩;rintro x _ ⟨rfl,hx⟩;have:=hx _ hs;rw [Qc,e] at this;cases this;obtain ⟨tv,q1,q2,q3⟩:=mk_ok (p:=p++[i]) C h1 (by rw [T.get_app,h2];show T.get [i] (.nd a (.lst m) ch)=some c;simp only [T.get,e]);refine ⟨tv,?_,q2,q3⟩;rw [q1];cases h4;rfl
def Zab{n k:Nat}{p:List Nat}{a:Addr}(i:Nat)(H:Hp)(σ:L2.St)(ts:Ts)(C:Cf R ix (hd++[(n,a)]) H σ ts fr):(itP true n k p i (ts.map TL.er)=some none->(Itt K a).stop i H)/\∀ r,itP true n k p i (ts.map TL.er)=some (some r)->(Itt K a).go i H/\∀ x H',(Itt K a).yld i H x H'->∃ tv,tv.er=r/\Z08 ts x tv/\Cf R ix (hd++[(n,a)]) H' σ ts (tv.tr++fr):=by
 have main:∀ y,itP true n k p i (ts.map TL.er)=some y->∃ w t ch,ts[k]?=some (TL.own w t)/\t.get p=some (.nd a .tup ch)/\(T.nd a .tup ch).ok H/\y=(ch[i]?).map fun c=>mkV k (p++[i]) c.er:=by
  intro y hy;unfold itP at hy
  split at hy
  case isFalse=>cases hy
  case isTrue hh=>
   cases ed:Zt (ts.map TL.er) (.plc k p) with
   | none=>rw [ed] at hy;cases hy
   | some d=>
    rw [ed] at hy
    cases d with
    | «at» v=>cases hy
    | nd kd l=>
     cases kd with
     | tup=>
      obtain ⟨w,t,kd,ch,h1,h2,h3,h4⟩:=Za6 C hh ed ⟨_,_,rfl⟩;cases h3;simp only [Je.injEq] at hy;exact ⟨w,t,ch,h1,h2,h4,by rw [<- hy,T.ers_eq,Qc,Qac];rfl⟩
     | _=>cases hy
 refine ⟨fun h=>?_,fun r h=>?_⟩
 .obtain ⟨w,t,ch,h1,h2,h3,h4⟩:=main _ h
  refine ⟨ch.map T.val,h3.1.sqT,?_⟩
  cases e:ch[i]? with
  | some c=>rw [e] at h4;cases h4
  | none=>simpa using e
 .obtain ⟨w,t,ch,h1,h2,h3,h4⟩:=main _ h
  cases e:ch[i]? with
  | none=>rw [e] at h4;cases h4
  | some c=>
   rw [e] at h4;have hs:SqT K H a (ch.map T.val):=h3.1.sqT;refine ⟨⟨_,c.val,hs,by rw [Qc,e];rfl⟩,?_⟩;rintro x _ ⟨rfl,hx⟩;have:=hx _ hs;rw [Qc,e] at this;cases this;obtain ⟨tv,q1,q2,q3⟩:=mk_ok (p:=p++[i]) C h1 (by rw [T.get_app,h2];show T.get [i] (.nd a .tup ch)=some c;simp only [T.get,e]);refine ⟨tv,?_,q2,q3⟩;rw [q1];cases h4;rfl
def ZeS{f:EF}{b:Sd->DV->Option Sd}{body:SF}(D:Ends)(σ:L2.St)(H:Hp)(h:lS R ix (sForL f b body) D σ H):tFor (iSeq K (lE R ix f)) (lG R ix b) (lS R ix body) D σ H:=by
 obtain ⟨hd,ts,fr,C,h⟩:=h;refine ⟨hd,ts,fr,C,?_⟩;unfold sForL at h
 cases ef:f (ts.map TL.er) with
 | no=>rw [ef] at h;exact h
 | ex E s1=>rw [ef] at h;intro H1 ts1 e1 C1;exact h H1 σ ts1 e1 C1
 | ok r s1=>
  rw [ef] at h;intro H1 ts1 tv v e1 e2 hv C1;subst e1;have hlen:(ts1.map TL.er).length=ts1.length:=by simp
  cases r with
  | plc k p=>
   obtain ⟨a,rfl,rfl,hp⟩:=hv.er_plc e2;dsimp only at h;refine ⟨a,rfl,?_⟩;obtain ⟨w,t,s,h1,h2,h3⟩:=id hp;have hd1:Zt (ts1.map TL.er) (.plc k p)=some s.er:=by simp only [Zt,Qc,h1,Qu,TL.er,T.get_er,h2]
   have sok:=T.get_ok h2 (C1.ok w t (Qg h1));rw [hd1,hlen] at h;have C2:Cf R ix (hd++[(ts1.length,a)]) H1 σ (ts1++[.bor k p a]) fr:=Cf.hide C1 hp
   cases s with
   | «at» v=>exact h.elim
   | nd b' kd ch=>
    cases h3
    cases kd with
    | lst m=>
     refine .inl ⟨⟨_,sok.1.sqL⟩,?_⟩;refine Z1w (it:=itP false ts1.length k p) (m:=ch.length + 1) Z7G C2 ?_;have:=Z4G (hm:=[(ts1.length,a)]) C1.ixs C1.hdi h;simpa [TL.er,T.ers_eq] using this
    | tup=>
     refine .inr ⟨⟨_,sok.1.sqT⟩,?_⟩;refine Z1w (it:=itP true ts1.length k p) (m:=ch.length + 1) Zab C2 ?_;have:=Z4G (hm:=[(ts1.length,a)]) C1.ixs C1.hdi h;simpa [TL.er,T.ers_eq] using this
    | _=>exact h.elim
  | val d=>
   obtain ⟨t,rfl,rfl,rfl⟩:=hv.er_val e2;dsimp only at h
   cases t with
   | «at» v=>exact h.elim
   | nd a kd ch=>
    refine ⟨a,rfl,?_⟩;rw [hlen] at h;have C2:Cf R ix (hd++[(ts1.length,a)]) H1 σ (ts1++[.own true (.nd a kd ch)]) fr:=Cf.push (a:=a) C1 rfl;have sok:=C1.fok.1
    cases kd with
    | lst m=>
     refine .inl ⟨⟨_,sok.1.sqL⟩,?_⟩;refine Z1w (it:=itP false ts1.length ts1.length []) (m:=ch.length + 1) Z7G C2 ?_;have:=Z4G (hm:=[(ts1.length,a)]) C1.ixs C1.hdi h;simpa [TL.er,T.er,T.ers_eq] using this
    | tup=>
     refine .inr ⟨⟨_,sok.1.sqT⟩,?_⟩;refine Z1w (it:=itP true ts1.length ts1.length []) (m:=ch.length + 1) Zab C2 ?_;have:=Z4G (hm:=[(ts1.length,a)]) C1.ixs C1.hdi h;simpa [TL.er,T.er,T.ers_eq] using this
    | _=>exact h.elim
def Zfu{tg iter:Expr}{bs:List Stmt}{f:EF}{b:Sd->DV->Option Sd}{body:SF}{pos:Pos}(hp:PassesOwn (model X.prog X.w) X.A X.env X.xe)(hc:X.calm=true)(hi:PE X iter (lE R ix f))(hg:PG X tg (lG R ix b))(hb:PSs X bs (lS R ix body))
  (hs:autoParam (∀ x,foldedSetIterable iter X.env x=pure x) uC._auto_1):PS X (.For tg iter bs [] pos) (lS R ix (sForL f b body)):=psM (Z7l hp hc (ZgY hi) hg hb hs) ZeS
def Z3M{tg a:Expr}{bs:List Stmt}{f:EF}{b:Sd->DV->Option Sd}{body:SF}{p pos fpos:Pos}(hp:PassesOwn (model X.prog X.w) X.A X.env X.xe)(hc:X.calm=true)(hgl:Gl X "range")(hm:X.mg "range"=none)(ha:PE X a (lE R ix f))(hg:PG X tg (lG R ix b))(hb:PSs X bs (lS R ix body))
  (hst:autoParam (starEach [a] X.env=[(false,eval a X.env)]) uA._auto_1) (hs:autoParam (∀ x,foldedSetIterable (.Call (.Name "range" p) [a] [] pos) X.env x=pure x) uC._auto_1):PS X (.For tg (.Call (.Name "range" p) [a] [] pos) bs [] fpos) (lS R ix (Z2D (Z0 f Z1) b body)):=by
 refine psM (Z7l hp hc (Z5K (ta:=Z2e (lE R ix f) tNil) hgl hm (Zg ha ZF hst) hst) hg hb hs) fun D σ H h=>?_;have h1:=lA_1 (Z99 D σ H h);refine Zd (fun v H1 q=>?_) h1;rcases q with ⟨j,e,hj,q⟩ | ⟨k,j,e,_⟩
 .cases e;exact ⟨j,rfl,hj.1,hj.2,q⟩
 .cases e
def ZdT{tg a c:Expr}{bs:List Stmt}{f g:EF}{b:Sd->DV->Option Sd}{body:SF}{p pos fpos:Pos}(hp:PassesOwn (model X.prog X.w) X.A X.env X.xe)(hc:X.calm=true)(hgl:Gl X "range")(hm:X.mg "range"=none)(ha:PE X a (lE R ix f))(hc2:PE X c (lE R ix g))(hg:PG X tg (lG R ix b))(hb:PSs X bs (lS R ix body))
  (hst:autoParam (starEach [a,c] X.env=[(false,eval a X.env),(false,eval c X.env)]) uA._auto_1) (hst2:autoParam (starEach [c] X.env=[(false,eval c X.env)]) uA._auto_1) (hs:autoParam (∀ x,foldedSetIterable (.Call (.Name "range" p) [a,c] [] pos) X.env x=pure x) uC._auto_1):PS X (.For tg (.Call (.Name "range" p) [a,c] [] pos) bs [] fpos) (lS R ix (Z2D (Z0 f (Z0 g Z1)) b body)):=by
 refine psM (Z7l hp hc (Zc1 (ta:=Z2e (lE R ix f) (Z2e (lE R ix g) tNil)) hgl hm (Zg ha (Zg hc2 ZF hst2) (by rw [hst,hst2])) hst hst2) hg hb hs) fun D σ H h=>?_;have h1:=Z1e (Z99 D σ H h);refine Zd (fun v H1 q=>Zd (fun u H2 q2=>?_) q) h1;rcases q2 with ⟨j,e,_⟩ | ⟨k,j,e,hj,q3⟩
 .cases e
 .cases e;exact ⟨k,j,rfl,hj,q3⟩
end
end
noncomputable def hole:D:=.at (.flt 0)
section
variable {R:RC}{ix:List Nat}{hd hm:List (Nat×Addr)}{X:Cx}{e:Expr}{H H':Hp}{σ:L2.St}{ts:Ts}{fr:List T}
theorem Cf.exch{k:Nat}{t s s':T}{p:List Nat}{fr':List T}{x:List Addr}(C:Cf R ix hd H σ ts fr)(hk:ts[k]?=some (.own true t))(hp:t.get p=some s)(hv:s'.val=s.val)
  (ho:s'.ok H) (hf:T.oks H fr') (hown:(s.own++T.owns fr).Perm (s'.own++T.owns fr'++x)) (hro:∀ b,b∈s'.ro\/b∈T.ros fr'->b∈s.ro\/b∈T.ros fr) :
  Cf R ix hd H σ ((ts.set k (.own true (T.put s' p t))).map (ZP k p fun _=>false)) fr':=by
 obtain ⟨c,r,K⟩:=T.ctx hp;obtain ⟨x1,z1,o1,o2⟩:=Z1o (f:=TL.own1) hk;obtain ⟨x2,z2,r1,r2⟩:=Z1o (f:=TL.ro1) hk;obtain ⟨x3,z3,d1,d2⟩:=Z1o (f:=TL.rd1) hk;generalize ht':T.put s' p t=t'
 have eO:Ze ((ts.set k (.own true t')).map (ZP k p fun _=>false))=x1++(t'.own++z1):=by
  unfold Ze;rw [Z3x (by intros;rfl),o2];rfl
 have eR:roS ((ts.set k (.own true t')).map (ZP k p fun _=>false))=x2++(t'.ro++z2):=by
  unfold roS;rw [Z3x (by intros;rfl),r2];rfl
 have eD:rdS ((ts.set k (.own true t')).map (ZP k p fun _=>false))=rdS ts:=by
  unfold rdS;rw [Z3x (by intros;rfl),d2,d1];rfl
 have fO:Ze ts=x1++(t.own++z1):=o1;have fR:roS ts=x2++(t.ro++z2):=r1
 have pm:(Ze ts++T.owns fr).Perm ((x1++(t'.own++z1)++T.owns fr')++x):=by
  rw [fO];refine Qw.mpr fun b=>?_;have q1:=(Qw.mp K.own b);have q2:=(Qw.mp (K.own' s') b);have q3:=(Qw.mp hown b);rw [ht'] at q2;simp only [Jk] at q1 q2 q3 ⊢;omega
 have nd3:=Qm.mp (pm.nodup_iff.mp C.nd)
 have sub1:∀ b,b∈x1++(t'.own++z1)\/b∈T.owns fr'->b∈Ze ts\/b∈T.owns fr:=fun b z=>Qf.mp (pm.mem_iff.mpr (Qh _ (by
  rcases z with z | z
  .exact Qh _ z
  .exact Qe _ z)))
 have tok':t'.ok H:=by
  rw [<- ht'];exact K.ok (C.ok true t (Qg hk)) (fun b hb=>rfl) ho hv
 have slot:∀ (j:Nat) (y:TL),((ts.set k (.own true t')).map (ZP k p fun _=>false))[j]?=some y->(j=k/\y=.own true t')\/(j≠k/\∃ y0,ts[j]?=some y0/\y=ZP k p (fun _=>false) y0):=by
  intro j y hy;rw [Qc,Qp] at hy;by_cases hj:k=j
  .subst hj
   rw [if_pos rfl,if_pos (Qd.mp hk).1] at hy;cases hy;exact .inl ⟨rfl,rfl⟩
  .rw [if_neg hj] at hy
   cases ey:ts[j]? with
   | none=>rw [ey] at hy;cases hy
   | some y0=>rw [ey] at hy;cases hy;exact .inr ⟨Ne.symm hj,y0,rfl,rfl⟩
 have tv':t'.val=t.val:=by rw [<- ht'];exact T.put_val hp hv
 have slv:∀ (j:Nat) (y:TL) (v:V),((ts.set k (.own true t')).map (ZP k p fun _=>false))[j]?=some y->y.v=some v->∃ y0,ts[j]?=some y0/\y0.v=some v:=by
  intro j y v hy hv;rcases slot j y hy with ⟨rfl,rfl⟩ | ⟨hj,y0,h0,rfl⟩
  .exact ⟨_,hk,by rw [<- hv];simp only [TL.v,tv']⟩
  .refine ⟨y0,h0,?_⟩
   rcases Z0t (k:=k) (p:=p) (keep:=fun _=>false) y0 with e | ⟨e,_⟩
   .rwa [e] at hv
   .rw [e] at hv;cases hv
 have len:((ts.set k (.own true t')).map (ZP k p fun _=>false)).length=ts.length:=by simp
 refine ⟨fun w u hu=>?_,hf,by rw [eO];exact nd3.1,fun b z=>?_,fun b z=>?_,fun b z=>?_,C.bg,fun j k' q b hj=>?_,fun j hj=>by rw [len];exact C.ixs j hj,fun i j y v h1 h2 h3=>?_,fun j b hj=>by rw [len];exact C.hdi j b hj,C.hdx,C.len,fun j b hj y v h2 h3=>?_⟩
 .obtain ⟨j,hj⟩:=Jg.mp hu
  rcases slot j _ hj with ⟨rfl,e⟩ | ⟨hjk,y0,h0,e⟩
  .cases e;exact tok'
  .rcases Z0t (k:=k) (p:=p) (keep:=fun _=>false) y0 with e' | ⟨e',_⟩
   .rw [e'] at e;subst e;exact C.ok w u (Qg h0)
   .rw [e'] at e;cases e
 .have old:b∈roS ts\/b∈T.ros fr->b∉x1++(t'.own++z1)/\b∉T.owns fr'/\¬ R.B b:=fun z=>by
   obtain ⟨h1,h2,h3⟩:=C.sep b z;exact ⟨fun q=>(sub1 b (.inl q)).elim h1 h2,fun q=>(sub1 b (.inr q)).elim h1 h2,h3⟩
  have new:b∈s'.ro\/b∈T.ros fr'->b∉x1++(t'.own++z1)/\b∉T.owns fr'/\¬ R.B b:=fun z=>by
   rcases hro b z with q | q
   .exact old (.inl (by rw [fR];simp [K.ro.mem_iff.mpr (Qe _ q)]))
   .exact old (.inr q)
  rw [eO];rw [eR] at z;rcases z with z | z
  .simp only [Qf] at z
   rcases z with z | z | z
   .exact old (.inl (by rw [fR];simp [z]))
   .have z':=(K.ro' s').mem_iff.mp (by rw [ht'];exact z)
    rcases Qf.mp z' with z' | z'
    .exact old (.inl (by rw [fR];simp [K.ro.mem_iff.mpr (Qh _ z')]))
    .exact new (.inl z')
   .exact old (.inl (by rw [fR];simp [z]))
  .exact new (.inr z)
 .rw [eD] at z
  rw [eO];obtain ⟨h1,h2⟩:=C.rd b z;exact ⟨fun q=>(sub1 b (.inl q)).elim h1 h2,fun q=>(sub1 b (.inr q)).elim h1 h2⟩
 .rw [eO]
  obtain ⟨g1,g2,g3,g4⟩:=C.g b z;exact ⟨g1,g2,fun q=>(sub1 b (.inl q)).elim g3 g4,fun q=>(sub1 b (.inr q)).elim g3 g4⟩
 .rcases slot j _ hj with ⟨rfl,e⟩ | ⟨hjk,y0,h0,e⟩
  .cases e
  .rcases Z0t (k:=k) (p:=p) (keep:=fun _=>false) y0 with e' | ⟨e',_⟩
   .rw [e'] at e
    subst e;obtain ⟨w,u,s1,h1,h2,h3⟩:=C.bor j k' q b h0;by_cases hkk:k'=k
    .subst hkk
     rw [hk] at h1;cases h1
     have at':((ts.set k' (.own true t')).map (ZP k' p fun _=>false))[k']?=some (.own true t'):=by
      rw [Qc,Qp,if_pos rfl,if_pos (Qd.mp hk).1];rfl
     cases hs:sub p q with
     | none=>
      obtain ⟨u',q1,q2⟩:=Z64 (s':=s') hp hv hs h2;rw [ht'] at q1;exact ⟨true,t',u',at',q1,q2.trans h3⟩
     | some i=>
      exfalso;rw [Z3Y] at e'
      have:gone k' p (fun _=>false) k' q=true:=by simp [gone,hs]
      rw [this] at e';cases e'
    .refine ⟨w,u,s1,?_,h2,h3⟩
     rw [Qc,Qp,if_neg (Ne.symm hkk),h1];rfl
   .rw [e'] at e;cases e
 .obtain ⟨y0,q1,q2⟩:=slv j y v h2 h3
  exact C.sl i j y0 v h1 q1 q2
 .obtain ⟨y0,q1,q2⟩:=slv j y v h2 h3
  exact C.hdn j b hj y0 v q1 q2
end
mutual
inductive RV where
 | val (d:D) | arg (j:Nat) (q:List Nat)
set_option genCtorIdx true in set_option genInjectivity false in gen_injective_theorems% RV
inductive RT where
 | val (t:T) | arg (j:Nat) (q:List Nat) (a:Addr)
set_option genCtorIdx true in set_option genInjectivity false in gen_injective_theorems% RT
abbrev RT.er:RT->RV
 | .val t=>.val t.er | .arg j q _=>.arg j q
abbrev RT.tr:RT->List T
 | .val t=>[t] | .arg _ _ _=>[]
inductive FR where
 | ok (r:RV) (ds:List D) | ex (C:Str) (ds:List D) | no
set_option genCtorIdx true in set_option genInjectivity false in gen_injective_theorems% FR
private abbrev Fn:=List D->FR
abbrev Zi(b:Bool):List Bool->List T->List T
 | m::ms,t::l=>if m=b then t::Zi b ms l else Zi b ms l
 | _,_=>[]
abbrev RtOk(ms:List Bool)(l:List T)(v:V):RT->Prop
 | .val t=>v=t.val
 | .arg j q a=>v=.ref a/\ms[j]?=some true/\∃ t s,l[j]?=some t/\t.get q=some s/\s.val=.ref a
structure Ent(H:Hp)(B:Addr->Prop)(ms:List Bool)(l:List T):Prop where
 len:ms.length=l.length
 ok:T.oks H l
 nd:(T.owns (Zi true ms l)).Nodup
 sep:∀ a∈T.ros l,a∉T.owns (Zi true ms l)/\¬ B a
 rd:∀ a∈T.owns (Zi false ms l),a∉T.owns (Zi true ms l)
 b:∀ a,B a->a∉T.owns (Zi true ms l)/\H a≠none
structure Exi(H H':Hp)(B:Addr->Prop)(ms:List Bool)(l l' m:List T):Prop where
 len:l'.length=l.length
 val:l'.map T.val=l.map T.val
 ok:T.oks H' (Zi true ms l')
 fok:T.oks H' m
 nd:(T.owns (Zi true ms l')++T.owns m).Nodup
 own:∀ a,a∈T.owns (Zi true ms l')\/a∈T.owns m->a∈T.owns (Zi true ms l)\/H a=none
 sep:∀ a,a∈T.ros (Zi true ms l')\/a∈T.ros m->a∉T.owns (Zi true ms l')/\a∉T.owns m/\¬ B a
 keep:∀ a,H a≠none->a∉T.owns (Zi true ms l)->H' a=H a
abbrev spR(ad:Str->Addr)(ms:List Bool)(fn:Fn):Sp:=fun vs H Q E=>∃ (l:List T) (B:Addr->Prop),l.map T.val=vs/\Ent H B ms l/\match fn (T.ers l) with
 | .ok rv ds'=>∀ H' l' rt v,T.ers l'=ds'->rt.er=rv->RtOk ms l' v rt->Exi H H' B ms l l' rt.tr->Q v H'
 | .ex C ds'=>∀ H' l',T.ers l'=ds'->Exi H H' B ms l l' []->E (.ref (ad C)) none H'
 | .no=>False
abbrev ini(n:Nat)(ms:List Bool)(ds:List D):Sd:=ds.mapIdx (fun k d=>if d.imm then .own true d else .bor (n + k) [])++List.replicate (n - ds.length) .non++List.zipWith (fun m d=>if d.imm then DL.non else .own m d) ms ds
abbrev outs(s:Sd):Nat->List Bool->List D->Option (List D)
 | n,m::ms,d::r=>if d.imm then (outs s (n + 1) ms r).map (d::·) else (match s[n]?,outs s (n + 1) ms r with | some (.own w d'),some r'=>if w=m then some (d'::r') else none | _,_=>none)
 | _,_,[]=>some []
 | _,[],_=>none
abbrev ends(n:Nat)(ms:List Bool)(ds:List D)(r:DV)(s:Sd):FR:=match outs s n ms ds with
 | none=>.no
 | some ds'=>match r with
  | .val d=>.ok (.val d) ds'
  | .plc j q=>if n<=j then (match ms[j - n]?,ds[j - n]? with | some true,some d=>if d.imm then .no else .ok (.arg (j - n) q) ds' | _,_=>.no)
   else (match Zt s (.plc j q),s[j]? with | some d,some (.own true _)=>.ok (.val d) ds' | _,_=>.no)
abbrev Zn(n:Nat)(ms:List Bool)(body:SF):Fn:=fun ds=>match body (ini n ms ds) with
 | .nx s=>ends n ms ds (.val (.at .non)) s
 | .rt r s=>ends n ms ds r s
 | .ex C s=>(match outs s n ms ds with | some ds'=>.ex C ds' | none=>.no)
 | _=>.no
abbrev T.adr:T->Addr
 | .nd a _ _=>a | .at _=>0
def T.adr_val{t:T}(h:t.er.imm=false):t.val=.ref t.adr:=by
 cases t with
 | «at» v=>cases h
 | nd a k l=>rfl
abbrev iniT(n:Nat)(ms:List Bool)(l:List T):Ts:=l.mapIdx (fun k t=>if t.er.imm then .own true t else .bor (n + k) [] t.adr)++List.replicate (n - l.length) .non++List.zipWith (fun m t=>if t.er.imm then TL.non else .own m t) ms l
def Zgo{n:Nat}{ms:List Bool}{l:List T}:(iniT n ms l).map TL.er=ini n ms (T.ers l):=by
 unfold iniT ini;rw [T.ers_eq,Wg,Wg,Qx];have cg:∀ {a b c a' b' c':Sd},a=a'->b=b'->c=c'->a++b++c=a'++b'++c':=by rintro _ _ _ _ _ _ rfl rfl rfl;rfl
 refine cg ?_ ?_ ?_
 .refine Wr fun i=>?_
  simp only [Qc,Wz,Qac]
  cases l[i]? with
  | none=>rfl
  | some t=>simp only [Qu,Function.comp];cases t.er.imm <;> rfl
 .simp [TL.er]
 .refine Wr fun i=>?_
  simp only [Qc,Wx,Qac]
  cases ms[i]? with
  | none=>rfl
  | some m=>cases l[i]? with
   | none=>rfl
   | some t=>simp only [Qu,Function.comp];cases t.er.imm <;> rfl
end
section
mutual
variable {n:Nat}{ms:List Bool}{l:List T}{H:Hp}
def Zdt(hl:ms.length=l.length)(hn:l.length<=n):(iniT n ms l).length=n + l.length:=by
 unfold iniT;simp only [Jf,Ga,Wl,List.length_zipWith,hl];omega
def Za9(hn:l.length<=n){i:Nat}(hi:i < n):(iniT n ms l)[i]?=some (match l[i]? with | some t=>if t.er.imm then .own true t else .bor (n + i) [] t.adr | none=>.non):=by
 unfold iniT;rw [Qn];by_cases h:i < l.length
 .rw [Qo (by simpa using h),Wz,Qk h];rfl
 .rw [Jd (by simpa using h),Qo (by simp;omega),Ww (Nat.le_of_not_lt h)]
  simp only [Ga,Gf];rw [if_pos (by omega)]
def Za8(hl:ms.length=l.length)(hn:l.length<=n){k:Nat}{m:Bool}{t:T}(h1:ms[k]?=some m)(h2:l[k]?=some t):(iniT n ms l)[n + k]?=some (if t.er.imm then .non else .own m t):=by
 unfold iniT;rw [Jd (by simp only [Jf,Ga,Wl];omega)]
 have:n + k - (l.mapIdx (fun k t=>if t.er.imm then TL.own true t else .bor (n + k) [] t.adr)++List.replicate (n - l.length) TL.non).length=k:=by simp only [Jf,Ga,Wl];omega
 rw [this,Wx,h1,h2]
def Zaa:∀ {ms:List Bool} {l:List T},Ze (List.zipWith (fun m t=>if t.er.imm then TL.non else .own m t) ms l)=T.owns (Zi true ms l)/\rdS (List.zipWith (fun m t=>if t.er.imm then TL.non else .own m t) ms l)=T.owns (Zi false ms l)
 | [],l=>by cases l <;> exact ⟨rfl,rfl⟩
 | m::ms,[]=>⟨rfl,rfl⟩
 | m::ms,t::l=>by
  obtain ⟨h1,h2⟩:=Zaa (ms:=ms) (l:=l);simp only [List.zipWith_cons_cons,Zi];unfold Ze rdS at *;rw [We,We,h1,h2]
  cases hi:t.er.imm with
  | true=>
   have:=T.imm_own hi;cases m <;> simp [TL.own1,TL.rd1,T.owns,this]
  | false=>cases m <;> simp [TL.own1,TL.rd1,T.owns]
def Z8g:∀ (l:List T) (f:Nat->T->TL),(∀ k t,f k t=.own true t/\t.er.imm=true\/∃ a b c,f k t=.bor a b c)->Ze (l.mapIdx f)=[]/\rdS (l.mapIdx f)=[]
 | [],f,h=>⟨rfl,rfl⟩
 | t::l,f,h=>by
  obtain ⟨h1,h2⟩:=Z8g l (fun k=>f (k + 1)) fun k t=>h (k + 1) t;rw [List.mapIdx_cons];unfold Ze rdS at *;rw [We,We,h1,h2];rcases h 0 t with ⟨e,hi⟩ | ⟨a,b,c,e⟩
  .rw [e];exact ⟨by simp [TL.own1,T.imm_own hi],rfl⟩
  .rw [e];exact ⟨rfl,rfl⟩
def Zdu:Ze (iniT n ms l)=T.owns (Zi true ms l)/\rdS (iniT n ms l)=T.owns (Zi false ms l):=by
 unfold iniT
 have h1:=Z8g l (fun k t=>if t.er.imm then TL.own true t else .bor (n + k) [] t.adr) fun k t=>by
  cases hi:t.er.imm with
  | true=>exact .inl ⟨rfl,rfl⟩
  | false=>exact .inr ⟨_,_,_,rfl⟩
 have h2:=Zaa (ms:=ms) (l:=l);rw [Z1x,Z1x,Z2X,Z2X,h1.1,h1.2,h2.1,h2.2];constructor
 .simp [Ze,TL.own1]
 .simp [rdS,TL.rd1]
def Z96{w:Bool}{t:T}(h:TL.own w t∈iniT n ms l):t∈l:=by
 unfold iniT at h;simp only [Qf] at h;rcases h with (h | h) | h
 .obtain ⟨i,hi⟩:=Jg.mp h
  rw [Wz] at hi
  cases e:l[i]? with
  | none=>rw [e] at hi;cases hi
  | some u=>
   rw [e] at hi;simp only [Qu,Je.injEq] at hi
   split at hi
   .cases hi;exact Qg e
   .cases hi
 .simp at h
 .obtain ⟨i,hi⟩:=Jg.mp h
  rw [Wx] at hi
  cases e1:ms[i]? with
  | none=>rw [e1] at hi;cases hi
  | some m=>
   cases e:l[i]? with
   | none=>rw [e1,e] at hi;cases hi
   | some u=>
    rw [e1,e] at hi;simp only [Je.injEq] at hi
    split at hi
    .cases hi
    .cases hi;exact Qg e
abbrev ancs(n:Nat)(l:List T):List (Nat×Addr):=(l.mapIdx fun k t=>(n + k,t)).filterMap fun p=>if p.2.er.imm then none else some (p.1,p.2.adr)
def Z4P{j:Nat}{a:Addr}:(j,a)∈ancs n l↔∃ k t,l[k]?=some t/\t.er.imm=false/\j=n + k/\a=t.adr:=by
 unfold ancs;rw [Wm];constructor
 .rintro ⟨⟨x,t⟩,hm,h⟩
  obtain ⟨k,hk⟩:=Jg.mp hm;rw [Wz] at hk
  cases e:l[k]? with
  | none=>rw [e] at hk;cases hk
  | some u=>
   rw [e] at hk;cases hk;dsimp only at h
   cases hi:t.er.imm with
   | true=>rw [hi] at h;cases h
   | false=>rw [hi] at h;cases h;exact ⟨k,t,e,hi,rfl,rfl⟩
 .rintro ⟨k,t,hk,hi,rfl,rfl⟩
  refine ⟨(n + k,t),Qg (i:=k) (by rw [Wz,hk];rfl),?_⟩;rw [hi];rfl
def Cf.entry{B:Addr->Prop}{EX:L2.St->XK}{ad:Str->Addr}{N:List Str}{vs:List V}(en:Ent H B ms l)(hv:l.map T.val=vs)(hn:l.length<=N.length) :
  Cf ⟨H,fun a=>H a≠none/\a∉T.owns (Zi true ms l),B,EX,ad⟩ (List.range N.length) (ancs N.length l) H (L2.start N vs) (iniT N.length ms l) []:=by
 obtain ⟨o1,o2⟩:=Zdu (n:=N.length) (ms:=ms) (l:=l);have ln:=Zdt (n:=N.length) en.len hn
 have ros:∀ a,a∈roS (iniT N.length ms l)->a∈T.ros l:=fun a z=>by
  obtain ⟨w,t,h1,h2⟩:=Z1p.mp z;exact T.mem_ros.mpr ⟨t,Z96 h1,h2⟩
 have hms:∀ k t,l[k]?=some t->∃ m,ms[k]?=some m:=fun k t h=>⟨ms[k]'(by rw [en.len];exact (Qd.mp h).1),Qk _⟩
 have hi:∀ k t,l[k]?=some t->t.er.imm=false->∃ m,ms[k]?=some m/\(iniT N.length ms l)[N.length + k]?=some (TL.own m t):=fun k t h e=>by
  obtain ⟨m,hm⟩:=hms k t h;exact ⟨m,hm,by rw [Za8 en.len hn hm h,e];rfl⟩
 refine ⟨fun w t z=>T.oks_iff.mp en.ok t (Z96 z),trivial,by rw [o1];simpa [T.owns] using en.nd,fun a z=>?_,fun a z=>?_,fun a z=>?_,fun a z=>?_,fun j k p a z=>?_,fun j z=>?_,fun i j s v z1 z2 z3=>?_,fun j a z=>?_,fun j a z=>?_,?_,fun j a z s v z2 z3=>?_⟩
 .rw [o1]
  rcases z with z | z
  .have:=en.sep a (ros a z)
   exact ⟨this.1,by simp [T.owns],this.2⟩
  .simp [T.ros] at z
 .rw [o2] at z;rw [o1];exact ⟨en.rd a z,by simp [T.owns]⟩
 .rw [o1];exact ⟨rfl,z.1,z.2,by simp [T.owns]⟩
 .exact ⟨(en.b a z).2,(en.b a z).1⟩
 .have hj:j < N.length:=by
   rcases Nat.lt_or_ge j N.length with h | h
   .exact h
   .have hlt:=(Qd.mp z).1
    rw [ln] at hlt;obtain ⟨t,ht⟩:∃ t,l[j - N.length]?=some t:=⟨l[j - N.length]'(by omega),Qk _⟩;obtain ⟨m,hm⟩:=hms _ _ ht;have:=Za8 en.len hn hm ht;rw [show N.length + (j - N.length)=j by omega,z] at this
    split at this <;> cases this
  rw [Za9 hn hj] at z
  cases e:l[j]? with
  | none=>rw [e] at z;cases z
  | some t=>
   rw [e] at z;dsimp only at z
   cases hi':t.er.imm with
   | true=>rw [hi'] at z;cases z
   | false=>
    rw [hi'] at z;cases z;obtain ⟨m,_,q⟩:=hi j t e hi';exact ⟨m,t,t,q,rfl,T.adr_val hi'⟩
 .rw [ln];have:=Qaa.mp z;omega
 .have hir:=(Qd.mp z1)
  have hlt:i < N.length:=by simpa using hir.1
  obtain rfl:i=j:=by
   have:=hir.2;simpa using this
  rw [Za9 hn hlt] at z2
  cases e:l[i]? with
  | none=>rw [e] at z2;cases z2;cases z3
  | some t=>
   rw [e] at z2;have hvi:vs[i]?=some t.val:=by rw [<- hv,Qc,e];rfl
   have hst:(L2.start N vs)[i]?=some (some t.val):=by
    unfold L2.start;rw [Qo (by simpa using (Qd.mp hvi).1),Qc,hvi];rfl
   rw [hst];dsimp only at z2
   cases hi':t.er.imm with
   | true=>rw [hi'] at z2;cases z2;cases z3;rfl
   | false=>rw [hi'] at z2;cases z2;cases z3;rw [T.adr_val hi']
 .obtain ⟨k,t,h1,_,rfl,_⟩:=Z4P.mp z
  rw [ln];have:=(Qd.mp h1).1;omega
 .obtain ⟨k,t,h1,_,rfl,_⟩:=Z4P.mp z
  simp
 .unfold L2.start
  have:vs.length=l.length:=by rw [<- hv];simp
  simp;omega
 .obtain ⟨k,t,h1,h2,rfl,rfl⟩:=Z4P.mp z
  obtain ⟨m,_,q⟩:=hi k t h1 h2;rw [q] at z2;cases z2;simp only [TL.v,Je.injEq] at z3;rw [<- z3,T.adr_val h2]
end
end
section
mutual
variable {R:RC}{ix:List Nat}{hd:List (Nat×Addr)}{H H':Hp}{σ:L2.St}{ts:Ts}{fr:List T}{ms:List Bool}
def ZbT(C:Cf R ix hd H' σ ts fr):∀ {ms:List Bool} {l:List T} {n:Nat} {ds:List D},outs (ts.map TL.er) n ms (T.ers l)=some ds->(∀ k t,l[k]?=some t->t.er.imm=false->(n + k,t.adr)∈hd) ->
  ∃ l':List T,T.ers l'=ds/\l'.length=l.length/\l'.map T.val=l.map T.val/\(∀ k t',l'[k]?=some t'->(∃ t,l[k]?=some t/\t.er.imm=true/\t'=t)\/∃ t m,l[k]?=some t/\t.er.imm=false/\ms[k]?=some m/\ts[n + k]?=some (.own m t')) /\
   List.Sublist (T.owns (Zi true ms l')) (Ze (ts.drop n))
 | m::ms,t::l,n,ds,h,ha=>by
  simp only [T.ers,outs] at h
  have rest:∀ ds',outs (ts.map TL.er) (n + 1) ms (T.ers l)=some ds'->∃ l':List T,T.ers l'=ds'/\l'.length=l.length/\l'.map T.val=l.map T.val/\(∀ k t',l'[k]?=some t'->(∃ t,l[k]?=some t/\t.er.imm=true/\t'=t)\/∃ t m,l[k]?=some t/\t.er.imm=false/\ms[k]?=some m/\ts[n + 1 + k]?=some (.own m t')) /\
    List.Sublist (T.owns (Zi true ms l')) (Ze (ts.drop (n + 1))):=fun ds' h'=>ZbT C h' fun k u hk hu=>by
   have:=ha (k + 1) u (by simpa using hk) hu
   rwa [show n + (k + 1)=n + 1 + k by omega] at this
  have dr:List.Sublist (Ze (ts.drop (n + 1))) (Ze (ts.drop n)):=by
   cases e:ts[n]? with
   | none=>
    have:=List.getElem?_eq_none_iff.mp e;rw [List.drop_eq_nil_of_le (by omega),List.drop_eq_nil_of_le (by omega)];exact .refl _
   | some y=>
    rw [Qag (Qd.mp e).1];unfold Ze;rw [We];exact Qah _ _
  cases hi:t.er.imm with
  | true=>
   rw [hi,if_pos rfl] at h
   cases er:outs (ts.map TL.er) (n + 1) ms (T.ers l) with
   | none=>rw [er] at h;cases h
   | some ds'=>
    rw [er] at h;cases h;obtain ⟨l',a1,a2,a3,a4,a5⟩:=rest ds' er;refine ⟨t::l',by rw [T.ers,a1],by simp [a2],by simp [a3],fun k t' hk=>?_,?_⟩
    .cases k with
     | zero=>cases hk;exact .inl ⟨t,rfl,hi,rfl⟩
     | succ k=>
      rcases a4 k t' (by simpa using hk) with ⟨u,u1,u2,u3⟩ | ⟨u,m',u1,u2,u3,u4⟩
      .exact .inl ⟨u,by simpa using u1,u2,u3⟩
      .exact .inr ⟨u,m',by simpa using u1,u2,by simpa using u3,by rw [show n + (k + 1)=n + 1 + k by omega];exact u4⟩
    .simp only [Zi]
     cases m with
     | true=>rw [if_pos rfl,T.owns_cons,T.imm_own hi];exact a5.trans dr
     | false=>rw [if_neg Ql];exact a5.trans dr
  | false=>
   rw [hi,if_neg Ql,Qc] at h
   cases e:ts[n]? with
   | none=>rw [e] at h;cases h
   | some y=>
    rw [e] at h
    cases er:outs (ts.map TL.er) (n + 1) ms (T.ers l) with
    | none=>rw [er] at h;cases y <;> cases h
    | some ds'=>
     rw [er] at h
     cases y with
     | non=>cases h
     | bor _ _ _=>cases h
     | own w t'=>
      simp only [Qu,TL.er] at h;by_cases hw:w=m
      .subst hw
       rw [if_pos rfl] at h;cases h;obtain ⟨l',a1,a2,a3,a4,a5⟩:=rest ds' er
       have hv:t'.val=t.val:=by
        rw [T.adr_val hi];exact C.hdn n t.adr (ha 0 t rfl hi) _ _ e rfl
       refine ⟨t'::l',by rw [T.ers,a1],by simp [a2],by simp [a3,hv],fun k u hk=>?_,?_⟩
       .cases k with
        | zero=>cases hk;exact .inr ⟨t,w,rfl,hi,rfl,e⟩
        | succ k=>
         rcases a4 k u (by simpa using hk) with ⟨u',u1,u2,u3⟩ | ⟨u',m',u1,u2,u3,u4⟩
         .exact .inl ⟨u',by simpa using u1,u2,u3⟩
         .exact .inr ⟨u',m',by simpa using u1,u2,by simpa using u3,by rw [show n + (k + 1)=n + 1 + k by omega];exact u4⟩
       .rw [Qag (Qd.mp e).1]
        unfold Ze;rw [We,(Qd.mp e).2];simp only [Zi]
        cases w with
        | true=>rw [if_pos rfl,T.owns_cons];exact List.Sublist.append (.refl _) a5
        | false=>rw [if_neg Ql];exact a5
      .rw [if_neg hw] at h;cases h
 | ms',[],n,ds,h,ha=>by
  have:ds=[]:=by
   cases ms' <;> (simp only [T.ers,outs] at h;cases h;rfl)
  subst this;refine ⟨[],rfl,rfl,rfl,fun k t' hk=>by simp at hk,?_⟩;cases ms' <;> exact List.nil_sublist _
 | [],t::l,n,ds,h,ha=>by simp only [T.ers,outs] at h;cases h
def Z3J{b:Bool}{t:T}:∀ {ms:List Bool} {l:List T},t∈Zi b ms l->∃ k:Nat,l[k]?=some t/\ms[k]?=some b
 | m::ms,u::l,h=>by
  simp only [Zi] at h;by_cases hm:m=b
  .rw [if_pos hm] at h
   rcases Jb.mp h with h | h
   .subst h;exact ⟨0,rfl,by rw [hm];rfl⟩
   .obtain ⟨k,h1,h2⟩:=Z3J h;exact ⟨k + 1,by simpa using h1,by simpa using h2⟩
  .rw [if_neg hm] at h
   obtain ⟨k,h1,h2⟩:=Z3J h;exact ⟨k + 1,by simpa using h1,by simpa using h2⟩
 | [],_,h=>by simp [Zi] at h
 | _::_,[],h=>by simp [Zi] at h
def Cf.exit{B:Addr->Prop}{EX:L2.St->XK}{ad:Str->Addr}{n:Nat}{l m:List T}{ds:List D}(en:Ent H B ms l)(C:Cf ⟨H,fun a=>H a≠none/\a∉T.owns (Zi true ms l),B,EX,ad⟩ (List.range n) (ancs n l) H' σ ts m)
  (ho:outs (ts.map TL.er) n ms (T.ers l)=some ds):∃ l',T.ers l'=ds/\Exi H H' B ms l l' m/\∀ k t',l'[k]?=some t'->(∃ t,l[k]?=some t/\t.er.imm=true/\t'=t)\/∃ t w,l[k]?=some t/\t.er.imm=false/\ms[k]?=some w/\ts[n + k]?=some (.own w t'):=by
 obtain ⟨l',a1,a2,a3,a4,a5⟩:=ZbT C ho fun k t hk hi=>Z4P.mpr ⟨k,t,hk,hi,rfl,rfl⟩;have kp:∀ a,H a≠none->a∉T.owns (Zi true ms l)->H' a=H a:=fun a h1 h2=>(C.g a ⟨h1,h2⟩).1
 have imk:∀ (k:Nat) (t:T),l[k]?=some t->t.er.imm=true->t.ok H'/\∀ a∈t.ro,a∉Ze ts/\a∉T.owns m/\¬ B a:=fun k t hk hi=>by
  have tok:=T.oks_iff.mp en.ok t (Qg hk)
  have G:∀ a∈t.ro,H a≠none/\a∉T.owns (Zi true ms l)/\¬ B a:=fun a z=>by
   have:=en.sep a (T.mem_ros.mpr ⟨t,Qg hk,z⟩);exact ⟨T.there tok (.inr z),this.1,this.2⟩
  refine ⟨T.keep tok fun a z=>?_,fun a z=>?_⟩
  .rcases z with z | z
   .rw [T.imm_own hi] at z;cases z
   .exact kp a (G a z).1 (G a z).2.1
  .obtain ⟨g1,g2,g3⟩:=G a z
   obtain ⟨_,_,q1,q2⟩:=C.g a ⟨g1,g2⟩;exact ⟨q1,q2,g3⟩
 have tops:∀ t'∈Zi true ms l',(t'.ok H'/\∀ a∈t'.ro,a∉Ze ts/\a∉T.owns m/\¬ B a):=fun t' ht=>by
  obtain ⟨k,h1,h2⟩:=Z3J ht;rcases a4 k t' h1 with ⟨t,u1,u2,rfl⟩ | ⟨t,w,u1,u2,u3,u4⟩
  .exact imk k _ u1 u2
  .refine ⟨C.ok w t' (Qg u4),fun a z=>C.sep a (.inl (Z1p.mpr ⟨w,t',Qg u4,z⟩))⟩
 have sb:List.Sublist (T.owns (Zi true ms l')) (Ze ts):=by
  refine a5.trans ?_
  have:Ze ts=Ze (ts.take n)++Ze (ts.drop n):=by rw [<- Z1x,List.take_append_drop]
  rw [this];exact Qah _ _
 refine ⟨l',a1,⟨a2,a3,T.oks_iff.mpr fun t' ht=>(tops t' ht).1,C.fok,?_,fun a z=>?_,fun a z=>?_,kp⟩,a4⟩
 .exact (List.Sublist.append sb (List.Sublist.refl (T.owns m))).nodup C.nd
 .have hz:a∈Ze ts\/a∈T.owns m:=z.imp (fun q=>sb.subset q) id
  by_cases h1:H a=none
  .exact .inr h1
  .left
   by_cases h2:a∈T.owns (Zi true ms l)
   .exact h2
   .obtain ⟨_,_,q1,q2⟩:=C.g a ⟨h1,h2⟩
    exact (hz.elim q1 q2).elim
 .have:a∉Ze ts/\a∉T.owns m/\¬ B a:=by
   rcases z with z | z
   .obtain ⟨t',ht,hz⟩:=T.mem_ros.mp z
    exact (tops t' ht).2 a hz
   .exact C.sep a (.inr z)
  exact ⟨fun q=>this.1 (sb.subset q),this.2⟩
end
end
mutual
def Z7h{s s':Sd}:∀ {n:Nat} {ms:List Bool} {ds:List D},(∀ i,n<=i->∀ w d,s[i]?=some (.own w d)↔s'[i]?=some (.own w d))->outs s n ms ds=outs s' n ms ds
 | n,m::ms,d::r,h=>by
  simp only [outs];rw [Z7h (n:=n + 1) (ms:=ms) (ds:=r) fun i hi=>h i (by omega)]
  cases d.imm with
  | true=>rfl
  | false=>
   simp only [Nm,if_false];have h0:=h n (Qq n)
   cases e:s[n]? with
   | none=>
    cases e':s'[n]? with
    | none=>rfl
    | some y=>cases y with
     | own w d'=>have:=(h0 w d').mpr e';rw [e] at this;cases this
     | _=>cases outs s' (n + 1) ms r <;> rfl
   | some x=>
    cases x with
    | own w d'=>rw [(h0 w d').mp e]
    | non=>
     cases e':s'[n]? with
     | none=>cases outs s' (n + 1) ms r <;> rfl
     | some y=>cases y with
      | own w d'=>have:=(h0 w d').mpr e';rw [e] at this;cases this
      | _=>cases outs s' (n + 1) ms r <;> rfl
    | bor a b=>
     cases e':s'[n]? with
     | none=>cases outs s' (n + 1) ms r <;> rfl
     | some y=>cases y with
      | own w d'=>have:=(h0 w d').mpr e';rw [e] at this;cases this
      | _=>cases outs s' (n + 1) ms r <;> rfl
 | n,[],[],h=>rfl
 | n,_::_,[],h=>rfl
 | n,[],_::_,h=>rfl
def Z7W{ad:Str->Addr}{ms:List Bool}{fn:Fn}{vs:List V}{H:Hp}{Q:VK}{E:XK}(h:spR ad ms fn vs H Q E):vs.length=ms.length:=by
 obtain ⟨l,B,hv,en,_⟩:=h;rw [<- hv,Qx,en.len]
def Z5v{ad:Str->Addr}{N:List Str}{ms:List Bool}{body:SF}{vs:List V}{H:Hp}{Q:VK}{E:XK}(hn:ms.length<=N.length)(h:spR ad ms (Zn N.length ms body) vs H Q E) :
  ∃ R:RC,R.EX=(fun _=>E)/\R.ad=ad/\lS R (List.range N.length) body { nx:=fun _ H'=>Q .non H',rt:=Q } (L2.start N vs) H:=by
 obtain ⟨l,B,hv,en,h⟩:=h;refine ⟨⟨H,fun a=>H a≠none/\a∉T.owns (Zi true ms l),B,fun _=>E,ad⟩,rfl,rfl,ancs N.length l,iniT N.length ms l,[],Cf.entry en hv (by rw [<- en.len];exact hn),?_⟩;rw [Zgo];unfold Zn at h;generalize ini N.length ms (T.ers l)=s0 at h
 have fin:∀ {H':Hp} {σ':L2.St} {ts':Ts} {t:T} {s':Sd},ts'.map TL.er=s'->Cf ⟨H,fun a=>H a≠none/\a∉T.owns (Zi true ms l),B,fun _=>E,ad⟩ (List.range N.length) (ancs N.length l) H' σ' ts' [t] ->
   (match ends N.length ms (T.ers l) (.val t.er) s' with | .ok rv ds'=>∀ H' l' rt v,T.ers l'=ds'->rt.er=rv->RtOk ms l' v rt->Exi H H' B ms l l' rt.tr->Q v H' | .ex C ds'=>∀ H' l',T.ers l'=ds'->Exi H H' B ms l l' []->E (.ref (ad C)) none H' | .no=>False)->Q t.val H':=by
  intro H' σ' ts' t s' e C h;subst e;unfold ends at h
  cases eo:outs (ts'.map TL.er) N.length ms (T.ers l) with
  | none=>rw [eo] at h;exact h.elim
  | some ds'=>
   rw [eo] at h;obtain ⟨l',a1,a2,_⟩:=Cf.exit en C eo;exact h H' l' (.val t) t.val a1 rfl rfl a2
 cases eb:body s0 with
 | nx s=>rw [eb] at h;intro H' σ' ts' e C;exact fin (t:=.at .non) e (C.at .non) h
 | bk s=>rw [eb] at h;exact h.elim
 | ct s=>rw [eb] at h;exact h.elim
 | no=>rw [eb] at h;exact h.elim
 | ex Cx s=>
  rw [eb] at h;intro H' σ' ts' e C;subst e;dsimp only at h
  cases eo:outs (ts'.map TL.er) N.length ms (T.ers l) with
  | none=>rw [eo] at h;exact h.elim
  | some ds'=>
   rw [eo] at h;obtain ⟨l',a1,a2,_⟩:=Cf.exit en C eo;exact h H' l' a1 a2
 | rt r s=>
  rw [eb] at h;intro H' σ' ts' tv v e1 e2 hv' C
  cases r with
  | val d=>
   obtain ⟨t,rfl,rfl,rfl⟩:=hv'.er_val e2;exact fin e1 C h
  | plc j q=>
   obtain ⟨a,rfl,rfl,hp⟩:=hv'.er_plc e2;subst e1;obtain ⟨w,t,s1,h1,h2,h3⟩:=hp;dsimp only at h;unfold ends at h
   cases eo:outs (ts'.map TL.er) N.length ms (T.ers l) with
   | none=>rw [eo] at h;exact h.elim
   | some ds'=>
    rw [eo] at h;dsimp only at h;by_cases hj:N.length<=j
    .rw [if_pos hj] at h
     obtain ⟨l',a1,a2,a3⟩:=Cf.exit (m:=[]) en C eo
     cases em:ms[j - N.length]? with
     | none=>rw [em] at h;exact h.elim
     | some m=>
      cases ed:(T.ers l)[j - N.length]? with
      | none=>rw [em,ed] at h;cases m <;> exact h.elim
      | some d=>
       rw [em,ed] at h
       cases m with
       | false=>exact h.elim
       | true=>
        dsimp only at h
        cases hi:d.imm with
        | true=>rw [hi] at h;exact h.elim
        | false=>
         rw [hi] at h;refine h H' l' (.arg (j - N.length) q a) (.ref a) a1 rfl ⟨rfl,em,?_⟩ a2
         have hlt:j - N.length < l'.length:=by
          rw [a2.len];have:=(Qd.mp ed).1
          rwa [T.ers_eq,Qx] at this
         rcases a3 (j - N.length) l'[j - N.length] (Qk hlt) with ⟨u,u1,u2,_⟩ | ⟨u,w',u1,u2,u3,u4⟩
         .rw [T.ers_eq,Qc,u1] at ed
          cases ed;rw [u2] at hi;cases hi
         .rw [show N.length + (j - N.length)=j by omega,h1] at u4
          cases u4;exact ⟨_,s1,Qk hlt,h2,h3⟩
    .rw [if_neg hj] at h
     have hd1:Zt (ts'.map TL.er) (.plc j q)=some s1.er:=by simp only [Zt,Qc,h1,Qu,TL.er,T.get_er,h2]
     rw [hd1,Qc,h1] at h
     cases w with
     | false=>exact h.elim
     | true=>
      obtain ⟨c,r,K⟩:=T.ctx h2
      have C':Cf ⟨H,fun a=>H a≠none/\a∉T.owns (Zi true ms l),B,fun _=>E,ad⟩ (List.range N.length) (ancs N.length l) H' σ' ((ts'.set j (.own true (T.put (.at (.ref a)) q t))).map (ZP j q fun _=>false)) [s1]:=by
       refine Cf.exch (s':=.at (.ref a)) (x:=[]) (fr':=[s1]) C h1 h2 h3.symm trivial ⟨T.get_ok h2 (C.ok true t (Qg h1)),trivial⟩ ?_ ?_
       .simp [T.owns,T.own,TV.tr]
       .intro b hb
        simpa [T.ros,T.ro,TV.tr] using hb
      have eo':outs (((ts'.set j (.own true (T.put (.at (.ref a)) q t))).map (ZP j q fun _=>false)).map TL.er) N.length ms (T.ers l)=some ds':=by
       rw [<- eo];refine (Z7h fun i hi w d=>?_).symm;rw [Qc,Qc,Qc,Qp,if_neg (by omega)]
       cases e:ts'[i]? with
       | none=>simp
       | some y=>
        rcases Z0t (k:=j) (p:=q) (keep:=fun _=>false) y with e' | ⟨e',k',q',a',rfl⟩
        .simp only [Qu,e']
        .simp only [Qu,e',TL.er]
         exact ⟨fun z=>(by cases z),fun z=>(by cases z)⟩
      obtain ⟨l',a1,a2,_⟩:=Cf.exit en C' eo';exact h H' l' (.val s1) (.ref a) a1 rfl h3.symm a2
abbrev disj:List Nat->List Nat->Bool
 | x::p,y::q=>if x=y then disj p q else true
 | _,_=>false
abbrev apart(k:Nat)(p:List Nat):List DV->List Bool->Bool
 | .plc k' p'::rs,true::ms=>(decide (k'≠k) || disj p' p) && apart k p rs ms
 | _::rs,_::ms=>apart k p rs ms
 | _,_=>true
abbrev takes:List DV->List Bool->Sd->Option (Sd×List (Option D))
 | [],_,s=>some (s,[])
 | .val d::rs,_::ms,s=>(match takes rs ms s with | some (s',l)=>some (s',some d::l) | none=>none)
 | .plc k p::rs,true::ms,s=>(match s[k]?,Zt s (.plc k p),apart k p rs ms with
  | some (.own true _),some d,true=>(match takes rs ms (wr s k p hole fun _=>false) with | some (s',l)=>some (s',some d::l) | none=>none)
  | _,_,_=>none)
 | .plc _ _::rs,false::ms,s=>(match takes rs ms s with | some (s',l)=>some (s',none::l) | none=>none)
 | _::_,[],_=>none
abbrev fills(s:Sd):List DV->List (Option D)->Option (List D)
 | _::rs,some d::l=>(match fills s rs l with | some r=>some (d::r) | none=>none)
 | r::rs,none::l=>(match Zt s r,fills s rs l with | some d,some r=>some (d::r) | _,_=>none)
 | [],[]=>some []
 | _,_=>none
abbrev gives:List DV->List Bool->List D->Sd->Sd
 | .plc k p::rs,true::ms,d::ds,s=>wr (gives rs ms ds s) k p d fun _=>false
 | _::rs,_::ms,_::ds,s=>gives rs ms ds s
 | _,_,_,s=>s
abbrev retV(rs:List DV)(ms:List Bool)(s:Sd):RV->ER DV
 | .val d=>.ok (.val d) s
 | .arg j q=>match rs[j]?,ms[j]? with
  | some (.plc k p),some true=>(match Zt s (.plc k (p++q)) with | some d=>.ok (mkV k (p++q) d) s | none=>.no)
  | _,_=>.no
abbrev Zh(ms:List Bool)(fn:Fn)(f:AF):EF:=fun s=>match f s with
 | .ok rs s1=>(match takes rs ms s1 with
  | some (sh,l)=>(match fills sh rs l with
   | some ds=>(match fn ds with
    | .ok rv ds'=>retV rs ms (gives rs ms ds' sh) rv
    | .ex C ds'=>.ex C (gives rs ms ds' sh)
    | .no=>.no)
   | none=>.no)
  | none=>.no)
 | .ex C s1=>.ex C s1
 | .no=>.no
abbrev Z0F(ts:Ts)(k:Nat)(p:List Nat):Option (Bool×T):=match ts[k]? with
 | some (.own w t)=>(t.get p).map fun u=>(w,u)
 | _=>none
def Z8d:∀ {p q:List Nat},disj p q=disj q p
 | [],[]=>rfl
 | [],_::_=>rfl
 | _::_,[]=>rfl
 | x::p,y::q=>by
  unfold disj;by_cases h:x=y
  .subst h;rw [if_pos rfl,if_pos rfl,Z8d]
  .rw [if_neg h,if_neg (Ne.symm h)]
def Z94{s':T}:∀ {p q:List Nat} {t:T},disj p q=true->(T.put s' p t).get q=t.get q
 | [],q,t,h=>by cases h
 | _::_,[],t,h=>by cases h
 | i::p,j::q,.at v,h=>rfl
 | i::p,j::q,.nd a k l,h=>by
  unfold disj at h;simp only [T.put,T.get]
  cases e:l[i]? with
  | none=>rfl
  | some c=>
   simp only [T.get];rw [Qp];by_cases hij:i=j
   .subst hij
    rw [if_pos rfl] at h;rw [if_pos rfl,if_pos (Qd.mp e).1,e];exact Z94 h
   .rw [if_neg hij]
abbrev TV.vv:TV->V
 | .val t=>t.val | .plc _ _ a=>.ref a
end
section
mutual
variable {R:RC}{ix:List Nat}{hd:List (Nat×Addr)}{X:Cx}{H H':Hp}{σ:L2.St}{ts:Ts}{fr:List T}
def Z53{k:Nat}{p:List Nat}{t s':T}{keep:Nat->Bool}(hk:ts[k]?=some (.own true t)){k0:Nat}{p0:List Nat}(h:k0≠k\/disj p p0=true) :
  Z0F ((ts.set k (.own true (T.put s' p t))).map (ZP k p keep)) k0 p0=Z0F ts k0 p0:=by
 unfold Z0F;rw [Qc,Qp];by_cases e:k=k0
 .subst e
  rw [if_pos rfl,if_pos (Qd.mp hk).1,hk];have hd:disj p p0=true:=h.resolve_left (fun z=>z rfl);show ((T.put s' p t).get p0).map _=(t.get p0).map _;rw [Z94 hd]
 .rw [if_neg e]
  cases e1:ts[k0]? with
  | none=>rfl
  | some y=>
   rcases Z0t (k:=k) (p:=p) (keep:=keep) y with e' | ⟨e',k',q,a,rfl⟩
   .simp only [Qu,e']
   .simp only [Qu,e']
def Z6w{k:Nat}{p:List Nat}{t s s':T}{keep:Nat->Bool}(hk:ts[k]?=some (.own true t))(hp:t.get p=some s) :
  Z0F ((ts.set k (.own true (T.put s' p t))).map (ZP k p keep)) k p=some (true,s'):=by
 unfold Z0F;rw [Qc,Qp,if_pos rfl,if_pos (Qd.mp hk).1];show ((T.put s' p t).get p).map _=_;have:=Z6W (s':=s') (r:=[]) hp;rw [Jo] at this;rw [this];rfl
def Z6x{k:Nat}{p:List Nat}{w:Bool}{u:T}(h:Z0F ts k p=some (w,u)):∃ t,ts[k]?=some (.own w t)/\t.get p=some u:=by
 unfold Z0F at h
 cases e:ts[k]? with
 | none=>rw [e] at h;cases h
 | some y=>
  rw [e] at h
  cases y with
  | own w' t=>
   dsimp only at h
   cases e2:t.get p with
   | none=>rw [e2] at h;cases h
   | some v=>rw [e2] at h;cases h;exact ⟨t,rfl,e2⟩
  | _=>cases h
def Z3V{k:Nat}{p:List Nat}:∀ {tvs:List TV} {ms:List Bool} {i k':Nat} {p':List Nat} {a:Addr},apart k p (tvs.map TV.er) ms=true->tvs[i]?=some (.plc k' p' a)->ms[i]?=some true->k'≠k\/disj p' p=true
 | tv::tvs,m::ms,i,k',p',a,h,h1,h2=>by
  cases i with
  | zero=>
   cases h1;cases h2;simp only [Qj,TV.er,apart,Ja,Bool.or_eq_true,decide_eq_true_eq] at h;exact h.1
  | succ i=>
   refine Z3V (tvs:=tvs) (ms:=ms) (i:=i) ?_ (by simpa using h1) (by simpa using h2)
   cases tv with
   | val t=>simpa only [Qj,TV.er,apart] using h
   | plc k2 p2 a2=>
    cases m with
    | false=>simpa only [Qj,TV.er,apart] using h
    | true=>simp only [Qj,TV.er,apart,Ja] at h;exact h.2
 | [],_,i,_,_,_,_,h1,_=>by simp at h1
 | _::_,[],i,_,_,_,_,_,h2=>by simp at h2
abbrev Aparts:List TV->List Bool->Prop
 | .plc k p _::tvs,true::ms=>apart k p (tvs.map TV.er) ms=true/\Aparts tvs ms
 | _::tvs,_::ms=>Aparts tvs ms
 | _,_=>True
def Z65:∀ {tvs:List TV} {ms:List Bool} {l' rest:List T} {tsx:Ts},Aparts tvs ms->ms.length=tvs.length->l'.map T.val=tvs.map TV.vv->Cf R ix hd H' σ tsx (Zi true ms l'++rest) ->
  (∀ (i k:Nat) p a,tvs[i]?=some (.plc k p a)->ms[i]?=some true->Z0F tsx k p=some (true,.at (.ref a))) ->
  ∃ ts',ts'.map TL.er=gives (tvs.map TV.er) ms (T.ers l') (tsx.map TL.er)/\Cf R ix hd H' σ ts' rest/\(∀ (i k:Nat) p a t,tvs[i]?=some (.plc k p a)->ms[i]?=some true->l'[i]?=some t->Z0F ts' k p=some (true,t)) /\
   ∀ k0 p0 u,(∀ (i k:Nat) p a,tvs[i]?=some (.plc k p a)->ms[i]?=some true->k0≠k\/disj p p0=true)->Z0F tsx k0 p0=some u->Z0F ts' k0 p0=some u
 | [],ms,l',rest,tsx,_,hl,hv,C,_=>by
  have:ms=[]:=by simpa using hl
  subst this;refine ⟨tsx,by simp [gives],by simpa [Zi] using C,fun i k p a t h=>by simp at h,fun _ _ _ _ h=>h⟩
 | tv::tvs,[],_,_,_,_,hl,_,_,_=>by simp at hl
 | tv::tvs,m::ms,[],_,_,_,_,hv,_,_=>by simp at hv
 | tv::tvs,m::ms,t::l',rest,tsx,A,hl,hv,C,hh=>by
  simp only [Qj,Js.injEq] at hv;have hl':ms.length=tvs.length:=by simpa using hl
  have tail:∀ {rest':List T},Aparts tvs ms->Cf R ix hd H' σ tsx (Zi true ms l'++rest')->_:=fun {rest'} A' C'=>Z65 (rest:=rest') A' hl' hv.2 C' fun i k p a h1 h2=>hh (i + 1) k p a (by simpa using h1) (by simpa using h2)
  have plain:Aparts tvs ms->(∀ k p a,tv=.plc k p a->m=true->False)->gives ((tv::tvs).map TV.er) (m::ms) (T.ers (t::l')) (tsx.map TL.er)=gives (tvs.map TV.er) ms (T.ers l') (tsx.map TL.er)->Cf R ix hd H' σ tsx (Zi true ms l'++rest)->∃ ts',ts'.map TL.er=gives ((tv::tvs).map TV.er) (m::ms) (T.ers (t::l')) (tsx.map TL.er)/\Cf R ix hd H' σ ts' rest/\(∀ (i k:Nat) p a u,(tv::tvs)[i]?=some (.plc k p a)->(m::ms)[i]?=some true->(t::l')[i]?=some u->Z0F ts' k p=some (true,u)) /\
   ∀ k0 p0 u,(∀ (i k:Nat) p a,(tv::tvs)[i]?=some (.plc k p a)->(m::ms)[i]?=some true->k0≠k\/disj p p0=true)->Z0F tsx k0 p0=some u->Z0F ts' k0 p0=some u:=by
   intro A' hno hg C';obtain ⟨ts',e1,e2,e3,e4⟩:=tail A' C';refine ⟨ts',e1.trans hg.symm,e2,fun i k p a u h1 h2 h3=>?_,fun k0 p0 u h1 h2=>e4 k0 p0 u (fun i k p a z1 z2=>h1 (i + 1) k p a (by simpa using z1) (by simpa using z2)) h2⟩
   cases i with
   | zero=>cases h1;cases h2;exact (hno k p a rfl rfl).elim
   | succ i=>exact e3 i k p a u (by simpa using h1) (by simpa using h2) (by simpa using h3)
  cases tv with
  | val t0=>
   refine plain A (by intro _ _ _ z;cases z) rfl ?_;simp only [Zi] at C
   cases m with
   | true=>rw [if_pos rfl] at C;exact C.drop
   | false=>rwa [if_neg Ql] at C
  | plc k p a=>
   cases m with
   | false=>
    refine plain A (by intro _ _ _ _ z;cases z) rfl ?_;simp only [Zi] at C
    rwa [if_neg Ql] at C
   | true=>
    simp only [Zi,if_true] at C
    have C1:Cf R ix hd H' σ tsx (Zi true ms l'++(t::rest)):=by
     have ok:=C.fok;refine C.less (x:=[]) (T.oks_app.mpr ⟨(T.oks_app.mp ok.2).1,ok.1,(T.oks_app.mp ok.2).2⟩) ?_ fun b hb=>?_
     .refine Qw.mpr fun b=>?_
      simp only [Jm,T.owns_cons,T.owns_app,Jk,Jo];omega
     .left
      simp only [Jm,T.ros_cons,T.ros_app,Qf] at hb ⊢;rcases hb with hb | hb | hb <;> simp [hb]
    obtain ⟨ts1,e1,e2,e3,e4⟩:=tail (rest':=t::rest) A.2 C1
    have hole1:Z0F ts1 k p=some (true,.at (.ref a)):=by
     refine e4 k p _ (fun i k' p' a' z1 z2=>?_) (hh 0 k p a rfl rfl);exact (Z3V A.1 z1 z2).imp Ne.symm id
    obtain ⟨u,u1,u2⟩:=Z6x hole1;have C2:=Cf.exch (s':=t) (fr':=rest) (x:=[]) e2 u1 u2 hv.1 e2.fok.1 e2.fok.2 (by simp [T.own,T.owns]) (fun b hb=>.inr (by rw [T.ros_cons];simpa using hb));refine ⟨_,?_,C2,fun i k' p' a' t' h1 h2 h3=>?_,fun k0 p0 x h1 h2=>?_⟩
    .rw [wr_er u1,e1];rfl
    .cases i with
     | zero=>cases h1;cases h3;exact Z6w u1 u2
     | succ i=>
      rw [Z53 u1 (by
       have:=Z3V A.1 (i:=i) (by simpa using h1) (by simpa using h2);rw [Z8d];exact this)]
      exact e3 i k' p' a' t' (by simpa using h1) (by simpa using h2) (by simpa using h3)
    .rw [Z53 u1 (h1 0 k p a rfl rfl)]
     exact e4 k0 p0 x (fun i k p a z1 z2=>h1 (i + 1) k p a (by simpa using z1) (by simpa using z2)) h2
end
end
section
mutual
variable {R:RC}{ix:List Nat}{hd:List (Nat×Addr)}{X:Cx}{H H':Hp}{σ:L2.St}{ts:Ts}{fr:List T}
abbrev TvW(ts:Ts):TV->Prop
 | .val _=>True
 | .plc k p a=>Zt (ts.map TL.er) (.plc k p)≠none->PlOk ts k p a
def TvW.take{k:Nat}{p:List Nat}{t s s':T}{tv:TV}{a:Addr}(h:TvW ts tv)(hk:ts[k]?=some (.own true t))(hp:t.get p=some s)(hs:s'=.at (.ref a))(hv:s'.val=s.val):TvW ((ts.set k (.own true (T.put s' p t))).map (ZP k p fun _=>false)) tv:=by
 cases tv with
 | val _=>trivial
 | plc k0 p0 a0=>
  intro hd
  have same:∀ (j:Nat) w u,j≠k->(ts[j]?=some (TL.own w u)↔((ts.set k (.own true (T.put s' p t))).map (ZP k p fun _=>false))[j]?=some (TL.own w u)):=by
   intro j w u hj;rw [Qc,Qp,if_neg (Ne.symm hj)]
   cases e:ts[j]? with
   | none=>simp
   | some y=>
    rcases Z0t (k:=k) (p:=p) (keep:=fun _=>false) y with e' | ⟨e',_,_,_,rfl⟩
    .simp only [Qu,e']
    .simp only [Qu,e']
     exact ⟨fun z=>(by cases z),fun z=>(by cases z)⟩
  have atk:((ts.set k (.own true (T.put s' p t))).map (ZP k p fun _=>false))[k]?=some (TL.own true (T.put s' p t)):=by
   rw [Qc,Qp,if_pos rfl,if_pos (Qd.mp hk).1];rfl
  by_cases hk0:k0=k
  .subst hk0
   have g:(T.put s' p t).get p0≠none:=by
    intro z;apply hd;simp only [Zt,Qc];rw [<- Qc,<- Qc,Qc,atk];simp only [Qu,TL.er,T.get_er,z];rfl
   have hsub:sub p p0=none:=by
    cases hs2:sub p p0 with
    | none=>rfl
    | some i=>
     exfalso;obtain ⟨r,rfl⟩:=Z6O hs2;rw [Z6W hp,hs] at g;exact g rfl
   have g0:t.get p0≠none:=by
    intro z
    have:∀ {p q:List Nat} {t:T},t.get q=none->sub p q=none->(T.put s' p t).get q=none:=by
     intro p
     induction p with
     | nil=>intro q t h1 h2;cases q with
      | nil=>cases h1
      | cons=>cases h2
     | cons i p ih=>
      intro q t h1 h2
      cases q with
      | nil=>cases h1
      | cons j q=>
       cases t with
       | «at» v=>rfl
       | nd a k l=>
        simp only [T.put]
        cases e:l[i]? with
        | none=>exact h1
        | some c=>
         simp only [T.get] at h1 ⊢;rw [Qp];unfold sub at h2;by_cases hij:i=j
         .subst hij
          rw [if_pos rfl] at h2;rw [e] at h1;rw [if_pos rfl,if_pos (Qd.mp e).1];exact ih h1 h2
         .rw [if_neg hij];exact h1
    exact g (this z hsub)
   obtain ⟨w,u,x,h1,h2,h3⟩:=h (by
    simp only [Zt,Qc,hk,Qu,TL.er,T.get_er]
    cases e:t.get p0 with
    | none=>exact absurd e g0
    | some y=>simp)
   rw [hk] at h1;cases h1;obtain ⟨u',q1,q2⟩:=Z64 (s':=s') hp hv hsub h2;exact ⟨true,_,u',atk,q1,q2.trans h3⟩
  .obtain ⟨w,u,x,h1,h2,h3⟩:=h (by
    intro z;apply hd;simp only [Zt,Qc] at z ⊢
    cases e:ts[k0]? with
    | none=>
     rw [<- Qc,<- Qc,Qc]
     have:((ts.set k (.own true (T.put s' p t))).map (ZP k p fun _=>false))[k0]?=none:=by
      rw [Qc,Qp,if_neg (Ne.symm hk0),e];rfl
     rw [this];rfl
    | some y=>
     rw [e] at z
     cases y with
     | own w u=>
      have:=(same k0 w u hk0).mp e;rw [<- Qc,<- Qc,Qc,this];exact z
     | non=>
      have:((ts.set k (.own true (T.put s' p t))).map (ZP k p fun _=>false))[k0]?=some .non:=by
       rw [Qc,Qp,if_neg (Ne.symm hk0),e];rfl
      rw [<- Qc,<- Qc,Qc,this];rfl
     | bor k1 p1 a1=>
      have:∃ z,((ts.set k (.own true (T.put s' p t))).map (ZP k p fun _=>false))[k0]?=some z/\∀ w u,z≠.own w u:=by
       rw [Qc,Qp,if_neg (Ne.symm hk0),e];refine ⟨_,rfl,fun w u z=>?_⟩;rcases Z0t (k:=k) (p:=p) (keep:=fun _=>false) (.bor k1 p1 a1) with e' | ⟨e',_⟩ <;> rw [e'] at z <;> cases z
      obtain ⟨z,hz,hn⟩:=this;rw [<- Qc,<- Qc,Qc,hz]
      cases z with
      | own w u=>exact absurd rfl (hn w u)
      | _=>rfl)
   exact ⟨w,u,x,(same k0 w u hk0).mp h1,h2,h3⟩
def Z08.w{v:V}{tv:TV}(h:Z08 ts v tv):TvW ts tv/\v=tv.vv:=by
 cases tv with
 | val t=>exact ⟨trivial,h⟩
 | plc k p a=>exact ⟨fun _=>h.2,h.1⟩
def Z4D:∀ {tvs:List TV} {ms:List Bool} {ts:Ts} {acc:List T} {sh:Sd} {lo:List (Option D)},(∀ tv∈tvs,TvW ts tv)->Cf R ix hd H σ ts (trs tvs++acc)->takes (tvs.map TV.er) ms (ts.map TL.er)=some (sh,lo)->ms.length=tvs.length ->
  ∃ (tsh:Ts) (as:List (Option T)),tsh.map TL.er=sh/\as.map (Option.map T.er)=lo/\as.length=tvs.length/\Cf R ix hd H σ tsh (as.filterMap id++acc)/\Aparts tvs ms/\(∀ tv,TvW ts tv->TvW tsh tv) /\
   (∀ (i:Nat) t tv,as[i]?=some (some t)->tvs[i]?=some tv->t.val=tv.vv)/\(∀ i:Nat,as[i]?=some none->ms[i]?=some false) /\
   (∀ (i k:Nat) p a,tvs[i]?=some (.plc k p a)->ms[i]?=some true->Z0F tsh k p=some (true,.at (.ref a))) /\
   ∀ k0 p0 u,(∀ (i k:Nat) p a,tvs[i]?=some (.plc k p a)->ms[i]?=some true->k0≠k\/disj p p0=true)->Z0F ts k0 p0=some u->Z0F tsh k0 p0=some u
 | [],ms,ts,acc,sh,lo,hw,C,h,hl=>by
  cases h;exact ⟨ts,[],rfl,rfl,rfl,by simpa [trs] using C,by cases ms <;> trivial,fun _ z=>z,by simp,by simp,by simp,fun _ _ _ _ z=>z⟩
 | tv::tvs,[],_,_,_,_,_,_,_,hl=>by simp at hl
 | tv::tvs,m::ms,ts,acc,sh,lo,hw,C,h,hl=>by
  have hl':ms.length=tvs.length:=by simpa using hl
  have hw':∀ tv∈tvs,TvW ts tv:=fun x z=>hw x (Qt _ z)
  have reo:∀ {tsh:Ts} {as:List (Option T)} {t:T},Cf R ix hd H σ tsh (as.filterMap id++(t::acc))->Cf R ix hd H σ tsh ((some t::as).filterMap id++acc):=by
   intro tsh as t C;have ok:=T.oks_app.mp C.fok;refine C.less (x:=[]) ?_ ?_ fun b hb=>?_
   .simp only [Jp,id,Jm]
    exact ⟨ok.2.1,T.oks_app.mpr ⟨ok.1,ok.2.2⟩⟩
   .refine Qw.mpr fun b=>?_
    simp only [Jp,id,Jm,T.owns_cons,T.owns_app,Jk,Jo];omega
   .left
    simp only [Jp,id,Jm,T.ros_cons,T.ros_app,Qf] at hb ⊢;rcases hb with hb | hb | hb <;> simp [hb]
  cases tv with
  | val t=>
   have C1:Cf R ix hd H σ ts (trs tvs++(t::acc)):=by
    have C0:Cf R ix hd H σ ts (t::(trs tvs++acc)):=C;have ok:=C0.fok;refine C0.less (x:=[]) (T.oks_app.mpr ⟨(T.oks_app.mp ok.2).1,ok.1,(T.oks_app.mp ok.2).2⟩) ?_ fun b hb=>?_
    .refine Qw.mpr fun b=>?_
     simp only [T.owns_cons,T.owns_app,Jk,Jo];omega
    .left
     simp only [T.ros_cons,T.ros_app,Qf] at hb ⊢;rcases hb with hb | hb | hb <;> simp [hb]
   simp only [Qj,TV.er,takes] at h
   cases et:takes (tvs.map TV.er) ms (ts.map TL.er) with
   | none=>rw [et] at h;cases h
   | some y=>
    obtain ⟨s',l⟩:=y;rw [et] at h;cases h;obtain ⟨tsh,as,a1,a2,a3,a4,a5,a6,a7,a8,a9,a10⟩:=Z4D hw' C1 et hl';refine ⟨tsh,some t::as,a1,by simp [a2],by simp [a3],reo a4,a5,a6,fun i u x h1 h2=>?_,fun i h1=>?_,fun i k p a h1 h2=>?_,fun k0 p0 u h1 h2=>?_⟩
    .cases i with
     | zero=>cases h1;cases h2;rfl
     | succ i=>exact a7 i u x (by simpa using h1) (by simpa using h2)
    .cases i with
     | zero=>cases h1
     | succ i=>simpa using a8 i (by simpa using h1)
    .cases i with
     | zero=>cases h1
     | succ i=>exact a9 i k p a (by simpa using h1) (by simpa using h2)
    .exact a10 k0 p0 u (fun i k p a z1 z2=>h1 (i + 1) k p a (by simpa using z1) (by simpa using z2)) h2
  | plc k p a=>
   have C0:Cf R ix hd H σ ts (trs tvs++acc):=C
   cases m with
   | false=>
    simp only [Qj,TV.er,takes] at h
    cases et:takes (tvs.map TV.er) ms (ts.map TL.er) with
    | none=>rw [et] at h;cases h
    | some y=>
     obtain ⟨s',l⟩:=y;rw [et] at h;cases h;obtain ⟨tsh,as,a1,a2,a3,a4,a5,a6,a7,a8,a9,a10⟩:=Z4D (acc:=acc) hw' C0 et hl';refine ⟨tsh,none::as,a1,by simp [a2],by simp [a3],by simpa using a4,a5,a6,fun i u x h1 h2=>?_,fun i h1=>?_,fun i k p a h1 h2=>?_,fun k0 p0 u h1 h2=>?_⟩
     .cases i with
      | zero=>cases h1
      | succ i=>exact a7 i u x (by simpa using h1) (by simpa using h2)
     .cases i with
      | zero=>rfl
      | succ i=>simpa using a8 i (by simpa using h1)
     .cases i with
      | zero=>cases h2
      | succ i=>exact a9 i k p a (by simpa using h1) (by simpa using h2)
     .exact a10 k0 p0 u (fun i k p a z1 z2=>h1 (i + 1) k p a (by simpa using z1) (by simpa using z2)) h2
   | true=>
    simp only [Qj,TV.er,takes,Qc] at h
    cases ek:ts[k]? with
    | none=>rw [ek] at h;cases h
    | some y=>
     rw [ek] at h
     cases y with
     | non=>cases h
     | bor _ _ _=>cases h
     | own w t=>
      cases w with
      | false=>simp only [Qu,TL.er] at h;cases h
      | true=>
       simp only [Qu,TL.er] at h
       cases ed:Zt (ts.map TL.er) (.plc k p) with
       | none=>rw [ed] at h;cases h
       | some d=>
        rw [ed] at h
        cases ea:apart k p (tvs.map TV.er) ms with
        | false=>rw [ea] at h;cases h
        | true=>
         rw [ea] at h;dsimp only at h;obtain ⟨w',t',s,h1,h2,h3⟩:=hw _ Qs (show Zt (ts.map TL.er) (.plc k p)≠none by rw [ed];simp);rw [ek] at h1;cases h1
         have hds:d=s.er:=by
          simp only [Zt,Qc,ek,Qu,TL.er,T.get_er,h2,Je.injEq] at ed;exact ed.symm
         have sok:s.ok H:=T.get_ok h2 (C.ok true t (Qg ek))
         have C1:=Cf.exch (s':=.at (.ref a)) (fr':=trs tvs++(s::acc)) (x:=[]) C0 ek h2 h3.symm trivial (T.oks_app.mpr ⟨(T.oks_app.mp C0.fok).1,sok,(T.oks_app.mp C0.fok).2⟩) (by
          refine Qw.mpr fun b=>?_
          simp only [T.own,T.owns_cons,T.owns_app,Jk,List.count_nil,Jo,Jq];omega) (fun b hb=>by
          simp only [T.ro,T.ros_cons,T.ros_app,Qf,List.not_mem_nil,false_or] at hb ⊢;rcases hb with hb | hb | hb <;> simp [hb])
         have er1:=wr_er (ts:=ts) (s':=.at (.ref a)) (p:=p) (keep:=fun _=>false) ek
         cases et:takes (tvs.map TV.er) ms (wr (ts.map TL.er) k p hole fun _=>false) with
         | none=>rw [et] at h;cases h
         | some y=>
          obtain ⟨s',l⟩:=y;rw [et] at h;cases h;obtain ⟨tsh,as,a1,a2,a3,a4,a5,a6,a7,a8,a9,a10⟩:=Z4D (acc:=s::acc) (fun x z=>TvW.take (hw' x z) ek h2 rfl h3.symm) C1 (by rw [er1];exact et) hl';refine ⟨tsh,some s::as,a1,by simp [a2,hds],by simp [a3],reo a4,⟨ea,a5⟩,fun x z=>a6 x (TvW.take z ek h2 rfl h3.symm),fun i u x q1 q2=>?_,fun i q1=>?_,fun i k' p' a' q1 q2=>?_,fun k0 p0 u q1 q2=>?_⟩
          .cases i with
           | zero=>cases q1;cases q2;exact h3
           | succ i=>exact a7 i u x (by simpa using q1) (by simpa using q2)
          .cases i with
           | zero=>cases q1
           | succ i=>simpa using a8 i (by simpa using q1)
          .cases i with
           | zero=>
            cases q1;exact a10 k p _ (fun i k2 p2 a2 z1 z2=>(Z3V ea z1 z2).imp Ne.symm id) (Z6w ek h2)
           | succ i=>exact a9 i k' p' a' (by simpa using q1) (by simpa using q2)
          .refine a10 k0 p0 u (fun i k2 p2 a2 z1 z2=>q1 (i + 1) k2 p2 a2 (by simpa using z1) (by simpa using z2)) ?_
           rw [Z53 ek (q1 0 k p a rfl rfl)];exact q2
end
end
section
mutual
variable {R:RC}{ix:List Nat}{hd:List (Nat×Addr)}{X:Cx}{H H':Hp}{σ:L2.St}{ts:Ts}{fr:List T}
def Z7B{tsh:Ts}(C:Cf R ix hd H σ tsh fr):∀ {tvs:List TV} {as:List (Option T)} {ds:List D},fills (tsh.map TL.er) (tvs.map TV.er) (as.map (Option.map T.er))=some ds->(∀ tv∈tvs,TvW tsh tv)->(∀ t,some t∈as->t.ok H)->(∀ (i:Nat) t tv,as[i]?=some (some t)->tvs[i]?=some tv->t.val=tv.vv)->(∀ (i:Nat) (t:T),as[i]?=some none->tvs[i]?≠some (.val t)) ->
  ∃ l:List T,T.ers l=ds/\l.map T.val=tvs.map TV.vv/\T.oks H l/\l.length=as.length/\∀ (i:Nat) t,l[i]?=some t->as[i]?=some (some t)\/(as[i]?=some none/\∃ (k:Nat) (p:List Nat) (w:Bool) (u:T),tsh[k]?=some (TL.own w u)/\u.get p=some t)
 | [],[],ds,h,_,_,_,_=>by cases h;exact ⟨[],rfl,rfl,trivial,rfl,by simp⟩
 | [],_::_,ds,h,_,_,_,_=>by simp [fills] at h
 | tv::tvs,[],ds,h,_,_,_,_=>by simp [fills] at h
 | tv::tvs,o::as,ds,h,hw,ho,hv,hn=>by
  have rest:∀ ds',fills (tsh.map TL.er) (tvs.map TV.er) (as.map (Option.map T.er))=some ds'->_:=fun ds' h'=>Z7B C h' (fun x z=>hw x (Qt _ z)) (fun t z=>ho t (Qt _ z)) (fun i t x h1 h2=>hv (i + 1) t x (by simpa using h1) (by simpa using h2)) (fun i t h1=>by simpa using hn (i + 1) t (by simpa using h1))
  cases o with
  | some t=>
   simp only [Qj,Qu,fills] at h
   cases ef:fills (tsh.map TL.er) (tvs.map TV.er) (as.map (Option.map T.er)) with
   | none=>rw [ef] at h;cases h
   | some ds'=>
    rw [ef] at h;cases h;obtain ⟨l,a1,a2,a3,a4,a5⟩:=rest ds' ef;refine ⟨t::l,by rw [T.ers,a1],by simp [a2,hv 0 t tv rfl rfl],⟨ho t Qs,a3⟩,by simp [a4],fun i u hi=>?_⟩
    cases i with
    | zero=>cases hi;exact .inl rfl
    | succ i=>simpa using a5 i u (by simpa using hi)
  | none=>
   simp only [Qj,Option.map_none,fills] at h
   cases ed:Zt (tsh.map TL.er) tv.er with
   | none=>rw [ed] at h;cases h
   | some d=>
    rw [ed] at h
    cases ef:fills (tsh.map TL.er) (tvs.map TV.er) (as.map (Option.map T.er)) with
    | none=>rw [ef] at h;cases h
    | some ds'=>
     rw [ef] at h;cases h;obtain ⟨l,a1,a2,a3,a4,a5⟩:=rest ds' ef
     cases tv with
     | val t=>exact absurd rfl (hn 0 t rfl)
     | plc k p a=>
      obtain ⟨w,u,s,h1,h2,h3⟩:=hw _ Qs (show Zt (tsh.map TL.er) (.plc k p)≠none by rw [show Zt (tsh.map TL.er) (.plc k p)=some d from ed];simp)
      have hds:s.er=d:=by
       have ed':Zt (tsh.map TL.er) (.plc k p)=some d:=ed;simp only [Zt,Qc,h1,Qu,TL.er,T.get_er,h2,Je.injEq] at ed';exact ed'
      refine ⟨s::l,by rw [T.ers,a1,hds],by simp [a2,h3,TV.vv],⟨T.get_ok h2 (C.ok w u (Qg h1)),a3⟩,by simp [a4],fun i x hi=>?_⟩
      cases i with
      | zero=>cases hi;exact .inr ⟨rfl,k,p,w,u,h1,h2⟩
      | succ i=>simpa using a5 i x (by simpa using hi)
def Z6L:∀ {ms:List Bool} {l:List T} {as:List (Option T)},ms.length=l.length->l.length=as.length->(∀ (i:Nat) t,l[i]?=some t->as[i]?=some (some t)\/as[i]?=some none)->(∀ i:Nat,as[i]?=some none->ms[i]?=some false) ->
  ∃ x,(T.owns (as.filterMap id)).Perm (T.owns (Zi true ms l)++x)/\∀ (i:Nat) t,ms[i]?=some false->as[i]?=some (some t)->∀ a∈t.own,a∈x
 | [],[],[],_,_,_,_=>⟨[],by simp [Zi,T.owns],by simp⟩
 | m::ms,t::l,o::as,h1,h2,h3,h4=>by
  obtain ⟨x,p1,p2⟩:=Z6L (ms:=ms) (l:=l) (as:=as) (by simpa using h1) (by simpa using h2) (fun i u hi=>by simpa using h3 (i + 1) u (by simpa using hi)) (fun i hi=>by simpa using h4 (i + 1) (by simpa using hi))
  cases o with
  | none=>
   have:m=false:=by have:=h4 0 rfl;simpa using this
   subst this;refine ⟨x,by simpa [Zi] using p1,fun i u z1 z2=>?_⟩
   cases i with
   | zero=>cases z2
   | succ i=>exact p2 i u (by simpa using z1) (by simpa using z2)
  | some t'=>
   have:t'=t:=by
    rcases h3 0 t rfl with z | z
    .cases z;rfl
    .cases z
   subst this
   cases m with
   | true=>
    refine ⟨x,?_,fun i u z1 z2=>?_⟩
    .simp only [Jp,id,Zi,if_true,T.owns_cons]
     refine Qw.mpr fun b=>?_;have:=Qw.mp p1 b;simp only [Jk] at this ⊢;omega
    .cases i with
     | zero=>cases z1
     | succ i=>exact p2 i u (by simpa using z1) (by simpa using z2)
   | false=>
    refine ⟨t'.own++x,?_,fun i u z1 z2 a ha=>?_⟩
    .simp only [Jp,id,Zi,T.owns_cons,Nm,if_false]
     refine Qw.mpr fun b=>?_;have:=Qw.mp p1 b;simp only [Jk] at this ⊢;omega
    .cases i with
     | zero=>cases z2;exact Qh _ ha
     | succ i=>exact Qe _ (p2 i u (by simpa using z1) (by simpa using z2) a ha)
 | [],_::_,_,h1,_,_,_=>by simp at h1
 | _::_,[],_,h1,_,_,_=>by simp at h1
 | _,[],_::_,_,h2,_,_=>by simp at h2
 | _,_::_,[],_,h2,_,_=>by simp at h2
def Cf.after{tsh:Ts}{ws l l' m:List T}{ms:List Bool}{x:List Addr}{B:Addr->Prop}(C:Cf R ix hd H σ tsh (ws++fr))(hx:(T.owns ws).Perm (T.owns (Zi true ms l)++x))(hB:∀ a,R.B a\/a∈Ze tsh\/a∈T.owns fr->B a)(E:Exi H H' B ms l l' m) :
  Cf R ix hd H' σ tsh (Zi true ms l'++(m++fr)):=by
 have inw:∀ a,a∈T.owns (Zi true ms l)->a∈T.owns (ws++fr):=fun a z=>by
  rw [T.owns_app];exact Qh _ (hx.mem_iff.mpr (Qh _ z))
 have nd:=Qm.mp C.nd;have ndw:(T.owns ws++T.owns fr).Nodup:=by have:=nd.2.1;rwa [T.owns_app] at this
 have ndw':=Qm.mp ndw;have k1:∀ a,a∈Ze tsh->a∉T.owns (Zi true ms l):=fun a z q=>nd.2.2 a z a (inw a q) rfl;have k2:∀ a,a∈T.owns fr->a∉T.owns (Zi true ms l):=fun a z q=>ndw'.2.2 a (hx.mem_iff.mpr (Qh _ q)) a z rfl;have k3:∀ a,a∈roS tsh\/a∈T.ros (ws++fr)->a∉T.owns (Zi true ms l):=fun a z q=>(C.sep a z).2.1 (inw a q);have k4:∀ a,a∈rdS tsh->a∉T.owns (Zi true ms l):=fun a z q=>(C.rd a z).2 (inw a q)
 have tk:∀ w t,TL.own w t∈tsh->∀ a,a∈t.own\/a∈t.ro->H' a=H a:=fun w t ht a z=>by
  refine E.keep a (T.there (C.ok w t ht) z) ?_;rcases z with z | z
  .cases w with
   | true=>exact k1 a (Z1f.mpr ⟨t,ht,z⟩)
   | false=>exact k4 a (Z3y.mpr ⟨t,ht,z⟩)
  .exact k3 a (.inl (Z1p.mpr ⟨w,t,ht,z⟩))
 have ffok:T.oks H fr:=(T.oks_app.mp C.fok).2
 have fk:∀ a,a∈T.owns fr\/a∈T.ros fr->H' a=H a:=fun a z=>by
  refine E.keep a (T.theres ffok z) ?_;rcases z with z | z
  .exact k2 a z
  .exact k3 a (.inr (by rw [T.ros_app];exact Qe _ z))
 have new:∀ a,a∈T.owns (Zi true ms l')\/a∈T.owns m->a∉Ze tsh/\a∉T.owns fr/\a∉roS tsh/\a∉T.ros fr/\a∉rdS tsh/\¬ R.G a:=fun a z=>by
  rcases E.own a z with z | z
  .refine ⟨fun q=>k1 a q z,fun q=>k2 a q z,fun q=>k3 a (.inl q) z,fun q=>k3 a (.inr (by rw [T.ros_app];exact Qe _ q)) z,fun q=>k4 a q z,fun q=>?_⟩
   exact (C.g a q).2.2.2 (inw a z)
  .obtain ⟨f1,f2,f3,f4,f5,f6⟩:=C.fresh z
   rw [T.owns_app] at f4;rw [T.ros_app] at f5;exact ⟨f1,fun q=>f4 (Qe _ q),f2,fun q=>f5 (Qe _ q),f3,f6⟩
 have eo:T.owns (Zi true ms l'++(m++fr))=T.owns (Zi true ms l')++(T.owns m++T.owns fr):=by rw [T.owns_app,T.owns_app]
 have er:T.ros (Zi true ms l'++(m++fr))=T.ros (Zi true ms l')++(T.ros m++T.ros fr):=by rw [T.ros_app,T.ros_app]
 refine ⟨fun w t ht=>T.keep (C.ok w t ht) (tk w t ht),T.oks_app.mpr ⟨E.ok,T.oks_app.mpr ⟨E.fok,T.keeps ffok fk⟩⟩,?_,fun a z=>?_,fun a z=>?_,fun a z=>?_,C.bg,C.bor,C.ixs,C.sl,C.hdi,C.hdx,C.len,C.hdn⟩
 .rw [eo]
  refine Qm.mpr ⟨nd.1,?_,fun a za b zb e=>?_⟩
  .rw [<- Qn]
   refine Qm.mpr ⟨E.nd,ndw'.2.1,fun a za b zb e=>?_⟩;subst e;exact (new a (Qf.mp za)).2.1 zb
  .subst e
   rcases Qf.mp zb with zb | zb
   .exact (new a (.inl zb)).1 za
   .rcases Qf.mp zb with zb | zb
    .exact (new a (.inr zb)).1 za
    .exact nd.2.2 a za a (by rw [T.owns_app];exact Qe _ zb) rfl
 .rw [eo]
  rw [er] at z;simp only [Qf] at z ⊢
  have old:a∈roS tsh\/a∈T.ros fr->a∉Ze tsh/\¬ (a∈T.owns (Zi true ms l')\/a∈T.owns m\/a∈T.owns fr)/\¬ R.B a:=fun z=>by
   obtain ⟨s1,s2,s3⟩:=C.sep a (z.imp id fun q=>by rw [T.ros_app];exact Qe _ q);rw [T.owns_app] at s2;refine ⟨s1,fun q=>?_,s3⟩;rcases q with q | q | q
   .rcases z with z | z
    .exact (new a (.inl q)).2.2.1 z
    .exact (new a (.inl q)).2.2.2.1 z
   .rcases z with z | z
    .exact (new a (.inr q)).2.2.1 z
    .exact (new a (.inr q)).2.2.2.1 z
   .exact s2 (Qe _ q)
  have nw:a∈T.ros (Zi true ms l')\/a∈T.ros m->a∉Ze tsh/\¬ (a∈T.owns (Zi true ms l')\/a∈T.owns m\/a∈T.owns fr)/\¬ R.B a:=fun z=>by
   obtain ⟨s1,s2,s3⟩:=E.sep a z;refine ⟨fun q=>s3 (hB a (.inr (.inl q))),fun q=>?_,fun q=>s3 (hB a (.inl q))⟩;rcases q with q | q | q
   .exact s1 q
   .exact s2 q
   .exact s3 (hB a (.inr (.inr q)))
  rcases z with z | z | z | z
  .exact old (.inl z)
  .exact nw (.inl z)
  .exact nw (.inr z)
  .exact old (.inr z)
 .rw [eo]
  simp only [Qf];obtain ⟨s1,s2⟩:=C.rd a z;rw [T.owns_app] at s2;refine ⟨s1,fun q=>?_⟩;rcases q with q | q | q
  .exact (new a (.inl q)).2.2.2.2.1 z
  .exact (new a (.inr q)).2.2.2.2.1 z
  .exact s2 (Qe _ q)
 .rw [eo]
  simp only [Qf];obtain ⟨g1,g2,g3,g4⟩:=C.g a z;have e:H' a=H a:=E.keep a g2 fun q=>g4 (inw a q);rw [T.owns_app] at g4;refine ⟨e.trans g1,by rw [e];exact g2,g3,fun q=>?_⟩;rcases q with q | q | q
  .exact (new a (.inl q)).2.2.2.2.2 z
  .exact (new a (.inr q)).2.2.2.2.2 z
  .exact g4 (Qe _ q)
def TvsOk.all:∀ {vs:List V} {tvs:List TV},TvsOk ts vs tvs->(∀ tv∈tvs,TvW ts tv)/\vs=tvs.map TV.vv
 | _,_,.nil=>⟨by simp,rfl⟩
 | _,_,.cons h r=>by
  obtain ⟨h1,h2⟩:=h.w;obtain ⟨r1,r2⟩:=TvsOk.all r;refine ⟨fun x z=>?_,by rw [Qj,h2,r2]⟩;rcases Jb.mp z with rfl | z
  .exact h1
  .exact r1 x z
def Z3g:∀ {rs:List DV} {ms:List Bool} {s sh:Sd} {lo:List (Option D)},takes rs ms s=some (sh,lo)->rs.length<=ms.length/\∀ (i:Nat) (d:D),lo[i]?=some none->rs[i]?≠some (.val d)
 | [],ms,s,sh,lo,h=>by cases h;simp
 | .val d::rs,[],s,sh,lo,h=>by simp [takes] at h
 | .plc k p::rs,[],s,sh,lo,h=>by simp [takes] at h
 | .val d::rs,m::ms,s,sh,lo,h=>by
  simp only [takes] at h
  cases et:takes rs ms s with
  | none=>rw [et] at h;cases h
  | some y=>
   obtain ⟨s',l⟩:=y;rw [et] at h;cases h;obtain ⟨h1,h2⟩:=Z3g et;refine ⟨by simpa using h1,fun i d' hi=>?_⟩
   cases i with
   | zero=>cases hi
   | succ i=>simpa using h2 i d' (by simpa using hi)
 | .plc k p::rs,false::ms,s,sh,lo,h=>by
  simp only [takes] at h
  cases et:takes rs ms s with
  | none=>rw [et] at h;cases h
  | some y=>
   obtain ⟨s',l⟩:=y;rw [et] at h;cases h;obtain ⟨h1,h2⟩:=Z3g et;refine ⟨by simpa using h1,fun i d' hi=>?_⟩
   cases i with
   | zero=>intro z;cases z
   | succ i=>simpa using h2 i d' (by simpa using hi)
 | .plc k p::rs,true::ms,s,sh,lo,h=>by
  simp only [takes] at h
  split at h
  case h_1=>
   cases et:takes rs ms (wr s k p hole fun _=>false) with
   | none=>rw [et] at h;cases h
   | some y=>
    obtain ⟨s',l⟩:=y;rw [et] at h;cases h;obtain ⟨h1,h2⟩:=Z3g et;refine ⟨by simpa using h1,fun i d' hi=>?_⟩
    cases i with
    | zero=>intro z;cases z
    | succ i=>simpa using h2 i d' (by simpa using hi)
  case h_2=>cases h
def Z7L{ms:List Bool}{fn:Fn}{f:AF}(σ:L2.St)(H:Hp)(Q:VK)(hms:∀ s rs s1,f s=.ok rs s1->rs.length=ms.length)(q:lE R ix (Zh ms fn f) σ H Q):lA R ix f σ H fun vs H1=>spR R.ad ms fn vs H1 Q (R.EX σ):=by
 obtain ⟨hd,ts,fr,C,q⟩:=q;refine ⟨hd,ts,fr,C,?_⟩;unfold Zh at q
 cases ef:f (ts.map TL.er) with
 | no=>rw [ef] at q;exact q
 | ex E s1=>rw [ef] at q;exact q
 | ok rs s1=>
  rw [ef] at q;intro H1 ts1 tvs vs e1 e2 hv C1;subst e1 e2;have hlen:ms.length=tvs.length:=by have:=hms _ _ _ ef;simpa using this.symm
  dsimp only at q
  cases et:takes (tvs.map TV.er) ms (ts1.map TL.er) with
  | none=>rw [et] at q;exact q.elim
  | some y=>
   obtain ⟨sh,lo⟩:=y;rw [et] at q;obtain ⟨hw,rfl⟩:=hv.all;obtain ⟨tsh,as,a1,a2,a3,a4,a5,a6,a7,a8,a9,a10⟩:=Z4D hw C1 et hlen;subst a1 a2;have tl:=(Z3g et).2;dsimp only at q
   cases el:fills (tsh.map TL.er) (tvs.map TV.er) (as.map (Option.map T.er)) with
   | none=>rw [el] at q;exact q.elim
   | some ds=>
    rw [el] at q;have aok:∀ t,some t∈as->t.ok H1:=fun t z=>T.oks_iff.mp (T.oks_app.mp a4.fok).1 t (Wm.mpr ⟨some t,z,rfl⟩);obtain ⟨l,l1,l2,l3,l4,l5⟩:=Z7B a4 el (fun x z=>a6 x (hw x z)) aok a7 (fun i t h z=>tl i t.er (by rw [Qc,h];rfl) (by rw [Qc,z];rfl));obtain ⟨x,p1,p2⟩:=Z6L (ms:=ms) (l:=l) (as:=as) (by rw [hlen,l4,a3]) l4 (fun i t hi=>(l5 i t hi).imp id fun z=>z.1) a8;have nd:=Qm.mp a4.nd;have ndw:(T.owns (as.filterMap id)++T.owns fr).Nodup:=by have:=nd.2.1;rwa [T.owns_app] at this
    have ndw':=Qm.mp ndw;have ndp:=Qm.mp (p1.nodup_iff.mp ndw'.1);have inw:∀ a,a∈T.owns (Zi true ms l)->a∈T.owns (as.filterMap id++fr):=fun a z=>by rw [T.owns_app];exact Qh _ (p1.mem_iff.mpr (Qh _ z))
    have rosl:∀ a∈T.ros l,a∈roS tsh\/a∈T.ros (as.filterMap id++fr):=fun a z=>by
     obtain ⟨t,ht,hz⟩:=T.mem_ros.mp z;obtain ⟨i,hi⟩:=Jg.mp ht;rcases l5 i t hi with h | ⟨_,k,p,w,u,h1,h2⟩
     .exact .inr (by rw [T.ros_app];exact Qh _ (T.mem_ros.mpr ⟨t,Wm.mpr ⟨some t,Qg h,rfl⟩,hz⟩))
     .obtain ⟨c,r,K⟩:=T.ctx h2
      exact .inl (Z1p.mpr ⟨w,u,Qg h1,K.ro.mem_iff.mpr (Qe _ hz)⟩)
    have ent:Ent H1 (fun a=>R.B a\/a∈Ze tsh\/a∈T.owns fr) ms l:=by
     refine ⟨by rw [hlen,l4,a3],l3,ndp.1,fun a z=>?_,fun a z=>?_,fun a z=>?_⟩
     .obtain ⟨s1,s2,s3⟩:=a4.sep a (rosl a z)
      refine ⟨fun q=>s2 (inw a q),fun q=>?_⟩;rcases q with q | q | q
      .exact s3 q
      .exact s1 q
      .exact s2 (by rw [T.owns_app];exact Qe _ q)
     .obtain ⟨t,ht,hz⟩:=T.mem_owns.mp z
      obtain ⟨i,hi,hm⟩:=Z3J ht;rcases l5 i t hi with h | ⟨_,k,p,w,u,h1,h2⟩
      .intro q
       exact ndp.2.2 a q a (p2 i t hm h a hz) rfl
      .obtain ⟨c,r,K⟩:=T.ctx h2
       have hu:a∈u.own:=K.own.mem_iff.mpr (Qe _ hz);intro q
       cases w with
       | true=>exact nd.2.2 a (Z1f.mpr ⟨u,Qg h1,hu⟩) a (inw a q) rfl
       | false=>exact (a4.rd a (Z3y.mpr ⟨u,Qg h1,hu⟩)).2 (inw a q)
     .rcases z with z | z | z
      .obtain ⟨g1,g2,g3,g4⟩:=a4.g a (a4.bg a z)
       exact ⟨fun q=>g4 (inw a q),g2⟩
      .obtain ⟨t,ht,hz⟩:=Z1f.mp z
       exact ⟨fun q=>nd.2.2 a z a (inw a q) rfl,T.there (a4.ok true t ht) (.inl hz)⟩
      .exact ⟨fun q=>ndw'.2.2 a (p1.mem_iff.mpr (Qh _ q)) a z rfl,T.theres (T.oks_app.mp a4.fok).2 (.inl z)⟩
    refine ⟨l,_,l2,ent,?_⟩;rw [l1];dsimp only at q
    cases en:fn ds with
    | no=>rw [en] at q;exact q.elim
    | ex E ds'=>
     rw [en] at q;intro H2 l' e3 X2;have C2:=a4.after p1 (fun a z=>z) X2;obtain ⟨ts',g1,g2,g3,g4⟩:=Z65 (rest:=fr) a5 hlen (X2.val.trans l2) C2 a9;rw [e3] at g1;exact q H2 ts' g1 g2
    | ok rv ds'=>
     rw [en] at q;intro H2 l' rt v e3 e4 hr X2;have C2:=a4.after p1 (fun a z=>z) X2;obtain ⟨ts',g1,g2,g3,g4⟩:=Z65 (rest:=rt.tr++fr) a5 hlen (X2.val.trans l2) C2 a9;rw [e3] at g1;subst e4
     cases rt with
     | val t=>
      cases hr;exact q H2 ts' (.val t) t.val g1 rfl rfl g2
     | arg j qq a=>
      obtain ⟨rfl,hmj,t,s,hj,hs,hsv⟩:=hr;simp only [RT.er,retV,Qc,hmj] at q
      cases ej:tvs[j]? with
      | none=>rw [ej] at q;exact q.elim
      | some tv=>
       rw [ej] at q
       cases tv with
       | val t0=>exact q.elim
       | plc k p a0=>
        simp only [Qu,TV.er] at q;obtain ⟨u,u1,u2⟩:=Z6x (g3 j k p a0 t ej hmj hj);have u3:u.get (p++qq)=some s:=by rw [T.get_app,u2];exact hs
        have hdr:Zt (gives (tvs.map TV.er) ms ds' (tsh.map TL.er)) (.plc k (p++qq))=some s.er:=by
         rw [<- g1];simp only [Zt,Qc,u1,Qu,TL.er,T.get_er,u3]
        rw [hdr] at q;obtain ⟨tv,f1,f2,f3⟩:=mk_ok (p:=p++qq) g2 u1 u3;rw [hsv] at f2;exact q H2 ts' tv (.ref a) g1 f1 f2 f3
end
end
mutual
abbrev ALen(n:Nat)(f:AF):Prop:=∀ s rs s1,f s=.ok rs s1->rs.length=n
def Z8N:ALen 0 Z1:=fun s rs s1 h=>by cases h;rfl
def Z34{n:Nat}{f:EF}{g:AF}(h:ALen n g):ALen (n + 1) (Z0 f g):=by
 intro s rs s1 e;unfold Z0 at e
 cases ef:f s with
 | no=>rw [ef] at e;cases e
 | ex C s'=>rw [ef] at e;cases e
 | ok r s'=>
  rw [ef] at e
  cases r with
  | val d=>
   dsimp only at e
   cases eg:g s' with
   | no=>rw [eg] at e;cases e
   | ex C s2=>rw [eg] at e;cases e
   | ok rs' s2=>rw [eg] at e;cases e;simp [h _ _ _ eg]
  | plc k p=>
   dsimp only at e
   cases eg:g (s'++[.bor k p]) with
   | no=>rw [eg] at e;cases e
   | ex C s2=>rw [eg] at e;dsimp only at e;split at e <;> cases e
   | ok rs' s2=>
    rw [eg] at e;dsimp only at e
    split at e
    .cases e;simp [h _ _ _ eg]
    .cases e
abbrev Zr(chk:D->Bool)(f:EF):EF:=fun s=>match f s with
 | .ok r s1=>(match Zt s1 r with | some d=>if chk d then .ok r s1 else .no | none=>.no)
 | .ex C s1=>.ex C s1
 | .no=>.no
abbrev Zu(C:Addr)(m:Str):D->Bool
 | .nd (.ins _ C' ns) _=>decide (C'=C) && !ns.contains m
 | _=>false
end
section
mutual
variable {R:RC}{ix:List Nat}{hd:List (Nat×Addr)}{X:Cx}{H H':Hp}{σ:L2.St}{ts:Ts}{fr:List T}
def Z2Q{chk:D->Bool}{f:EF}{Q:VK}(h:lE R ix (Zr chk f) σ H Q):lE R ix f σ H fun v H1=>(∃ t:T,t.val=v/\t.ok H1/\chk t.er=true)/\Q v H1:=by
 obtain ⟨hd,ts,fr,C,h⟩:=h;refine ⟨hd,ts,fr,C,?_⟩;unfold Zr at h
 cases ef:f (ts.map TL.er) with
 | no=>rw [ef] at h;exact h
 | ex E s1=>rw [ef] at h;exact h
 | ok r s1=>
  rw [ef] at h;intro H1 ts1 tv v e1 e2 hv C1;subst e1 e2;dsimp only at h
  cases ed:Zt (ts1.map TL.er) tv.er with
  | none=>rw [ed] at h;exact h.elim
  | some d=>
   rw [ed] at h;obtain ⟨t,t1,t2,t3,_⟩:=Z6V C1 hv (T.oks_app.mp C1.fok).1 ed;dsimp only at h
   cases hc:chk d with
   | false=>rw [hc] at h;exact h.elim
   | true=>rw [hc] at h;exact ⟨⟨t,t2,t3,by rw [t1];exact hc⟩,h H1 ts1 tv v rfl rfl hv C1⟩
def lookup_none{ns:List Str}{vs:List V}{m:Str}(h:ns.contains m=false):(ns.zip vs).lookup m=none:=by
 induction ns generalizing vs with
 | nil=>rfl
 | cons n ns ih=>
  cases vs with
  | nil=>rfl
  | cons v vs=>
   simp only [List.contains_cons,Bool.or_eq_false_iff] at h;simp only [Np,Ju,h.1];exact ih h.2
def Z07{x:Str}{k:Nat}{ps:List Str}{ms:List Bool}{fn:Fn}{p pos:Pos}{e:Expr}{es:List Expr}{f:AF}(D:DefX X.prog X.w X.K X.mg X.base x k ps (spR R.ad ms fn))(hr:Room k X.A)(hx:Z19 X R.EX)(ha:PA X (e::es) (lA R ix f))(hl:ALen ms.length f)
  (hg:autoParam (Gl X x) uA._auto_1) (hdb:autoParam ((x == ("__debug__":Str))=false) uB._auto_1) (he:autoParam (starEach (e::es) X.env=(false,eval e X.env)::starEach es X.env) uA._auto_1) (hpl:autoParam ((backTo pos (starEach es X.env)).any (·.1)=false) uA._auto_1) :
  PE X (.Call (.Name x p) (e::es) [] pos) (lE R ix (Zh ms fn f)):=peM (ZbW D hr hx ha hg hdb he hpl) fun σ H Q q=>Z7L σ H Q hl q
def ZbL{C:Addr}{m:Str}{ms:List Bool}{fn:Fn}{fo:EF}{f:AF}{Q:VK}(hl:ALen ms.length (Z0 (Zr (Zu C m) fo) f))(q:lE R ix (Zh ms fn (Z0 (Zr (Zu C m) fo) f)) σ H Q):tMetT C m (spR R.ad ms fn) R.EX (lE R ix fo) (lA R ix f) σ H Q:=by
 have q1:=Z2P σ H _ (Z7L σ H Q hl q);refine Zd (fun v H1 h=>?_) (Z2Q q1);obtain ⟨⟨t,rfl,t2,t3⟩,h⟩:=h
 cases t with
 | «at» v=>cases t3
 | nd a kd ch=>
  cases kd with
  | ins w C' ns=>
   simp only [T.er,Zu,Ja,decide_eq_true_eq,Wy] at t3;obtain ⟨rfl,hc⟩:=t3;obtain ⟨_,dx,hH⟩:=t2.1;exact ⟨a,dx,_,rfl,hH,lookup_none hc,h⟩
  | _=>cases t3
def Z28{C:Addr}{m:Str}{k:Nat}{ps:List Str}{ms:List Bool}{fn:Fn}{pos apos:Pos}{o e:Expr}{es:List Expr}{fo:EF}{f:AF}{pl:Sem Bool}(D:MetX X.prog X.w X.K X.mg X.base C m k ps (spR R.ad ms fn))(c:Cls X.K C)(hr:Room k X.A)(hx:Z19 X R.EX)(ho:PE X o (lE R ix fo))(ha:PA X (e::es) (lA R ix f))(hl:ALen ms.length (Z0 (Zr (Zu C m) fo) f))
  (hst:autoParam (starEach (e::es) X.env=(false,eval e X.env)::starEach es X.env) uA._auto_1) (hpl:autoParam ((backTo pos (starEach es X.env)).any (·.1)=false) uA._auto_1)
  (ht:autoParam (eval (.Call (.Attribute o m apos) (e::es) [] pos) X.env=(do
   let ov <- eval o X.env
   standAt apos.atName
   let (f,first) <- holding [ov] (getMethod ov m pl)
   callWith pos f first (backTo pos (starEach (e::es) X.env)) (backToKw pos (keywordEach [] X.env)))) uA._auto_1) :
  PE X (.Call (.Attribute o m apos) (e::es) [] pos) (lE R ix (Zh ms fn (Z0 (Zr (Zu C m) fo) f))):=peM (Zal D c hr hx ho ha hst hpl ht) fun σ H Q q=>ZbL hl q
def Z1K{C:Addr}{m:Str}{k:Nat}{ps:List Str}{ms:List Bool}{fn:Fn}{pos apos:Pos}{o:Expr}{fo:EF}{pl:Sem Bool}(D:MetX X.prog X.w X.K X.mg X.base C m k ps (spR R.ad ms fn))(c:Cls X.K C)(hr:Room k X.A)(hx:Z19 X R.EX)(ho:PE X o (lE R ix fo))(hl:ALen ms.length (Z0 (Zr (Zu C m) fo) Z1))
  (ht:autoParam (eval (.Call (.Attribute o m apos) [] [] pos) X.env=(do
   let ov <- eval o X.env
   standAt apos.atName
   let (f,first) <- holding [ov] (getMethod ov m pl)
   callWith pos f first (backTo pos (starEach [] X.env)) (backToKw pos (keywordEach [] X.env)))) uA._auto_1) :
  PE X (.Call (.Attribute o m apos) [] [] pos) (lE R ix (Zh ms fn (Z0 (Zr (Zu C m) fo) Z1))):=peM (Z9i D c hr hx ho ht) fun σ H Q q=>by
   obtain h:=ZbL hl q;refine Zd (fun v H1 h=>?_) h;obtain ⟨a,dx,fs,h1,h2,h3,h4⟩:=h;exact ⟨a,dx,fs,h1,h2,h3,Z5z σ H1 _ h4⟩
end
end
section
mutual
variable {P:Program}{w:World}{K:Qa}{mg:Str->Option Value}{base:Heap}
def okD{x:Str}{st:Stmt}{ps N:List Str}{k:Nat}{ms:List Bool}{body:SF}{ad:Str->Addr}(F:At K mg x st ps)(S:FnScope N ps (Z6 st))(hps:ms.length=ps.length)(hN:ms.length<=N.length)
  (hb:∀ (f:Addr) (cdv:Value) (A:Around) (outer:List Env) (s:Shared) (H:Hp) (E:XK) (R:RC),Room k (A.deeper (envOfC x (Z6 st) s.heap.objs.size f cdv))->Z19 (ZJ (CX1 P w) P w K mg base N x (Z6 st) f cdv A outer s H E) R.EX->(∀ σ,R.EX σ=E)->R.ad=ad ->
   PSs (ZJ (CX1 P w) P w K mg base N x (Z6 st) f cdv A outer s H E) (Z0g st) (lS R (List.range N.length) body)):DefX P w K mg base x (k + 1) ps (spR ad ms (Zn N.length ms body)):=
 F.okX S (fun vs H Q E h=>by rw [Z7W h,hps]) fun f cdv A outer s H vs Q E hr h=>by
  obtain ⟨R,e,ea,q⟩:=Z5v hN h;exact ⟨_,hb f cdv A outer s H E R hr (by rw [e];exact passTX) (fun σ=>by rw [e]) ea,q⟩
def okM{C:Addr}{m qual:Str}{st:Stmt}{ps N:List Str}{k:Nat}{ms:List Bool}{body:SF}{ad:Str->Addr}(F:AtM K C m qual st ps)(S:FnScope N ps (Z6 st))(hps:ms.length=ps.length)(hN:ms.length<=N.length)
  (hb:∀ (f:Addr) (cdv:Value) (A:Around) (outer:List Env) (s:Shared) (H:Hp) (E:XK) (R:RC),Room k (A.deeper (envOfC qual (Z6 st) s.heap.objs.size f cdv))->Z19 (ZJ (CX1 P w) P w K mg base N qual (Z6 st) f cdv A outer s H E) R.EX->(∀ σ,R.EX σ=E)->R.ad=ad ->
   PSs (ZJ (CX1 P w) P w K mg base N qual (Z6 st) f cdv A outer s H E) (Z0g st) (lS R (List.range N.length) body)):MetX P w K mg base C m (k + 1) ps (spR ad ms (Zn N.length ms body)):=
 F.okX S (fun vs H Q E h=>by rw [Z7W h,hps]) fun f cdv A outer s H vs Q E hr h=>by
  obtain ⟨R,e,ea,q⟩:=Z5v hN h;exact ⟨_,hb f cdv A outer s H E R hr (by rw [e];exact passTX) (fun σ=>by rw [e]) ea,q⟩
def okI{C:Addr}{qual:Str}{st:Stmt}{ps N:List Str}{k:Nat}{ms:List Bool}{body:SF}{ad:Str->Addr}(F:AtI K C qual st ps)(S:FnScope N ps (Z6 st))(hps:ms.length=ps.length)(hN:ms.length<=N.length)
  (hb:∀ (f:Addr) (cdv:Value) (A:Around) (outer:List Env) (s:Shared) (H:Hp) (E:XK) (R:RC),Room k (A.deeper (envOfC qual (Z6 st) s.heap.objs.size f cdv))->Z19 (ZJ (CX1 P w) P w K mg base N qual (Z6 st) f cdv A outer s H E) R.EX->(∀ σ,R.EX σ=E)->R.ad=ad ->
   PSs (ZJ (CX1 P w) P w K mg base N qual (Z6 st) f cdv A outer s H E) (Z0g st) (lS R (List.range N.length) body)):InitX P w K mg base C (k + 1) ps (spR ad ms (Zn N.length ms body)):=
 F.okX S (fun vs H Q E h=>by rw [Z7W h,hps]) fun f cdv A outer s H vs Q E hr h=>by
  obtain ⟨R,e,ea,q⟩:=Z5v hN h;exact ⟨_,hb f cdv A outer s H E R hr (by rw [e];exact passTX) (fun σ=>by rw [e]) ea,q⟩
variable {N:List Str}{qual:Str}{scope:Scope}{f:Addr}{cd:Value}{A:Around}{outer:List Env}{s:Shared}{H:Hp}{E:XK}{R:RC}{ix:List Nat}
abbrev Z4u(C:Str)(g:AF):SF:=fun s=>match g s with
 | .ok rs s1=>if rs.length<=1000 then .ex C s1 else .no
 | .ex C' s1=>.ex C' s1
 | .no=>.no
def ZcG{ts:Ts}:∀ {vs:List V} {tvs:List TV},TvsOk ts vs tvs->vs.length=tvs.length
 | _,_,.nil=>rfl
 | _,_,.cons _ r=>by simp [ZcG r]
def Z5O{x:Str}{C:Addr}{np cpos pos:Pos}{e:Expr}{es:List Expr}{g:AF}(hE:∀ σ,R.EX σ=E)(hA:R.ad x=C)(O:ExC K mg x C)(ha:PA (ZJ (CX1 P w) P w K mg base N qual scope f cd A outer s H E) (e::es) (lA R ix g))
  (hg:autoParam (Gl (ZJ (CX1 P w) P w K mg base N qual scope f cd A outer s H E) x) uA._auto_1) (hdb:autoParam ((x == ("__debug__":Str))=false) uB._auto_1)
  (he:autoParam (starEach (e::es) (ZJ (CX1 P w) P w K mg base N qual scope f cd A outer s H E).env=(false,eval e (ZJ (CX1 P w) P w K mg base N qual scope f cd A outer s H E).env)::starEach es (ZJ (CX1 P w) P w K mg base N qual scope f cd A outer s H E).env) uA._auto_1)
  (hpl:autoParam ((backTo cpos (starEach es (ZJ (CX1 P w) P w K mg base N qual scope f cd A outer s H E).env)).any (·.1)=false) uA._auto_1) :
  PS (ZJ (CX1 P w) P w K mg base N qual scope f cd A outer s H E) (.Raise (some (.Call (.Name x np) (e::es) [] cpos)) none pos) (lS R ix (Z4u x g)):=by
 refine psM (Zc3 O ha hg hdb he hpl) fun D σ H' h=>?_;obtain ⟨hd,ts,fr,Cc,h⟩:=h;refine ⟨hd,ts,fr,Cc,?_⟩;unfold Z4u at h
 cases ef:g (ts.map TL.er) with
 | no=>rw [ef] at h;exact h
 | ex E' s1=>rw [ef] at h;intro H1 ts1 e1 C1;exact h H1 σ ts1 e1 C1
 | ok rs s1=>
  rw [ef] at h;intro H1 ts1 tvs vs e1 e2 hv C1;dsimp only at h;by_cases hz:rs.length<=1000
  .rw [if_pos hz] at h
   refine ⟨?_,?_⟩
   .rw [ZcG hv]
    have:tvs.length=rs.length:=by rw [<- e2];simp
    rw [this];exact Jr hz (by decide)
   .have:=h H1 σ ts1 e1 C1.drops
    rwa [hE,hA] at this
  .rw [if_neg hz] at h;exact h.elim
end
end
noncomputable def eMk(C:Addr)(ms:List Bool)(fn:Fn)(f:AF):EF:=fun s=>match f s with
 | .ok rs s1=>(match takes rs ms s1 with
  | some (sh,l)=>(match fills sh rs l with
   | some ds=>(match fn (.nd (.ins true C []) []::ds) with
    | .ok (.val (.at .non)) (d0::ds')=>.ok (.val d0) (gives rs ms ds' sh)
    | _=>.no)
   | none=>.no)
  | none=>.no)
 | .ex C s1=>.ex C s1
 | .no=>.no
section
mutual
variable {R:RC}{ix:List Nat}{hd:List (Nat×Addr)}{X:Cx}{H H':Hp}{σ:L2.St}{ts:Ts}{fr:List T}
def Cf.swap{t:T}{m fr:List T}(C:Cf R ix hd H σ ts (m++(t::fr))):Cf R ix hd H σ ts (t::(m++fr)):=by
 have ok:=T.oks_app.mp C.fok;refine C.less (x:=[]) ⟨ok.2.1,T.oks_app.mpr ⟨ok.1,ok.2.2⟩⟩ ?_ fun b hb=>?_
 .refine Qw.mpr fun b=>?_
  simp only [T.owns_cons,T.owns_app,Jk,Jo];omega
 .left
  simp only [T.ros_cons,T.ros_app,Qf] at hb ⊢;rcases hb with hb | hb | hb <;> simp [hb]
def Cf.swap'{t:T}{m fr:List T}(C:Cf R ix hd H σ ts (t::(m++fr))):Cf R ix hd H σ ts (m++(t::fr)):=by
 have ok:=C.fok;refine C.less (x:=[]) (T.oks_app.mpr ⟨(T.oks_app.mp ok.2).1,ok.1,(T.oks_app.mp ok.2).2⟩) ?_ fun b hb=>?_
 .refine Qw.mpr fun b=>?_
  simp only [T.owns_cons,T.owns_app,Jk,Jo];omega
 .left
  simp only [T.ros_cons,T.ros_app,Qf] at hb ⊢;rcases hb with hb | hb | hb <;> simp [hb]
def Zg9{tsh:Ts}{as:List (Option T)}{l:List T}{ms:List Bool}{x:List Addr}(a4:Cf R ix hd H σ tsh (as.filterMap id++fr))(hl:ms.length=l.length)(l3:T.oks H l)
  (l5:∀ (i:Nat) t,l[i]?=some t->as[i]?=some (some t)\/(as[i]?=some none/\∃ (k:Nat) (p:List Nat) (w:Bool) (u:T),tsh[k]?=some (TL.own w u)/\u.get p=some t))
  (p1:(T.owns (as.filterMap id)).Perm (T.owns (Zi true ms l)++x)) (p2:∀ (i:Nat) t,ms[i]?=some false->as[i]?=some (some t)->∀ a∈t.own,a∈x):Ent H (fun a=>R.B a\/a∈Ze tsh\/a∈T.owns fr) ms l:=by
 have nd:=Qm.mp a4.nd;have ndw:(T.owns (as.filterMap id)++T.owns fr).Nodup:=by have:=nd.2.1;rwa [T.owns_app] at this
 have ndw':=Qm.mp ndw;have ndp:=Qm.mp (p1.nodup_iff.mp ndw'.1);have inw:∀ a,a∈T.owns (Zi true ms l)->a∈T.owns (as.filterMap id++fr):=fun a z=>by rw [T.owns_app];exact Qh _ (p1.mem_iff.mpr (Qh _ z))
 have rosl:∀ a∈T.ros l,a∈roS tsh\/a∈T.ros (as.filterMap id++fr):=fun a z=>by
  obtain ⟨t,ht,hz⟩:=T.mem_ros.mp z;obtain ⟨i,hi⟩:=Jg.mp ht;rcases l5 i t hi with h | ⟨_,k,p,w,u,h1,h2⟩
  .exact .inr (by rw [T.ros_app];exact Qh _ (T.mem_ros.mpr ⟨t,Wm.mpr ⟨some t,Qg h,rfl⟩,hz⟩))
  .obtain ⟨c,r,K⟩:=T.ctx h2
   exact .inl (Z1p.mpr ⟨w,u,Qg h1,K.ro.mem_iff.mpr (Qe _ hz)⟩)
 refine ⟨hl,l3,ndp.1,fun a z=>?_,fun a z=>?_,fun a z=>?_⟩
 .obtain ⟨s1,s2,s3⟩:=a4.sep a (rosl a z)
  refine ⟨fun q=>s2 (inw a q),fun q=>?_⟩;rcases q with q | q | q
  .exact s3 q
  .exact s1 q
  .exact s2 (by rw [T.owns_app];exact Qe _ q)
 .obtain ⟨t,ht,hz⟩:=T.mem_owns.mp z
  obtain ⟨i,hi,hm⟩:=Z3J ht;rcases l5 i t hi with h | ⟨_,k,p,w,u,h1,h2⟩
  .intro q
   exact ndp.2.2 a q a (p2 i t hm h a hz) rfl
  .obtain ⟨c,r,K⟩:=T.ctx h2
   have hu:a∈u.own:=K.own.mem_iff.mpr (Qe _ hz);intro q
   cases w with
   | true=>exact nd.2.2 a (Z1f.mpr ⟨u,Qg h1,hu⟩) a (inw a q) rfl
   | false=>exact (a4.rd a (Z3y.mpr ⟨u,Qg h1,hu⟩)).2 (inw a q)
 .rcases z with z | z | z
  .obtain ⟨g1,g2,g3,g4⟩:=a4.g a (a4.bg a z)
   exact ⟨fun q=>g4 (inw a q),g2⟩
  .obtain ⟨t,ht,hz⟩:=Z1f.mp z
   exact ⟨fun q=>nd.2.2 a z a (inw a q) rfl,T.there (a4.ok true t ht) (.inl hz)⟩
  .exact ⟨fun q=>ndw'.2.2 a (p1.mem_iff.mpr (Qh _ q)) a z rfl,T.theres (T.oks_app.mp a4.fok).2 (.inl z)⟩
def lA_mk{C:Addr}{ms:List Bool}{fn:Fn}{f:AF}{E:XK}(σ:L2.St)(H:Hp)(Q:VK)(hms:ALen ms.length f)(q:lE R ix (eMk C ms fn f) σ H Q) :
  lA R ix f σ H fun vs H1=>∀ x dx,H1 x=none->H1 dx=none->dx≠x->spR R.ad (true::ms) fn (.ref x::vs) (upd (upd H1 dx (.own x)) x (.ins C dx [])) (fun v H2=>v=.non/\Q (.ref x) H2) E:=by
 obtain ⟨hd,ts,fr,C0,q⟩:=q;refine ⟨hd,ts,fr,C0,?_⟩;unfold eMk at q
 cases ef:f (ts.map TL.er) with
 | no=>rw [ef] at q;exact q
 | ex E s1=>rw [ef] at q;exact q
 | ok rs s1=>
  rw [ef] at q;intro H1 ts1 tvs vs e1 e2 hv C1 x dx hx hdx hne;subst e1 e2;have hlen:ms.length=tvs.length:=by have:=hms _ _ _ ef;simpa using this.symm
  generalize hH2:upd (upd H1 dx (.own x)) x (.ins C dx [])=H2;have t0ok:(T.nd x (.ins true C []) []).ok H2:=⟨⟨rfl,dx,by rw [<- hH2];exact Zj⟩,trivial⟩
  have N0:NewOk H1 H2 [] (T.nd x (.ins true C []) []):=by
   refine ⟨t0ok,by simp [T.own,NK.mut,T.owns],fun a z=>?_,fun a z=>?_,fun a z=>?_,fun a z=>?_⟩
   .have:a=x:=by simpa [T.own,NK.mut,T.owns] using z
    rw [this];exact hx
   .simp [T.ro,NK.mut,T.ros] at z
   .simp [T.ro,NK.mut,T.ros] at z
   .rw [<- hH2,Zb (by rintro rfl;exact z hx),Zb (by rintro rfl;exact z hdx)]
  have C2:Cf R ix hd H2 σ ts1 (trs tvs++(T.nd x (.ins true C []) []::fr)):=Cf.swap' (Cf.new (m:=[]) (fr:=trs tvs++fr) C1 N0 (by simp [T.ros]));dsimp only at q
  cases et:takes (tvs.map TV.er) ms (ts1.map TL.er) with
  | none=>rw [et] at q;exact q.elim
  | some y=>
   obtain ⟨sh,lo⟩:=y;rw [et] at q;obtain ⟨hw,rfl⟩:=hv.all;obtain ⟨tsh,as,a1,a2,a3,a4,a5,a6,a7,a8,a9,a10⟩:=Z4D hw C2 et hlen;subst a1 a2;have tl:=(Z3g et).2;dsimp only at q
   cases el:fills (tsh.map TL.er) (tvs.map TV.er) (as.map (Option.map T.er)) with
   | none=>rw [el] at q;exact q.elim
   | some ds=>
    rw [el] at q;have aok:∀ t,some t∈as->t.ok H2:=fun t z=>T.oks_iff.mp (T.oks_app.mp a4.fok).1 t (Wm.mpr ⟨some t,z,rfl⟩);obtain ⟨l,l1,l2,l3,l4,l5⟩:=Z7B a4 el (fun x z=>a6 x (hw x z)) aok a7 (fun i t h z=>tl i t.er (by rw [Qc,h];rfl) (by rw [Qc,z];rfl))
    have a4':Cf R ix hd H2 σ tsh ((some (T.nd x (.ins true C []) [])::as).filterMap id++fr):=by
     simp only [Jp,id,Jm];exact a4.swap
    have m5:∀ (i:Nat) t,(T.nd x (.ins true C []) []::l)[i]?=some t->(some (T.nd x (.ins true C []) [])::as)[i]?=some (some t)\/((some (T.nd x (.ins true C []) [])::as)[i]?=some none/\∃ (k:Nat) (p:List Nat) (w:Bool) (u:T),tsh[k]?=some (TL.own w u)/\u.get p=some t):=fun i t hi=>by
     cases i with
     | zero=>cases hi;exact .inl rfl
     | succ i=>simpa using l5 i t (by simpa using hi)
    have hml:(true::ms).length=(T.nd x (.ins true C []) []::l).length:=by simp [hlen,l4,a3]
    obtain ⟨y,p1,p2⟩:=Z6L (ms:=true::ms) (l:=T.nd x (.ins true C []) []::l) (as:=some (T.nd x (.ins true C []) [])::as) hml (by simp [l4]) (fun i t hi=>(m5 i t hi).imp id fun z=>z.1) (fun i hi=>by
     cases i with
     | zero=>cases hi
     | succ i=>simpa using a8 i (by simpa using hi))
    have ent:=Zg9 a4' hml ⟨t0ok,l3⟩ m5 p1 p2;refine ⟨T.nd x (.ins true C []) []::l,_,by simp [l2,T.val],ent,?_⟩;rw [T.ers,l1];dsimp only at q;have e0:(T.nd x (.ins true C []) []).er=.nd (.ins true C []) []:=rfl;rw [e0]
    cases en:fn (.nd (.ins true C []) []::ds) with
    | no=>rw [en] at q;exact q.elim
    | ex E ds'=>rw [en] at q;exact q.elim
    | ok rv ds'=>
     rw [en] at q;intro H3 l' rt v e3 e4 hr X2
     cases rv with
     | arg j qq=>exact q.elim
     | val d=>
      cases ds' with
      | nil=>
       exfalso
       cases d with
       | nd k l=>exact q
       | «at» u=>cases u <;> exact q
      | cons d0 ds'=>
       cases l' with
       | nil=>cases e3
       | cons t0 l'=>
        simp only [T.ers,Js.injEq] at e3;obtain ⟨rfl,rfl⟩:=e3
        cases rt with
        | arg _ _ _=>cases e4
        | val t=>
         simp only [RT.er,RV.val.injEq] at e4;subst e4;cases hr
         cases t with
         | nd a k l=>exact q.elim
         | «at» u=>
          cases u with
          | non=>
           refine ⟨rfl,?_⟩;have C3:=a4'.after p1 (fun a z=>z) X2;simp only [Zi,if_true,RT.tr] at C3
           have C4:Cf R ix hd H3 σ tsh (Zi true ms l'++(t0::fr)):=by
            have C5:Cf R ix hd H3 σ tsh (T.at .non::((t0::Zi true ms l')++fr)):=Cf.swap (m:=t0::Zi true ms l') C3;exact Cf.swap' C5.drop
           have hvl:=X2.val;simp only [Qj,Js.injEq] at hvl;obtain ⟨ts',g1,g2,g3,g4⟩:=Z65 (rest:=t0::fr) a5 hlen (hvl.2.trans l2) C4 a9;exact q H3 ts' (.val t0) (.ref x) g1 rfl hvl.1.symm g2
          | _=>exact q.elim
def rc_mk{x:Str}{C:Addr}{k:Nat}{ps:List Str}{ms:List Bool}{fn:Fn}{p pos:Pos}{e:Expr}{es:List Expr}{f:AF}(D:InitX X.prog X.w X.K X.mg X.base C k ps (spR R.ad (true::ms) fn))(hr:Room (k + 1) X.A)(hm:X.mg x=some (.ref C))(ha:PA X (e::es) (lA R ix f))(hl:ALen ms.length f)(hg:autoParam (Gl X x) uA._auto_1)(hdb:autoParam ((x == ("__debug__":Str))=false) uB._auto_1)
  (he:autoParam (starEach (e::es) X.env=(false,eval e X.env)::starEach es X.env) uA._auto_1) (hpl:autoParam ((backTo pos (starEach es X.env)).any (·.1)=false) uA._auto_1):PE X (.Call (.Name x p) (e::es) [] pos) (lE R ix (eMk C ms fn f)):=
 peM (ZgU D hr hm ha hg hdb he hpl) fun σ H Q q=>lA_mk σ H Q hl q
def Z9p{x:Str}{C:Addr}{k:Nat}{ps:List Str}{fn:Fn}{p pos:Pos}(D:InitX X.prog X.w X.K X.mg X.base C k ps (spR R.ad [true] fn))(hr:Room (k + 1) X.A)(hm:X.mg x=some (.ref C))(hg:autoParam (Gl X x) uA._auto_1)(hdb:autoParam ((x == ("__debug__":Str))=false) uB._auto_1):PE X (.Call (.Name x p) [] [] pos) (lE R ix (eMk C [] fn Z1)):=
 peM (Zfa D hr hm hg hdb) fun σ H Q q=>Z5z σ H _ (lA_mk σ H Q Z8N q)
abbrev tryH(exm:Str->Str->Option Bool):List (Str×SF)->Str->Sd->SR
 | [],_,_=>.no
 | (x,f)::r,C,s=>match exm C x with | some true=>f s | some false=>tryH exm r C s | none=>.no
abbrev sTry(exm:Str->Str->Option Bool)(b:SF)(hs:List (Str×SF)):SF:=fun s=>match b s with
 | .ex C s1=>tryH exm hs C s1
 | r=>r
abbrev hsT(K:Qa)(R:RC)(ix:List Nat):List (Str×SF)->Value->L2.TS
 | []=>hNil
 | (x,f)::r=>hCons K (R.ad x) (lS R ix f) (hsT K R ix r)
def Zax{K:Qa}{exm:Str->Str->Option Bool}(hex:∀ C x b,exm C x=some b->Jz K (.ref (R.ad C)) (.ref (R.ad x))=some b){D:Ends}{C:Str}(Cc:Cf R ix hd H σ ts fr):∀ {hs:List (Str×SF)},(match tryH exm hs C (ts.map TL.er) with
  | .nx s'=>∀ H' σ' ts',ts'.map TL.er=s'->Cf R ix hd H' σ' ts' fr->D.nx σ' H'
  | .rt r s'=>∀ H' σ' ts' tv v,ts'.map TL.er=s'->tv.er=r->Z08 ts' v tv->Cf R ix hd H' σ' ts' (tv.tr++fr)->D.rt v H'
  | .bk s'=>∀ H' σ' ts',ts'.map TL.er=s'->Cf R ix hd H' σ' ts' fr->D.bk σ' H'
  | .ct s'=>∀ H' σ' ts',ts'.map TL.er=s'->Cf R ix hd H' σ' ts' fr->D.ct σ' H'
  | .ex C s'=>∀ H' σ' ts',ts'.map TL.er=s'->Cf R ix hd H' σ' ts' fr->R.EX σ' (.ref (R.ad C)) none H'
  | .no=>False)->hsT K R ix hs (.ref (R.ad C)) D σ H
 | [],h=>h
 | (x,f)::r,h=>by
  simp only [tryH] at h
  cases e:exm C x with
  | none=>rw [e] at h;exact h.elim
  | some b=>
   rw [e] at h;refine ⟨b,hex C x b e,?_⟩
   cases b with
   | true=>rw [if_pos rfl];exact ⟨hd,ts,fr,Cc,h⟩
   | false=>rw [if_neg Ql];exact Zax hex Cc h
def Cf.ex{EX:L2.St->XK}(C:Cf R ix hd H σ ts fr):Cf { R with EX:=EX } ix hd H σ ts fr:=⟨C.ok,C.fok,C.nd,C.sep,C.rd,C.g,C.bg,C.bor,C.ixs,C.sl,C.hdi,C.hdx,C.len,C.hdn⟩
def Cf.unex{EX:L2.St->XK}(C:Cf { R with EX:=EX } ix hd H σ ts fr):Cf R ix hd H σ ts fr:=⟨C.ok,C.fok,C.nd,C.sep,C.rd,C.g,C.bg,C.bor,C.ixs,C.sl,C.hdi,C.hdx,C.len,C.hdn⟩
def Zcb{exm:Str->Str->Option Bool}{body:List Stmt}{h0:ExceptHandler}{hl:List ExceptHandler}{pos:Pos}{b:SF}{hs:List (Str×SF)}(hex:∀ C x b,exm C x=some b->Jz X.K (.ref (R.ad C)) (.ref (R.ad x))=some b)(hstk:X.stack=X.env::X.outer)(hfr:X.env.frame=some X.env.locals)
  (hb:∀ (pn:List (Addr×Obj)) (xe:Value->Shared->Prop) (EX:L2.St->XK),Z19 (X.tr pn xe) EX->PSs (X.tr pn xe) body (lS { R with EX:=EX } ix b)) (hh:PHs X (h0::hl) (hsT X.K R ix hs)):PS X (.Try body (h0::hl) [] [] pos) (lS R ix (sTry exm b hs)):=by
 refine psM (Zc4 (tb:=fun EX=>lS { R with EX:=EX } ix b) hstk hfr hb hh) fun D σ H h=>?_;obtain ⟨hd,ts,fr,C,h⟩:=h;refine ⟨hd,ts,fr,C.ex,?_⟩;unfold sTry at h
 cases eb:b (ts.map TL.er) with
 | nx s'=>rw [eb] at h;intro H' σ' ts' e C';exact h H' σ' ts' e C'.unex
 | rt r s'=>rw [eb] at h;intro H' σ' ts' tv v e e2 hv C';exact h H' σ' ts' tv v e e2 hv C'.unex
 | bk s'=>rw [eb] at h;intro H' σ' ts' e C';exact h H' σ' ts' e C'.unex
 | ct s'=>rw [eb] at h;intro H' σ' ts' e C';exact h H' σ' ts' e C'.unex
 | no=>rw [eb] at h;exact h
 | ex E s'=>
  rw [eb] at h;intro H' σ' ts' e C';subst e;exact Zax hex C'.unex h
def Zc9:PHs X [] (hsT X.K R ix []):=ZgX
def Zan{x:Str}{np hpos:Pos}{b0:Stmt}{suite:List Stmt}{rest:List ExceptHandler}{f:SF}{hs:List (Str×SF)}(hm:X.mg x=some (.ref (R.ad x)))(hsu:∀ ea,PSs (X.inH ea) (b0::suite) (lS R ix f))(hr:PHs X rest (hsT X.K R ix hs))
  (hg:autoParam (Gl X x) uA._auto_1) (hdb:autoParam ((x == ("__debug__":Str))=false) uB._auto_1):PHs X (.ExceptHandler (some (.Name x np)) none (b0::suite) hpos::rest) (hsT X.K R ix ((x,f)::hs)):=Zfc hm hsu hr hg hdb
abbrev tgN:Sd->List DV->Option Sd
 | s,[]=>some s
 | _,_=>none
abbrev tgC(b:Sd->DV->Option Sd)(g:Sd->List DV->Option Sd):Sd->List DV->Option Sd
 | s,r::rs=>(match b s r with | some s1=>g s1 rs | none=>none)
 | _,[]=>none
abbrev tgT(g:Sd->List DV->Option Sd):Sd->DV->Option Sd
 | s,.val (.nd .tup l)=>if D.imms l then g s (l.map .val) else none
 | _,_=>none
abbrev TgLen(n:Nat)(g:Sd->List DV->Option Sd):Prop:=∀ s l s',g s l=some s'->l.length=n
def ZfB:TgLen 0 tgN:=fun s l s' h=>by cases l with | nil=>rfl | cons=>simp [tgN] at h
def Z9x{n:Nat}{b:Sd->DV->Option Sd}{g:Sd->List DV->Option Sd}(h:TgLen n g):TgLen (n + 1) (tgC b g):=fun s l s' e=>by
 cases l with
 | nil=>simp [tgC] at e
 | cons r rs=>
  simp only [tgC] at e
  cases eb:b s r with
  | none=>rw [eb] at e;cases e
  | some s1=>rw [eb] at e;simp [h _ _ _ e]
end
end
theorem Z0O{t:T}{v:V}(h:t.er=.at v)(hv:Z0d v=true):t=.at v:=by
 cases t with
 | nd a k l=>cases h
 | «at» u=>
  cases u with
  | ref a=>cases h;cases hv
  | _=>cases h;rfl
theorem Z9T{v:V}(h:Z0d v=true):cl v=v:=by cases v <;> first | rfl | cases h
section
mutual
variable {X:Cx}{R:RC}{ix:List Nat}{H H':Hp}{σ:L2.St}
def gNw1{h:List D->Option D}{x:V}{Q:VK}(q:gNw h [x] H Q):∃ t:T,t.ok H/\t.val=x/\∃ d,h [t.er]=some d/\∀ t' H',t'.er=d->NewOk H H' [t] t'->Q t'.val H':=by
 obtain ⟨l,ok,hv,q⟩:=q;obtain ⟨t,rfl,rfl⟩:=map1 hv;exact ⟨t,ok.1,rfl,q⟩
def gNw2{h:List D->Option D}{x y:V}{Q:VK}(q:gNw h [x,y] H Q):∃ t u:T,t.ok H/\u.ok H/\t.val=x/\u.val=y/\∃ d,h [t.er,u.er]=some d/\∀ t' H',t'.er=d->NewOk H H' [t,u] t'->Q t'.val H':=by
 obtain ⟨l,ok,hv,q⟩:=q;obtain ⟨t,u,rfl,rfl,rfl⟩:=map2 hv;exact ⟨t,u,ok.1,ok.2.1,rfl,rfl,q⟩
def OpR.or{f:Value->Value->Sem Value}{r r':R2}(h:OpR X f r)(h':OpR X f r'):OpR X f fun x y H Q=>r x y H Q\/r' x y H Q:=fun pins s σ H x y v u Q I rx ry q=>q.elim (h pins s σ H x y v u Q I rx ry) (h' pins s σ H x y v u Q I rx ry)
def Z0f.or{f:Value}{r r':List V->Hp->VK->Prop}(h:Z0f X f r)(h':Z0f X f r'):Z0f X f fun x H Q=>r x H Q\/r' x H Q:=fun pins s σ H x u Q I rx q=>q.elim (h pins s σ H x u Q I rx) (h' pins s σ H x u Q I rx)
abbrev hI(C:Int->Int->Bool)(g:Int->Int->V):List D->Option D
 | [.at (.int i),.at (.int j)]=>if C i j then some (.at (g i j)) else none
 | _=>none
def Za5{C:Int->Int->Bool}{g:Int->Int->V}{a b d:D}(h:hI C g [a,b]=some d):∃ i j,a=.at (.int i)/\b=.at (.int j)/\C i j=true/\d=.at (g i j):=by
 cases a with
 | nd _ _=>cases h
 | «at» v=>cases v with
  | int i=>cases b with
   | nd _ _=>cases h
   | «at» w=>cases w with
    | int j=>
     by_cases z:C i j=true
     .cases (if_pos z).symm.trans h;exact ⟨i,j,rfl,rfl,z,rfl⟩
     .cases (if_neg z).symm.trans h
    | _=>cases h
  | _=>cases h
def on_hI{f:Value->Value->Sem Value}{Cp:Int->Int->Prop}{C:Int->Int->Bool}{g:Int->Int->V}(ho:OpR X f (rI Cp g))(hC:∀ i j,C i j=true->Cp i j)(hg:∀ i j,Z0d (g i j)=true):OpR X f (oNw (hI C g)):=opM ho fun x y H Q q=>by
 obtain ⟨t,u,ht,hu,rfl,rfl,d,hh,q⟩:=gNw2 q;obtain ⟨i,j,e1,e2,c,rfl⟩:=Za5 hh;cases Z0O e1 rfl;cases Z0O e2 rfl;exact ⟨i,j,rfl,rfl,hC i j c,q (.at (g i j)) H (by rw [T.er,Z9T (hg i j)]) (.atom _)⟩
def Z9e{f:Value->Value->Sem Value}{g:Int->Int->V}(ho:OpR X f (rI0 g))(hg:∀ i j,Z0d (g i j)=true):OpR X f (oNw (hI (fun _ _=>true) g)):=opM ho fun x y H Q q=>by
 obtain ⟨t,u,ht,hu,rfl,rfl,d,hh,q⟩:=gNw2 q;obtain ⟨i,j,e1,e2,c,rfl⟩:=Za5 hh;cases Z0O e1 rfl;cases Z0O e2 rfl;exact ⟨i,j,rfl,rfl,q (.at (g i j)) H (by rw [T.er,Z9T (hg i j)]) (.atom _)⟩
private abbrev hSub:List D->Option D:=hI (fun _ _=>true) fun i j=>.int (i - j)
private abbrev hMul:List D->Option D:=hI (fun i j=>decide (-(2 ^ 64) < i/\i < 2 ^ 64) || decide (-(2 ^ 64) < j/\j < 2 ^ 64)) fun i j=>.int (i * j)
private abbrev hDiv:List D->Option D:=hI (fun _ j=>decide (0 < j) && decide (j < 1073741824)) fun i j=>.int (i / j)
private abbrev hMod:List D->Option D:=hI (fun _ j=>decide (0 < j)) fun i j=>.int (i % j)
private abbrev hLt:List D->Option D:=hI (fun _ _=>true) fun i j=>.bl (decide (i < j))
private abbrev hGt:List D->Option D:=hI (fun _ _=>true) fun i j=>.bl (decide (j < i))
private abbrev hGe:List D->Option D:=hI (fun _ _=>true) fun i j=>.bl (decide (j<=i))
def Z4m:OpR X (binaryOp .Mult) (oNw hMul):=on_hI ZgP (fun i j h=>by simpa [CMul] using h) fun _ _=>rfl
def Z3a:OpR X (binaryOp .FloorDiv) (oNw hDiv):=on_hI Zf3 (fun i j h=>by simpa [CDiv] using h) fun _ _=>rfl
def Z0M:OpR X (binaryOp .Mod) (oNw hMod):=on_hI ZgO (fun i j h=>by simpa using h) fun _ _=>rfl
def on_lt:OpR X (compareOp .Lt) (oNw hLt):=Z9e op_lt fun _ _=>rfl
def on_gt:OpR X (compareOp .Gt) (oNw hGt):=Z9e op_gt fun _ _=>rfl
def on_ge:OpR X (compareOp .GtE) (oNw hGe):=Z9e op_ge fun _ _=>rfl
abbrev hEq(neg:Bool):List D->Option D
 | [.at x,.at y]=>if Z0d x && Z0d y && scal x y then some (.at (.bl (decide (x=y) != neg))) else none
 | _=>none
def Z95{neg:Bool}{a b d:D}(h:hEq neg [a,b]=some d):∃ x y,a=.at x/\b=.at y/\Z0d x=true/\Z0d y=true/\scal x y=true/\d=.at (.bl (decide (x=y) != neg)):=by
 unfold hEq at h
 split at h
 case h_1 x y e=>
  cases e
  split at h
  case isTrue z=>
   simp only [Ja] at z;cases h;exact ⟨x,y,rfl,rfl,z.1.1,z.1.2,z.2,rfl⟩
  case isFalse=>cases h
 case h_2=>cases h
def on_eq:OpR X (compareOp .Eq) (oNw (hEq false)):=opM op_eq fun x y H Q q=>by
 obtain ⟨t,u,ht,hu,rfl,rfl,d,hh,q⟩:=gNw2 q;obtain ⟨i,j,e1,e2,f1,f2,c,rfl⟩:=Z95 hh;cases Z0O e1 f1;cases Z0O e2 f2;exact ⟨c,q (.at (.bl (decide (i=j)))) H (by simp [T.er,cl]) (.atom _)⟩
def on_ne:OpR X (compareOp .NotEq) (oNw (hEq true)):=opM op_ne fun x y H Q q=>by
 obtain ⟨t,u,ht,hu,rfl,rfl,d,hh,q⟩:=gNw2 q;obtain ⟨i,j,e1,e2,f1,f2,c,rfl⟩:=Z95 hh;cases Z0O e1 f1;cases Z0O e2 f2;exact ⟨c,q (.at (.bl (!decide (i=j)))) H (by simp [T.er,cl]) (.atom _)⟩
abbrev hIsN(neg:Bool):List D->Option D
 | [.at x,.at .non]=>some (.at (.bl (decide (x=.non) != neg)))
 | [.nd _ _,.at .non]=>some (.at (.bl neg))
 | _=>none
def ZeI{t u:T}{d:D}{neg:Bool}(h:hIsN neg [t.er,u.er]=some d):u=.at .non/\d=.at (.bl (decide (t.val=.non) != neg)):=by
 cases t with
 | nd a k l=>cases u with
  | nd _ _ _=>cases h
  | «at» w=>cases w with
   | non=>cases h;exact ⟨rfl,by simp [T.val]⟩
   | _=>cases h
 | «at» v=>cases u with
  | nd _ _ _=>cases h
  | «at» w=>cases w with
   | non=>
    cases h;exact ⟨rfl,by cases v <;> simp [T.val,cl]⟩
   | _=>cases h
def ZbS:OpR X (compareOp .Is) (oNw (hIsN false)):=opM Z5J fun x y H Q q=>by
 obtain ⟨t,u,ht,hu,rfl,rfl,d,hh,q⟩:=gNw2 q;obtain ⟨rfl,rfl⟩:=ZeI hh;exact ⟨rfl,q (.at (.bl (decide (t.val=.non)))) H (by simp [T.er,cl]) (.atom _)⟩
def Z6G{l:List T}{k:NK}{ch:List T}{p:Addr}{o:HO}(hp:H p=none)(ho:NodeOk (upd H p o) p k (ch.map T.val))(hk:k.mut=true\/k=.tup)(hc:∀ t∈ch,t.ok H/\t.own=[])(hr:∀ a∈T.ros ch,a∈T.ros l):NewOk H (upd H p o) l (.nd p k ch):=by
 have hown:T.owns ch=[]:=by
  refine Nh.mpr fun a z=>?_;obtain ⟨t,h1,h2⟩:=T.mem_owns.mp z;rw [(hc t h1).2] at h2;cases h2
 have there:∀ a∈T.ros ch,a≠p:=fun a z e=>by
  obtain ⟨t,h1,h2⟩:=T.mem_ros.mp z;exact T.there (hc t h1).1 (.inr h2) (by rw [e];exact hp)
 refine ⟨⟨ho,T.oks_iff.mpr fun t ht=>T.keep (hc t ht).1 fun a z=>?_⟩,?_,fun a z=>?_,fun a z=>?_,fun a z=>?_,fun a z=>Zb (by rintro rfl;exact z hp)⟩
 .refine Zb ?_
  rcases z with z | z
  .rw [(hc t ht).2] at z;cases z
  .exact there a (T.mem_ros.mpr ⟨t,ht,z⟩)
 .rw [T.own,hown];cases k.mut <;> simp
 .rw [T.own,hown] at z
  have:a=p:=by revert z;cases k.mut <;> simp
  rw [this];exact hp
 .rw [T.ro] at z
  rcases Qf.mp z with z | z
  .left
   have:a=p:=by revert z;cases k.mut <;> simp
   rw [this];exact hp
  .exact .inr (hr a z)
 .rw [T.ro] at z
  rw [T.own,hown];rcases Qf.mp z with z | z
  .revert z;cases k.mut <;> simp
  .intro q
   have:a=p:=by revert q;cases k.mut <;> simp
   exact there a z this
def Za7{l:List T}(h:D.imms (T.ers l)=true):∀ t∈l,t.own=[]:=fun t ht=>by
 have:=T.imms_own h;refine Nh.mpr fun a z=>?_
 have:a∈T.owns l:=T.mem_owns.mpr ⟨t,ht,z⟩
 rw [T.imms_own h] at this;cases this
def ZbJ{t:T}{m:Bool}{l:List D}(h:t.er=.nd (.lst m) l):∃ a ch,t=.nd a (.lst m) ch/\l=T.ers ch:=by
 cases t with
 | «at» v=>cases h
 | nd a k ch=>cases h;exact ⟨a,ch,rfl,rfl⟩
def Zhl{t:T}{l:List D}(h:t.er=.nd .tup l):∃ a ch,t=.nd a .tup ch/\l=T.ers ch:=by
 cases t with
 | «at» v=>cases h
 | nd a k ch=>cases h;exact ⟨a,ch,rfl,rfl⟩
def Z1I(l:List T):(T.ers l).length=l.length:=by rw [T.ers_eq,Qx]
abbrev Z0n:List D->Option D
 | [.at (.int i),.at (.int j)]=>some (.at (.int (i + j)))
 | [.at (.str x),.at (.str y)]=>if x.length + y.length<=sizeLine then some (.at (.str (x++y))) else none
 | _=>none
def Zdi{i j:Int}:Z0n [.at (.int i),.at (.int j)]=some (.at (.int (i + j))):=rfl
def Zdj{x y:Str}:Z0n [.at (.str x),.at (.str y)]=if x.length + y.length<=sizeLine then some (.at (.str (x++y))) else none:=rfl
def Z0c:OpR X (binaryOp .Add) (oNw Z0n):=opM (OpR.or ZgN ZaO) fun x y H Q q=>by
 obtain ⟨t,u,ht,hu,rfl,rfl,d,hh,q⟩:=gNw2 q
 cases t with
 | nd a k c=>cases hh
 | «at» v=>cases v with
  | int i=>cases u with
   | nd a k c=>cases hh
   | «at» w=>cases w with
    | int j=>cases hh;exact .inl ⟨i,j,rfl,rfl,q (.at (.int (i + j))) H rfl (.atom _)⟩
    | _=>cases hh
  | str i=>cases u with
   | nd a k c=>cases hh
   | «at» w=>cases w with
    | str j=>
     by_cases hz:i.length + j.length<=sizeLine
     .cases (if_pos hz).symm.trans hh
      exact .inr ⟨i,j,rfl,rfl,hz,q (.at (.str (i++j))) H rfl (.atom _)⟩
     .cases (if_neg hz).symm.trans hh
    | _=>cases hh
  | _=>cases hh
open Classical in
abbrev hLen(K:Qa):List D->Option D
 | [.at (.str x)]=>if x.length<=sizeLine then some (.at (.int x.length)) else none
 | [.nd (.lst _) l]=>some (.at (.int l.length))
 | [.nd .tup l]=>some (.at (.int l.length))
 | [.nd (.dic _ _) l]=>some (.at (.int l.length))
 | [.nd (.kst K') l]=>if K'=K then some (.at (.int l.length)) else none
 | _=>none
open Classical in
def Zgj{K K':Qa}{l:List D}:hLen K [.nd (.kst K') l]=if K'=K then some (.at (.int l.length)) else none:=rfl
def Z0r:Z0f X (.builtin "len") (gNw (hLen X.K)):=callM (Z0f.or call_len Zb2) fun vs H Q q=>by
 obtain ⟨l,ok,hv,q⟩:=q;obtain ⟨d,hh,q⟩:=q
 match l,ok,hv,hh,q with
 | [],_,_,hh,_=>cases hh
 | t::_::_,_,_,hh,_=>cases t with
  | «at» v=>cases v <;> cases hh
  | nd _ k _=>cases k <;> cases hh
 | [t],ok,hv,hh,q=>
  subst hv;simp only [T.ers] at hh
  cases t with
  | «at» v=>
   cases v with
   | str x=>
    by_cases z:x.length<=sizeLine
    .cases (if_pos z).symm.trans hh
     exact .inl ⟨.str x,x.length,rfl,⟨z,rfl⟩,q (.at (.int x.length)) H rfl (.atom _)⟩
    .cases (if_neg z).symm.trans hh
   | _=>cases hh
  | nd a k ch=>
   cases k with
   | lst m=>
    have hh:some (D.at (.int ((T.ers ch).length:Int)))=some d:=hh;rw [Z1I] at hh;cases hh;exact .inl ⟨.ref a,ch.length,rfl,.inl ⟨_,ok.1.1.sqL,by simp⟩,q (.at (.int ch.length)) H rfl (.atom _)⟩
   | tup=>
    have hh:some (D.at (.int ((T.ers ch).length:Int)))=some d:=hh;rw [Z1I] at hh;cases hh;exact .inl ⟨.ref a,ch.length,rfl,.inr ⟨_,ok.1.1.sqT,by simp⟩,q (.at (.int ch.length)) H rfl (.atom _)⟩
   | dic m ks=>
    have hh:some (D.at (.int ((T.ers ch).length:Int)))=some d:=hh;rw [Z1I] at hh;cases hh;obtain ⟨h1,_,h2⟩:=ok.1.1;refine .inr ⟨a,ks.zip (ch.map T.val),rfl,h2,?_⟩
    have:(ks.zip (ch.map T.val)).length=ch.length:=by
     simp only [Qx] at h1;simp [h1]
    rw [this];exact q (.at (.int ch.length)) H rfl (.atom _)
   | kst K'=>
    have h2:=Zgj.symm.trans hh;by_cases e:K'=X.K
    case pos=>
     rw [if_pos e,Z1I] at h2;subst e;cases h2;exact .inl ⟨.ref a,ch.length,rfl,.inl ⟨_,.inr ok.1.1,by simp⟩,q (.at (.int ch.length)) H rfl (.atom _)⟩
    case neg=>rw [if_neg e] at h2;cases h2
   | _=>cases hh
def Z15{x:Str}{id:String}{h:List D->Option D}{p pos:Pos}{e:Expr}{es:List Expr}{f:AF}(hc:Z0f X (.builtin id) (gNw h))(hg:Gl X x)(hm:X.mg x=none)(hv:bootBuiltins x=some (.builtin id))(ha:PA X (e::es) (lA R ix f))(hn:autoParam (x ≠ "__name__") uB._auto_1)(hdb:autoParam ((x == ("__debug__":Str))=false) uB._auto_1)
  (he:autoParam (starEach (e::es) X.env=(false,eval e X.env)::starEach es X.env) uA._auto_1) (hpl:autoParam ((backTo pos (starEach es X.env)).any (·.1)=false) uA._auto_1):PE X (.Call (.Name x p) (e::es) [] pos) (lE R ix (eNw h f)):=
 peM (Z0q hc hg hm hv ha hn hdb he hpl) fun σ H Q q=>Z0P σ H Q q
def rc_ty{x:Str}{Ty:String}{h:List D->Option D}{p pos:Pos}{e:Expr}{es:List Expr}{f:AF}(hc:Z0f X (.type Ty) (gNw h))(hg:Gl X x)(hm:X.mg x=none)(hv:bootBuiltins x=some (.type Ty))(ha:PA X (e::es) (lA R ix f))(hn:autoParam (x ≠ "__name__") uB._auto_1)(hdb:autoParam ((x == ("__debug__":Str))=false) uB._auto_1)
  (he:autoParam (starEach (e::es) X.env=(false,eval e X.env)::starEach es X.env) uA._auto_1) (hpl:autoParam ((backTo pos (starEach es X.env)).any (·.1)=false) uA._auto_1):PE X (.Call (.Name x p) (e::es) [] pos) (lE R ix (eNw h f)):=
 peM (ZbV hc hg hm hv ha hn hdb he hpl) fun σ H Q q=>Z0P σ H Q q
abbrev hList:List D->Option D
 | [.nd (.lst _) l]=>if D.imms l then some (.nd (.lst true) l) else none
 | [.nd .tup l]=>if D.imms l then some (.nd (.lst true) l) else none
 | _=>none
def Z9W:Z0f X (.type "list") (gNw hList):=callM Z8R fun vs H Q q=>by
 obtain ⟨l,ok,hv,d,hh,q⟩:=q
 match l,ok,hv,hh,q with
 | [],_,_,hh,_=>cases hh
 | t::_::_,_,_,hh,_=>cases t with
  | «at» v=>cases v <;> cases hh
  | nd _ k _=>cases k <;> cases hh
 | [t],ok,hv,hh,q=>
  subst hv;simp only [T.ers] at hh
  cases t with
  | «at» v=>cases hh
  | nd a k ch=>
   have main:(SqL X.K H a (ch.map T.val)\/SqT X.K H a (ch.map T.val))->D.imms (T.ers ch)=true->d=.nd (.lst true) (T.ers ch)->(∀ b∈T.ros ch,b∈T.ros [T.nd a k ch])->∃ p ys,[(T.nd a k ch).val]=[V.ref p]/\(SqL X.K H p ys\/SqT X.K H p ys)/\∀ l,H l=none->Q (.ref l) (upd H l (.lst ys)):=by
    rintro hs hi rfl hr;exact ⟨a,ch.map T.val,rfl,hs,fun p hp=>q (.nd p (.lst true) ch) _ rfl (Z6G hp Zj (.inl rfl) (fun t ht=>⟨T.oks_iff.mp ok.1.2 t ht,Za7 hi t ht⟩) hr)⟩
   cases k with
   | lst m=>
    by_cases z:D.imms (T.ers ch)=true
    .cases (if_pos z).symm.trans hh
     exact main (.inl ok.1.1.sqL) z rfl fun b hb=>by simp [T.ros,T.ro,hb]
    .cases (if_neg z).symm.trans hh
   | tup=>
    by_cases z:D.imms (T.ers ch)=true
    .cases (if_pos z).symm.trans hh
     exact main (.inr ok.1.1.sqT) z rfl fun b hb=>by simp [T.ros,T.ro,hb]
    .cases (if_neg z).symm.trans hh
   | _=>cases hh
end
end
section
mutual
variable {X:Cx}{R:RC}{ix:List Nat}{H H':Hp}{σ:L2.St}{K:Qa}
def gCh2{h:List D->Option Sel}{x y:V}{Q:VK}(q:gCh h [x,y] H Q):∃ t u:T,t.ok H/\u.ok H/\t.val=x/\u.val=y/\∃ c v,h [t.er,u.er]=some c/\selT [t,u] c=some v/\Q v H:=by
 obtain ⟨l,ok,hv,q⟩:=q;obtain ⟨t,u,rfl,rfl,rfl⟩:=map2 hv;exact ⟨t,u,ok.1,ok.2.1,rfl,rfl,q⟩
open Classical in
abbrev hIx(K:Qa):List D->Option Sel
 | [.nd (.lst _) l,.at (.int i)]=>(ixN l.length i).map .ch
 | [.nd .tup l,.at (.int i)]=>(ixN l.length i).map .ch
 | [.nd (.kst K') l,.at (.int i)]=>if K'=K then (ixN l.length i).map .ch else none
 | [.at (.str z),.at (.int i)]=>if z.length<=sizeLine then (atI z.cps.toList i).map fun c=>.cs (.str ⟨#[c]⟩) else none
 | _=>none
def ixM{r r':R2}(h:IxR X r)(m:∀ x y H Q,r' x y H Q->r x y H Q):IxR X r':=fun v sl pins s σ H x y ov u Q I rx ry q hs=>h v sl pins s σ H x y ov u Q I rx ry (m _ _ _ _ q) hs
open Classical in
def hIx_K{K K':Qa}{l:List D}{i:Int}:hIx K [.nd (.kst K') l,.at (.int i)]=if K'=K then (ixN l.length i).map .ch else none:=rfl
def hIx_S{K:Qa}{z:Str}{i:Int}:hIx K [.at (.str z),.at (.int i)]=if z.length<=sizeLine then (atI z.cps.toList i).map fun c=>.cs (.str ⟨#[c]⟩) else none:=rfl
def ix_h:IxR X fun x y H Q=>gCh (hIx X.K) [x,y] H Q:=ixM ix_seq fun x y H Q q=>by
 obtain ⟨t,u,ht,hu,rfl,rfl,c,v,hh,hs,qq⟩:=gCh2 q
 have seq:∀ {a:Addr} {k:NK} {ch:List T} {i:Int},T.nd a k ch=t->(ixN (T.ers ch).length i).map Sel.ch=some c->atI (ch.map T.val) i=some v:=by
  rintro a k ch i rfl h;rw [Z1I] at h
  cases e:ixN ch.length i with
  | none=>rw [e] at h;cases h
  | some j=>
   rw [e] at h;cases h;unfold atI;rw [Qx,e];simpa [selT] using hs
 cases t with
 | nd a k ch=>
  have hi:∃ i,u=.at (.int i):=by
   cases u with
   | nd b k' l=>cases k <;> cases hh
   | «at» w=>cases w with
    | int i=>exact ⟨i,rfl⟩
    | _=>cases k <;> cases hh
  obtain ⟨i,rfl⟩:=hi
  cases k with
  | lst m=>exact .inl ⟨a,ch.map T.val,i,v,rfl,rfl,ht.1.sqL,seq rfl hh,qq⟩
  | tup=>exact .inr (.inl ⟨a,ch.map T.val,i,v,rfl,rfl,ht.1.sqT,seq rfl hh,qq⟩)
  | kst K'=>
   by_cases e:K'=X.K
   .have h2:=hIx_K.symm.trans hh
    rw [if_pos e] at h2;subst e;exact .inl ⟨a,ch.map T.val,i,v,rfl,rfl,.inr ht.1,seq rfl h2,qq⟩
   .have h2:=hIx_K.symm.trans hh
    rw [if_neg e] at h2;cases h2
  | _=>cases hh
 | «at» w=>
  cases w with
  | str z=>
   have hi:∃ i,u=.at (.int i):=by
    cases u with
    | nd b k' l=>cases hh
    | «at» w=>cases w with
     | int i=>exact ⟨i,rfl⟩
     | _=>cases hh
   obtain ⟨i,rfl⟩:=hi;have hh:=hIx_S.symm.trans hh;by_cases hz:z.length<=sizeLine
   .rw [if_pos hz] at hh
    cases e:atI z.cps.toList i with
    | none=>rw [e] at hh;cases hh
    | some ch=>
     rw [e] at hh;cases hh;cases hs;exact .inr (.inr ⟨z,i,ch,rfl,rfl,hz,e,qq⟩)
   .rw [if_neg hz] at hh;cases hh
  | _=>cases hh
def Z0C{a b:Expr}{pos:Pos}{fa fb:EF}(ha:PE X a (lE R ix fa))(hb:PE X b (lE R ix fb))(hs:PlainIx b):PE X (.Subscript a b pos) (lE R ix (eCh (hIx X.K) (Z0 fa (Z0 fb Z1)))):=
 peM (pe_ix ix_h ha hb hs) fun σ H Q q=>Z1e (lA_ch σ H Q q)
abbrev idx(f:Str)(ns:List Str):Option Nat:=ns.findIdx? (· == f)
def Z4O{f:Str}{j:Nat}:∀ {ns:List Str} {vs:List V},ns.length=vs.length->idx f ns=some j->∃ v,vs[j]?=some v/\(ns.zip vs).lookup f=some v
 | [],_,_,h=>by cases h
 | n::ns,[],hl,_=>by simp at hl
 | n::ns,v::vs,hl,h=>by
  unfold idx at h;rw [Qad] at h
  cases e:n == f with
  | true=>
   rw [e,if_pos rfl] at h;cases h;refine ⟨v,rfl,?_⟩
   have:f == n:=by rw [beq_iff_eq] at e ⊢;exact e.symm
   simp [Ju,this]
  | false=>
   rw [e,if_neg Ql] at h
   cases e2:ns.findIdx? (· == f) with
   | none=>rw [e2] at h;cases h
   | some k=>
    rw [e2] at h;cases h;obtain ⟨w,h1,h2⟩:=Z4O (f:=f) (j:=k) (ns:=ns) (vs:=vs) (by simpa using hl) e2;refine ⟨w,by simpa using h1,?_⟩
    have:(f == n)=false:=by
     cases e3:f == n with
     | false=>rfl
     | true=>rw [beq_iff_eq] at e3;rw [e3] at e;simp at e
    simp only [Np,Ju,this];exact h2
abbrev Z0X(C:Addr)(f:Str):List D->Option Sel
 | [.nd (.ins _ C' ns) _]=>if C'=C then (idx f ns).map .ch else none
 | _=>none
def ZbH{C:Addr}{f:Str}{fe:EF}(σ:L2.St)(H:Hp)(Q:VK)(q:lE R ix (eCh (Z0X C f) (Z0 fe Z1)) σ H Q):Z2G C (lE R ix fe) f σ H Q:=by
 refine Zd (fun v H1 q=>?_) (lA_1 (lA_ch σ H Q q));obtain ⟨l,ok,hv,sl,w,hh,hs,q⟩:=q;obtain ⟨t,rfl,rfl⟩:=map1 hv;simp only [T.ers] at hh
 cases t with
 | «at» u=>simp [T.er,Z0X] at hh
 | nd a k ch=>
  cases k with
  | ins m C' ns=>
   simp only [T.er,Z0X] at hh;by_cases hC:C'=C
   .subst hC
    rw [if_pos rfl] at hh
    cases ei:idx f ns with
    | none=>rw [ei] at hh;cases hh
    | some j=>
     rw [ei] at hh;cases hh;obtain ⟨h1,dx,h2⟩:=ok.1.1;obtain ⟨u,u1,u2⟩:=Z4O h1 ei
     have:u=w:=by
      rw [Qc] at u1;simp only [selT] at hs;rw [u1] at hs;cases hs;rfl
     subst this;exact ⟨a,dx,_,u,rfl,h2,u2,q⟩
   .rw [if_neg hC] at hh;cases hh
  | _=>simp [T.er,Z0X] at hh
def Z0V{C:Addr}{f:Str}{e:Expr}{pos:Pos}{fe:EF}(c:Cls K C)(n:Zv K C f)(he:PE X e (lE R ix fe))(hb:autoParam (attributeBase e f X.env (eval e X.env)=eval e X.env) uA._auto_1)(hK:autoParam (X.K=K) uA._auto_1):PE X (.Attribute e f pos) (lE R ix (eCh (Z0X C f) (Z0 fe Z1))):=
 peM (Z4o c n he hb hK) ZbH
abbrev keyD:D->Option Key
 | .at (.int i)=>some (.inl i)
 | .at (.str x)=>some (.inr x)
 | _=>none
def Z7c{t:T}{k:Key}(h:keyD t.er=some k):t=.at (kV k):=by
 cases t with
 | nd a q l=>simp [T.er,keyD] at h
 | «at» v=>cases v <;> simp [T.er,cl,keyD] at h <;> (subst h;rfl)
abbrev keysD:List D->Option (List Key)
 | []=>some []
 | d::r=>match keyD d,keysD r with | some k,some ks=>some (k::ks) | _,_=>none
def Zad:∀ {l:List T} {ks:List Key},keysD (T.ers l)=some ks->l.map T.val=ks.map kV
 | [],ks,h=>by cases h;rfl
 | t::l,ks,h=>by
  simp only [T.ers,keysD] at h
  cases e1:keyD t.er with
  | none=>simp [e1] at h
  | some k=>cases e2:keysD (T.ers l) with
   | none=>simp [e1,e2] at h
   | some r=>
    simp only [e1,e2,Je.injEq] at h;subst h;rw [Z7c e1,Qj,Qj,Zad e2];rfl
abbrev idk{κ:Type}[DecidableEq κ](k:κ)(ks:List κ):Option Nat:=ks.findIdx? fun x=>decide (x=k)
def Z3T{κ:Type}[DecidableEq κ](k:κ):∀ {ks:List κ} {vs:List V},ks.length=vs.length->valV (ks.zip vs) k=(idk k ks).bind fun j=>vs[j]?
 | [],vs,h=>by cases vs with | nil=>rfl | cons=>simp at h
 | x::ks,[],h=>by simp at h
 | x::ks,v::vs,h=>by
  have ih:=Z3T k (ks:=ks) (vs:=vs) (by simpa using h);unfold idk at *;rw [Np,Qad];by_cases e:x=k
  .rw [Z55 (by exact e),decide_eq_true e];rfl
  .rw [Z54 (by exact e),decide_eq_false e,if_neg Ql,ih]
   cases List.findIdx? (fun x=>decide (x=k)) ks <;> rfl
abbrev Z1k:D->D->Option (Option Nat)
 | .nd (.dic _ ks) _,k=>(keyD k).map fun k=>idk k ks
 | .nd (.dit _ ks) _,.nd .tup l=>(keysD l).map fun k=>idk k ks
 | _,_=>none
def Z4H{t u:T}{o:Option Nat}(ht:t.ok H)(hu:u.ok H)(h:Z1k t.er u.er=some o):∃ a k ch,t=.nd a k ch/\DGet H a u.val (o.bind fun j=>(ch.map T.val)[j]?):=by
 cases t with
 | «at» v=>simp [T.er,Z1k] at h
 | nd a k ch=>
  cases k with
  | dic m ks=>
   refine ⟨a,_,ch,rfl,?_⟩;simp only [T.er,Z1k] at h
   cases e:keyD u.er with
   | none=>rw [e] at h;cases h
   | some key=>
    rw [e] at h;cases h;obtain ⟨h1,_,h2⟩:=ht.1;rw [Z7c e,<- Z3T key h1];exact DGet.k h2
  | dit m ks=>
   refine ⟨a,_,ch,rfl,?_⟩
   cases u with
   | «at» v=>simp [T.er,Z1k] at h
   | nd b k' l=>
    cases k' with
    | tup=>
     simp only [T.er,Z1k] at h
     cases e:keysD (T.ers l) with
     | none=>rw [e] at h;cases h
     | some key=>
      rw [e] at h;cases h;obtain ⟨h1,_,h2⟩:=ht.1;rw [<- Z3T key h1];refine DGet.t h2 ?_;rw [<- Zad e];exact hu.1
    | _=>simp [T.er,Z1k] at h
  | _=>simp [T.er,Z1k] at h
abbrev ZX:List D->Option Sel
 | [d,k]=>match Z1k d k with | some (some j)=>some (.ch j) | _=>none
 | _=>none
def Z0o{o i:Expr}{pos:Pos}{fo fi:EF}(hu:X.A.units + 1 < cLine)(ho:PE X o (lE R ix fo))(hi:PE X i (lE R ix fi))(hs:NoSl i):PE X (.Subscript o i pos) (lE R ix (eCh ZX (Z0 fo (Z0 fi Z1)))):=
 peM (Zf5 hu ho hi hs) fun σ H Q q=>by
  refine Zd (fun x H1 q=>Zd (fun y H2 q=>?_) q) (Z1e (lA_ch σ H Q q));obtain ⟨t,u,ht,hu',rfl,rfl,c,v,hh,hs',qq⟩:=gCh2 q;simp only [ZX] at hh
  split at hh
  case h_1 j e=>
   cases hh;obtain ⟨a,k,ch,rfl,g⟩:=Z4H ht hu' e;refine ⟨a,v,rfl,?_,qq⟩
   have:(some j).bind (fun j=>(ch.map T.val)[j]?)=some v:=by simpa [selT] using hs'
   rwa [this] at g
  case h_2=>cases hh
abbrev hDIn(neg:Bool):List D->Option D
 | [k,d]=>match Z1k d k with | some o=>some (.at (.bl (o.isSome != neg))) | none=>none
 | _=>none
def Z8f{neg:Bool}{k d r:D}(h:hDIn neg [k,d]=some r):∃ o,Z1k d k=some o/\r=.at (.bl (o.isSome != neg)):=by
 simp only [hDIn] at h
 split at h
 case h_1 o e=>cases h;exact ⟨o,e,rfl⟩
 case h_2=>cases h
def Z6p{o:Option Nat}{ch:List T}{k:NK}{a:Addr}{u:T}(h:Z1k (T.nd a k ch).er u.er=some o)(hok:(T.nd a k ch).ok H):(o.bind fun j=>(ch.map T.val)[j]?).isSome=o.isSome:=by
 cases o with
 | none=>rfl
 | some j=>
  have hj:j < ch.length:=by
   cases k with
   | dic m ks=>
    simp only [T.er,Z1k] at h
    cases e:keyD u.er with
    | none=>rw [e] at h;cases h
    | some key=>
     rw [e] at h;simp only [Qu,Je.injEq] at h;have:=(Wi.mp h).1;have h1:=hok.1.1;simp only [Qx] at h1;omega
   | dit m ks=>
    cases u with
    | «at» v=>simp [T.er,Z1k] at h
    | nd b k' l=>
     cases k' with
     | tup=>
      simp only [T.er,Z1k] at h
      cases e:keysD (T.ers l) with
      | none=>rw [e] at h;cases h
      | some key=>
       rw [e] at h;simp only [Qu,Je.injEq] at h;have:=(Wi.mp h).1;have h1:=hok.1.1;simp only [Qx] at h1;omega
     | _=>simp [T.er,Z1k] at h
   | _=>simp [T.er,Z1k] at h
  simp [hj]
def Zhb{i o:Expr}{fi fo:EF}(hu:X.A.units + 1 < cLine)(hi:PE X i (lE R ix fi))(ho:PE X o (lE R ix fo)):PC X .In i o (lE R ix (eNw (hDIn false) (Z0 fi (Z0 fo Z1)))):=fun pins s σ H Q I q=>ZgQ hu hi ho pins s σ H Q I (by
 refine Zd (fun x H1 q=>Zd (fun y H2 q=>?_) q) (Z1e (Z0P σ H Q q));obtain ⟨t,u,ht,hu',rfl,rfl,d,hh,qq⟩:=gNw2 q;obtain ⟨oo,e,rfl⟩:=Z8f hh;obtain ⟨a,k,ch,rfl,g⟩:=Z4H hu' ht e;refine ⟨a,_,rfl,g,?_⟩;rw [Z6p e hu'];exact qq (.at (.bl oo.isSome)) H2 (by simp [T.er,cl]) (.atom _))
def Zfq{i o:Expr}{fi fo:EF}(hu:X.A.units + 1 < cLine)(hi:PE X i (lE R ix fi))(ho:PE X o (lE R ix fo)):PC X .NotIn i o (lE R ix (eNw (hDIn true) (Z0 fi (Z0 fo Z1)))):=fun pins s σ H Q I q=>ZbU hu hi ho pins s σ H Q I (by
 refine Zd (fun x H1 q=>Zd (fun y H2 q=>?_) q) (Z1e (Z0P σ H Q q));obtain ⟨t,u,ht,hu',rfl,rfl,d,hh,qq⟩:=gNw2 q;obtain ⟨oo,e,rfl⟩:=Z8f hh;obtain ⟨a,k,ch,rfl,g⟩:=Z4H hu' ht e;refine ⟨a,_,rfl,g,?_⟩;rw [Z6p e hu'];exact qq (.at (.bl (!oo.isSome))) H2 (by simp [T.er,cl]) (.atom _))
end
end
noncomputable def vals:List DV->Option (List D)
 | []=>some []
 | .val d::r=>(match vals r with | some l=>some (d::l) | none=>none)
 | .plc _ _::_=>none
noncomputable def Z0s(k:NK)(f:AF):EF:=fun s=>match f s with
 | .ok rs s1=>(match vals rs with | some l=>if l.length<=sizeLine then .ok (.val (.nd k l)) s1 else .no | none=>.no)
 | .ex C s1=>.ex C s1
 | .no=>.no
section
mutual
variable {X:Cx}{R:RC}{ix:List Nat}{hd:List (Nat×Addr)}{H H':Hp}{σ:L2.St}{K:Qa}{ts:Ts}{fr:List T}
def Z9F:∀ {tvs:List TV} {vs:List V} {l:List D},vals (tvs.map TV.er)=some l->TvsOk ts vs tvs->∃ ch:List T,trs tvs=ch/\T.ers ch=l/\ch.map T.val=vs
 | [],_,_,h,.nil=>by cases h;exact ⟨[],rfl,rfl,rfl⟩
 | tv::tvs,_,l,h,.cons hv hr=>by
  cases tv with
  | plc k p a=>simp [TV.er,vals] at h
  | val t=>
   simp only [Qj,TV.er,vals] at h
   cases e:vals (tvs.map TV.er) with
   | none=>rw [e] at h;cases h
   | some r=>
    rw [e] at h;cases h;obtain ⟨ch,h1,h2,h3⟩:=Z9F e hr;refine ⟨t::ch,?_,by rw [T.ers,h2],by rw [Qj,h3,hv]⟩;show [t]++trs tvs=t::ch;rw [h1];rfl
def Cf.wrap{ch:List T}{k:NK}{p:Addr}{o:HO}(C:Cf R ix hd H σ ts (ch++fr))(hp:H p=none)(ho:NodeOk (upd H p o) p k (ch.map T.val))(hko:autoParam (k.out=false) uA._auto_1):Cf R ix hd (upd H p o) σ ts (.nd p k ch::fr):=by
 obtain ⟨f1,f2,f3,f4,f5,f6⟩:=C.fresh hp;have ok:=T.oks_app.mp C.fok;have kp:∀ a,H a≠none->upd H p o a=H a:=fun a z=>Zb (by rintro rfl;exact z hp);rw [T.owns_app] at f4;rw [T.ros_app] at f5;simp only [Qf,not_or] at f4 f5;have eo:T.owns (.nd p k ch::fr)=(if k.mut then [p] else [])++(T.owns ch++T.owns fr):=by rw [T.owns_cons,T.own,Qn]
 have er:T.ros (.nd p k ch::fr)=(if k.mut then [] else [p])++(T.ros ch++T.ros fr):=by rw [T.ros_cons,T.ro,hko,Bool.or_false,Qn]
 have hin:∀ a,a∈(if k.mut then [p] else [])->a=p:=fun a z=>by revert z;cases k.mut <;> simp
 have hin':∀ a,a∈(if k.mut then [] else [p])->a=p/\k.mut=false:=fun a z=>by revert z;cases k.mut <;> simp
 refine ⟨fun w t z=>T.keep (C.ok w t z) fun a q=>kp a (T.there (C.ok w t z) q),⟨⟨ho,T.keeps ok.1 fun a q=>kp a (T.theres ok.1 q)⟩,T.keeps ok.2 fun a q=>kp a (T.theres ok.2 q)⟩,?_,fun a z=>?_,fun a z=>?_,fun a z=>?_,C.bg,C.bor,C.ixs,C.sl,C.hdi,C.hdx,C.len,C.hdn⟩
 .rw [eo]
  have nd:=C.nd;rw [T.owns_app] at nd;have n1:=Qm.mp nd;refine Qm.mpr ⟨n1.1,Qm.mpr ⟨by cases k.mut <;> simp,n1.2.1,fun a za b zb e=>?_⟩,fun a za b zb e=>?_⟩
  .subst e
   rw [hin a za] at zb;exact (Qf.mp zb).elim f4.1 f4.2
  .subst e
   rcases Qf.mp zb with zb | zb
   .rw [hin a zb] at za;exact f1 za
   .exact n1.2.2 a za a zb rfl
 .rw [eo]
  rw [er] at z;have zz:=z
  have main:∀ a,a∈roS ts\/a∈T.ros (ch++fr)->a∉Ze ts/\a∉(if k.mut then [p] else [])++(T.owns ch++T.owns fr)/\¬ R.B a:=by
   clear z;intro a z;obtain ⟨s1,s2,s3⟩:=C.sep a z;rw [T.owns_app] at s2;refine ⟨s1,fun q=>?_,s3⟩;rcases Qf.mp q with q | q
   .have e:=hin a q
    rw [e] at z;rcases z with z | z
    .exact f2 z
    .rw [T.ros_app] at z;exact (Qf.mp z).elim f5.1 f5.2
   .exact s2 q
  rcases zz with z | z
  .exact main a (.inl z)
  .rcases Qf.mp z with z | z
   .obtain ⟨rfl,hm⟩:=hin' a z
    refine ⟨f1,fun q=>?_,fun q=>f6 (C.bg a q)⟩;rw [hm] at q;simp only [Nm,if_false,Jq] at q;exact (Qf.mp q).elim f4.1 f4.2
   .exact main a (.inr (by rw [T.ros_app];exact z))
 .rw [eo]
  obtain ⟨s1,s2⟩:=C.rd a z;rw [T.owns_app] at s2;refine ⟨s1,fun q=>?_⟩;rcases Qf.mp q with q | q
  .rw [hin a q] at z;exact f3 z
  .exact s2 q
 .rw [eo]
  obtain ⟨g1,g2,g3,g4⟩:=C.g a z;rw [T.owns_app] at g4;refine ⟨(kp a g2).trans g1,by rw [kp a g2];exact g2,g3,fun q=>?_⟩;rcases Qf.mp q with q | q
  .rw [hin a q] at z;exact f6 z
  .exact g4 q
def ZeO{k:NK}{f:AF}{o:List V->HO}(hko:k.out=false)(hk:∀ (H:Hp) p vs,NodeOk (upd H p (o vs)) p k vs)(σ:L2.St)(H:Hp)(Q:VK)(q:lE R ix (Z0s k f) σ H Q):lA R ix f σ H fun vs H1=>vs.length<=sizeLine/\∀ p,H1 p=none->Q (.ref p) (upd H1 p (o vs)):=by
 obtain ⟨hd,ts,fr,C,q⟩:=q;refine ⟨hd,ts,fr,C,?_⟩;unfold Z0s at q
 cases ef:f (ts.map TL.er) with
 | no=>rw [ef] at q;exact q
 | ex E s1=>rw [ef] at q;exact q
 | ok rs s1=>
  rw [ef] at q;intro H1 ts1 tvs vs e1 e2 hv C1;subst e1 e2;dsimp only at q
  cases ev:vals (tvs.map TV.er) with
  | none=>rw [ev] at q;exact q.elim
  | some l=>
   rw [ev] at q;obtain ⟨ch,c1,c2,c3⟩:=Z9F ev hv;subst c2 c3;rw [c1] at C1;dsimp only at q;by_cases hz:(T.ers ch).length<=sizeLine
   .rw [if_pos hz] at q
    refine ⟨by rw [Z1I] at hz;simpa using hz,fun p hp=>?_⟩;exact q _ ts1 (.val (.nd p k ch)) (.ref p) rfl rfl rfl (C1.wrap hp (hk H1 p _) hko)
   .rw [if_neg hz] at q;exact q.elim
def Z2C{es:List Expr}{pos:Pos}{f:AF}(h:PA X es (lA R ix f)):PE X (.List es pos) (lE R ix (Z0s (.lst true) f)):=peM (ZbY h) fun σ H Q q=>ZeO (k:=.lst true) (o:=HO.lst) rfl (fun _ _ _=>Zj) σ H Q q
def Z6d{pos:Pos}:PE X (.Dict [] [] pos) (lE R ix (Z0s (.dic true []) Z1)):=peM ZdH fun σ H Q q=>by
 obtain ⟨hd,ts,fr,C,q⟩:=q;intro p hp;refine q _ ts (.val (.nd p (.dic true []) [])) (.ref p) rfl rfl rfl (Cf.wrap (ch:=[]) C hp ⟨rfl,Ng,Zj⟩)
def Zfp{pos:Pos}:PE X (.Dict [] [] pos) (lE R ix (Z0s (.dit true []) Z1)):=peM ZdI fun σ H Q q=>by
 obtain ⟨hd,ts,fr,C,q⟩:=q;intro p hp;refine q _ ts (.val (.nd p (.dit true []) [])) (.ref p) rfl rfl rfl (Cf.wrap (ch:=[]) C hp ⟨rfl,Ng,Zj⟩)
abbrev ZS(C:Addr)(f:Str):List D->Option Mu
 | [_,.nd (.ins true C' ns) l]=>if C'=C/\l.length < 1000 then (match idx f ns with | some j=>some (.set j 0) | none=>some (.add (.ins true C (ns++[f])) 0)) else none
 | _=>none
def Z9m{f:Str}{v:V}:∀ {ns:List Str} {vs:List V},ns.length=vs.length->Z1g f v (ns.zip vs)=match idx f ns with | some j=>ns.zip (vs.set j v) | none=>(ns++[f]).zip (vs++[v])
 | [],[],_=>rfl
 | [],_::_,h=>by simp at h
 | _::_,[],h=>by simp at h
 | n::ns,u::vs,h=>by
  have ih:=Z9m (f:=f) (v:=v) (ns:=ns) (vs:=vs) (by simpa using h);unfold idx at *;rw [Np,Qad]
  cases e:n == f with
  | true=>
   rw [if_pos rfl]
   have:n=f:=by simpa using e
   subst this;simp [Z1g]
  | false=>
   rw [if_neg Ql];have hne:¬ n=f:=by simpa using e
   have:Z1g f v ((n,u)::ns.zip vs)=(n,u)::Z1g f v (ns.zip vs):=by simp [Z1g,hne]
   rw [this,ih];cases ns.findIdx? (· == f) <;> rfl
def ZQ{C:Addr}{f:Str}{o value:Expr}{pos pos':Pos}{fo fv:EF}(c:Cls K C)(n:Zv K C f)(ho:PE X o (lE R ix fo))(hv:PE X value (lE R ix fv))(hs:autoParam (swapsWith value (some (.Attribute o f pos')) pos.line X.env=pure false) uA._auto_1)(hK:autoParam (X.K=K) uA._auto_1) :
  PS X (.Assign [.Attribute o f pos'] value pos) (lS R ix (sE (eMu 1 (ZS C f) (Z0 fv (Z0 fo Z1))))):=psM (Zfi c n ho hv hs hK) fun D σ H h=>by
 have h1:=Z1e (lA_mu σ H (fun _ H1=>D.nx σ H1) (lS_e D σ H h));refine Zd (fun y H1 q=>Zd (fun x H2 q=>?_) q) h1;obtain ⟨l,ok,hvl,a,kd,ch,op,hl,hm,hh,q⟩:=q;obtain ⟨tv,to,rfl,rfl,rfl⟩:=map2 hvl;cases hl;simp only [T.ers,T.er] at hh
 cases kd with
 | ins m C' ns=>
  cases m with
  | false=>cases hh
  | true=>
   by_cases z:C'=C/\(T.ers ch).length < 1000
   case neg=>cases (if_neg z).symm.trans hh
   case pos=>
    have hh:=(if_pos z).symm.trans hh;obtain ⟨rfl,hlt⟩:=z;obtain ⟨h1,dx,h2⟩:=ok.2.1.1;rw [Z1I] at hlt;refine ⟨a,dx,_,rfl,h2,?_,?_⟩
    .simp only [List.length_zip,Qx] at h1 ⊢;omega
    .rw [Z9m h1]
     cases ei:idx f ns with
     | none=>
      rw [ei] at hh;cases hh;obtain ⟨x,hx,q⟩:=q;cases hx;refine q _ ⟨by simp at h1 ⊢;omega,dx,rfl⟩
     | some j=>
      rw [ei] at hh;cases hh;obtain ⟨x,hx,_,q⟩:=q;cases hx;exact q _ ⟨by simpa using h1,dx,rfl⟩
 | _=>cases hh
abbrev hPutD:List D->Option Mu
 | [_,.nd (.dic true ks) l,k]=>if l.length < sizeLine then (match keyD k with | some k=>(match idk k ks with | some j=>some (.set j 0) | none=>some (.add (.dic true (ks++[k])) 0)) | none=>none) else none
 | _=>none
def ZdL{κ:Type}[DecidableEq κ]{k:κ}{v:V}:∀ {ks:List κ} {vs:List V},ks.length=vs.length->ks.Nodup->putK (ks.zip vs) k v=match idk k ks with | some j=>ks.zip (vs.set j v) | none=>(ks++[k]).zip (vs++[v]):=by
 intro ks vs hl hn
 cases e:idk k ks with
 | none=>
  have:valV (ks.zip vs) k=none:=by rw [Z3T k hl,e];rfl
  rw [Z9n v this];dsimp only;rw [List.zip_append hl];rfl
 | some j=>
  have hj:=Wi.mp e;obtain ⟨h1,h2,h3⟩:=hj;have hk:ks[j]=k:=by simpa using h2
  have hv:valV (ks.zip vs) k=some (vs[j]'(by omega)):=by
   rw [Z3T k hl,e];simp [show j < vs.length by omega]
  unfold putK;rw [Z3S,hv];simp only [Option.isSome_some,if_true];refine Wr fun i=>?_;rw [Qc,List.zip_eq_zipWith,List.zip_eq_zipWith,Wx,Wx,Qp];by_cases hij:j=i
  .subst hij
   rw [if_pos rfl,if_pos (by omega),Qk h1,Qk (show j < vs.length by omega)];simp [hk]
  .rw [if_neg hij]
   cases e1:ks[i]? with
   | none=>rfl
   | some x=>
    cases e2:vs[i]? with
    | none=>rfl
    | some y=>
     have hx:x≠k:=by
      rintro rfl;obtain ⟨hi,rfl⟩:=Qd.mp e1;exact hij ((List.getElem_inj hn).mp hk)
     simp [hx]
def Zdr{κ:Type}[DecidableEq κ]{k:κ}{ks:List κ}(h:idk k ks=none):k∉ks:=fun z=>by
 have:=Qai.mp h k z;simp at this
def Zc5{Q:Hp->Prop}{v d k:T}(hk:k.ok H){a:Addr}{kd:NK}{ch:List T}{op:Mu}(hd:d=.nd a kd ch)(ok:(T.nd a kd ch).ok H)(hh:hPutD [v.er,(T.nd a kd ch).er,k.er]=some op)
  (q:match op with
   | .add kd' m=>∃ x,[v,d,k][m]?=some x/\∀ o,HoOk o kd' (ch.map T.val++[x.val])->Q (upd H a o)
   | .set j m=>∃ x,[v,d,k][m]?=some x/\j < ch.length/\∀ o,HoOk o kd ((ch.map T.val).set j x.val)->Q (upd H a o)):∃ H4,DPut H a k.val v.val H4/\Q H4:=by
 subst hd
 cases kd with
 | dic m ks=>
  cases m with
  | false=>cases hh
  | true=>
   have hh:(if (T.ers ch).length < sizeLine then (match keyD k.er with | some k=>(match idk k ks with | some j=>some (Mu.set j 0) | none=>some (.add (.dic true (ks++[k])) 0)) | none=>none) else none)=some op:=hh
   by_cases hz:(T.ers ch).length < sizeLine
   case neg=>rw [if_neg hz] at hh;cases hh
   case pos=>
    rw [if_pos hz] at hh
    cases ek:keyD k.er with
    | none=>rw [ek] at hh;cases hh
    | some key=>
     rw [ek] at hh;obtain ⟨h1,h2,h3⟩:=ok.1
     have hzl:(ks.zip (ch.map T.val)).length < sizeLine:=by
      rw [Z1I] at hz;simp only [List.length_zip];simp only [Qx] at h1 ⊢;omega
     refine ⟨_,by rw [Z7c ek];exact DPut.k h3 hzl,?_⟩;rw [ZdL h1 h2];dsimp only at hh
     cases ei:idk key ks with
     | none=>
      rw [ei] at hh;cases hh;obtain ⟨x,hx,q⟩:=q;cases hx;refine q _ ⟨by simp at h1 ⊢;omega,Zag h2 (Zdr ei),rfl⟩
     | some j=>
      rw [ei] at hh;cases hh;obtain ⟨x,hx,_,q⟩:=q;cases hx;exact q _ ⟨by simpa using h1,h2,rfl⟩
 | _=>cases hh
def Zft{o i value:Expr}{pos pos':Pos}{fo fi fv:EF}(hu:X.A.units + 1 < cLine)(ho:PE X o (lE R ix fo))(hi:PE X i (lE R ix fi))(hv:PE X value (lE R ix fv))(hs:autoParam (swapsWith value (some (.Subscript o i pos')) pos.line X.env=pure false) uA._auto_1) :
  PS X (.Assign [.Subscript o i pos'] value pos) (lS R ix (sE (eMu 1 hPutD (Z0 fv (Z0 fo (Z0 fi Z1)))))):=psM (Zfh hu ho hi hv hs) fun D σ H h=>by
 have h1:=lA_3 (lA_mu σ H (fun _ H1=>D.nx σ H1) (lS_e D σ H h));refine Zd (fun v H1 q=>Zd (fun x H2 q=>Zd (fun y H3 q=>?_) q) q) h1;obtain ⟨l,ok,hvl,a,kd,ch,op,hl,hm,hh,qq⟩:=q
 obtain ⟨tv,r,rfl,e1⟩:∃ t r,l=t::r/\r.map T.val=[x,y]:=by
  cases l with
  | nil=>cases hvl
  | cons t r=>exact ⟨t,r,rfl,(Js.inj hvl).2⟩
 obtain ⟨td,tk,rfl,rfl,rfl⟩:=map2 e1;cases (Js.inj hvl).1;cases hl;obtain ⟨H4,p1,p2⟩:=Zc5 (Q:=fun H1=>D.nx σ H1) (v:=tv) (k:=tk) ok.2.2.1 rfl ok.2.1 hh (by cases op <;> exact qq)
 exact ⟨a,H4,rfl,p1,p2⟩
abbrev Z2d:D->Bool
 | .nd (.lst _) _=>true | _=>false
abbrev hApp:List D->Option Mu
 | [.nd (.lst true) l,_]=>if l.length < sizeLine then some (.add (.lst true) 1) else none
 | _=>none
def Z7o{o e:Expr}{apos cpos:Pos}{fo fe:EF}(ho:PE X o (lE R ix fo))(he:PE X e (lE R ix fe))(hbase:autoParam (attributeBase o "append" X.env (eval o X.env)=eval o X.env) uA._auto_1)
  (hfew:autoParam (((backTo cpos (starEach [e] X.env)).all (fun x=>!x.1) && (backToKw cpos (keywordEach [] X.env)).all (fun x=>x.1.isSome) && decide ([e].length + ([]:List Keyword).length + (if ([]:List Keyword).isEmpty then 0 else 1) < 30))=true) uA._auto_1)
  (hline:autoParam ((apos.endLine == cpos.line)=true) uA._auto_1) (hs:autoParam (starEach [e] X.env=(false,eval e X.env)::starEach [] X.env) uA._auto_1) (hplain:autoParam ((backTo cpos (starEach [] X.env)).any (·.1)=false) uA._auto_1) :
  PE X (.Call (.Attribute o "append" apos) [e] [] cpos) (lE R ix (eMu 0 hApp (Z0 (Zr Z2d fo) (Z0 fe Z1)))):=
 peM (pe_bm PySem.F.plainAttrs_list PySem.F.slot_list_append PySem.F.type_list_append Z3Z ho (Zg he ZF hs) hbase hfew hline hs hplain) fun σ H Q q=>by
  have q1:=Z1e (lA_mu σ H Q q);refine Zd (fun x H1 q=>?_) (Z2Q q1);obtain ⟨⟨t0,rfl,t2,t3⟩,q⟩:=q
  obtain ⟨a,k,ch,rfl,hD⟩:∃ a m ch,t0=.nd a (.lst m) ch/\SqL X.K H1 a (ch.map T.val):=by
   cases t0 with
   | «at» v=>cases t3
   | nd a k ch=>cases k with
    | lst m=>exact ⟨a,m,ch,rfl,t2.1.sqL⟩
    | _=>cases t3
  refine ⟨.inl ⟨rfl,_,hD⟩,Zd (fun y H2 q=>?_) q⟩;obtain ⟨l,ok,hvl,a',kd,ch',op,hl,hm,hh,q⟩:=q;obtain ⟨tl,te,rfl,e1,rfl⟩:=map2 hvl;cases hl;cases e1;simp only [T.ers,T.er] at hh
  cases kd with
  | lst m=>
   cases m with
   | false=>cases hh
   | true=>
    by_cases hz:(T.ers ch').length < sizeLine
    case neg=>cases (if_neg hz).symm.trans hh
    case pos=>
     cases (if_pos hz).symm.trans hh;obtain ⟨x,hx,q⟩:=q;cases hx;exact ⟨a,ch'.map T.val,te.val,rfl,rfl,ok.1.1,by rw [Z1I] at hz;simpa using hz,q _ rfl⟩
  | _=>cases hh
end
end
mutual
def ZW{X:Cx}{R:RC}{ix:List Nat}{a b:Expr}{op:CmpOp}{pos:Pos}{h:List D->Option D}{fa fb:EF}(ho:OpR X (compareOp op) (oNw h))(ha:PE X a (lE R ix fa))(hb:PE X b (lE R ix fb))(hm:behindInMarks op b=false):PT X (.Compare a [op] [b] pos) (lT R ix (bV (eNw h (Z0 fa (Z0 fb Z1))))):=
 ptM (Z2W ho ha hb hm) fun σ H Q q=>Z1e (Z0P σ H _ (lT_v σ H Q q))
def Z7R{X:Cx}{R:RC}{ix:List Nat}{a b:Expr}{op:CmpOp}{pos:Pos}{fe:EF}(h:PC X op a b (lE R ix fe))(h1:autoParam (behindInMarks op b=false) uE._auto_1):PT X (.Compare a [op] [b] pos) (lT R ix (bV fe)):=
 ptM (Zh3 h h1) fun σ H Q q=>lT_v σ H Q q
abbrev selF(C:Addr)(f:Str):D->Option Nat
 | .nd (.ins true C' ns) l=>if C'=C/\l.length < 1000 then idx f ns else none
 | _=>none
abbrev selI(i:Int):D->Option Nat
 | .nd (.lst true) l=>if 0<=i/\i < l.length then some i.toNat else none
 | _=>none
end
section
mutual
variable {X:Cx}{R:RC}{ix:List Nat}{hd:List (Nat×Addr)}{H H':Hp}{σ:L2.St}{K:Qa}{ts:Ts}{fr:List T}
def Zgn:InOp X .Add (ipI fun i j=>i + j):=fun pins s σ H x y u v Q I rx ry q=>Zgp pins s σ H x y u v Q I rx ry q
def Cf.fill{p:Addr}{kd kd':NK}{l l' m:List T}{x:List Addr}{o:HO}(C:Cf R ix hd H σ ts (.nd p kd l::(m++fr)))(hm:kd.mut=true)(hm':kd'.mut=true)(ho:NodeOk (upd H p o) p kd' (l'.map T.val))(hl:∀ t∈l',t.ok H)(hown:(T.owns l++T.owns m).Perm (T.owns l'++x))(hro:∀ a∈T.ros l',a∈T.ros l\/a∈T.ros m):Cf R ix hd (upd H p o) σ ts (.nd p kd' l'::fr):=by
 have eo:T.owns (.nd p kd l::(m++fr))=p::(T.owns l++(T.owns m++T.owns fr)):=by rw [T.owns_cons,T.own,hm,T.owns_app];simp
 have er:T.ros (.nd p kd l::(m++fr))=T.ros l++(T.ros m++T.ros fr):=by rw [T.ros_cons,T.ro,hm,T.ros_app];simp
 have eo':T.owns (.nd p kd' l'::fr)=p::(T.owns l'++T.owns fr):=by rw [T.owns_cons,T.own,hm'];simp
 have er':T.ros (.nd p kd' l'::fr)=T.ros l'++T.ros fr:=by rw [T.ros_cons,T.ro,hm'];simp
 have nd:=C.nd;rw [eo] at nd
 have pm:(Ze ts++p::(T.owns l++(T.owns m++T.owns fr))).Perm ((Ze ts++p::(T.owns l'++T.owns fr))++x):=by
  refine Qw.mpr fun b=>?_;have:=Qw.mp hown b;simp only [Jk,List.count_cons] at this ⊢;omega
 have nd2:=Qm.mp (pm.nodup_iff.mp nd);have n1:=Qm.mp nd;have n2:=Jx.mp n1.2.1;have pS:p∉Ze ts:=fun z=>n1.2.2 p z p Qs rfl
 have pro:∀ a,a∈roS ts\/a∈T.ros l++(T.ros m++T.ros fr)->a≠p:=fun a z e=>by
  have:=(C.sep a (by rw [er];exact z)).2.1;rw [eo,e] at this;exact this Qs
 have prd:∀ a,a∈rdS ts->a≠p:=fun a z e=>by
  have:=(C.rd a z).2;rw [eo,e] at this;exact this Qs
 have sub:∀ a,a∈p::(T.owns l'++T.owns fr)->a∈p::(T.owns l++(T.owns m++T.owns fr)):=fun a z=>by
  rcases Jb.mp z with rfl | z
  .exact Qs
  .refine Qt _ ?_
   rcases Qf.mp z with z | z
   .have:=hown.mem_iff.mpr (Qh x z)
    simp only [Qf] at this ⊢;rcases this with z | z <;> simp [z]
   .simp [z]
 have fok:=C.fok;have ffr:=(T.oks_app.mp fok.2).2;refine ⟨fun w t z=>T.keep (C.ok w t z) fun a q=>Zb ?_,⟨⟨ho,T.oks_iff.mpr fun t ht=>T.keep (hl t ht) fun a q=>Zb ?_⟩,T.keeps ffr fun a q=>Zb ?_⟩,?_,fun a z=>?_,fun a z=>?_,fun a z=>?_,C.bg,C.bor,C.ixs,C.sl,C.hdi,C.hdx,C.len,C.hdn⟩
 .rintro rfl
  rcases q with q | q
  .cases w with
   | true=>exact pS (Z1f.mpr ⟨t,z,q⟩)
   | false=>exact prd a (Z3y.mpr ⟨t,z,q⟩) rfl
  .exact pro a (.inl (Z1p.mpr ⟨w,t,z,q⟩)) rfl
 .rintro rfl
  rcases q with q | q
  .have:=hown.mem_iff.mpr (Qh x (T.mem_owns.mpr ⟨t,ht,q⟩))
   apply n2.1;simp only [Qf] at this ⊢;rcases this with z | z <;> simp [z]
  .refine pro a (.inr ?_) rfl
   have:=hro a (T.mem_ros.mpr ⟨t,ht,q⟩);simp only [Qf];rcases this with z | z <;> simp [z]
 .rintro rfl
  rcases q with q | q
  .exact n2.1 (by simp [q])
  .exact pro a (.inr (by simp [q])) rfl
 .rw [eo'];exact nd2.1
 .rw [eo']
  rw [er'] at z
  have:a∈roS ts\/a∈T.ros (.nd p kd l::(m++fr)):=by
   rw [er];simp only [Qf] at z ⊢;rcases z with z | z | z
   .exact .inl z
   .rcases hro a z with z | z <;> simp [z]
   .simp [z]
  obtain ⟨s1,s2,s3⟩:=C.sep a this;rw [eo] at s2;exact ⟨s1,fun q=>s2 (sub a q),s3⟩
 .rw [eo']
  obtain ⟨s1,s2⟩:=C.rd a z;rw [eo] at s2;exact ⟨s1,fun q=>s2 (sub a q)⟩
 .rw [eo']
  obtain ⟨g1,g2,g3,g4⟩:=C.g a z;rw [eo] at g4
  have:a≠p:=by rintro rfl;exact g4 Qs
  rw [Zb this];exact ⟨g1,g2,g3,fun q=>g4 (sub a q)⟩
abbrev Z1S:List (EF×EF)->AF
 | []=>Z1
 | (k,v)::r=>Z0 k (Z0 v (Z1S r))
abbrev kvD:List D->Option (List Key×List D)
 | []=>some ([],[])
 | k::v::r=>(match keyD k,kvD r with | some k,some (ks,vs)=>some (k::ks,v::vs) | _,_=>none)
 | [_]=>none
abbrev eDict(fs:List (EF×EF)):EF:=fun s=>match Z1S fs s with
 | .ok rs s1=>(match vals rs with
  | some l=>(match kvD l with | some (ks,vs)=>if ks.Nodup/\ks.length<=15 then .ok (.val (.nd (.dic true ks) vs)) s1 else .no | none=>.no)
  | none=>.no)
 | .ex C s1=>.ex C s1
 | .no=>.no
def kvD_t:∀ {ch:List T} {ks:List Key} {vs:List D},kvD (T.ers ch)=some (ks,vs)->∃ cv:List T,T.ers cv=vs/\ks.length=cv.length/\(T.owns ch).Perm (T.owns cv)/\(∀ a,a∈T.ros cv->a∈T.ros ch)/\(∀ t∈cv,t∈ch)/\∃ ps:List (V×V),ps=(ks.zip (cv.map T.val)).map (fun kv=>(kV kv.1,kv.2))/\ch.map T.val=ps.flatMap fun p=>[p.1,p.2]
 | [],ks,vs,h=>by cases h;exact ⟨[],rfl,rfl,.refl _,by simp,by simp,[],rfl,rfl⟩
 | [t],ks,vs,h=>by simp [T.ers,kvD] at h
 | k::v::ch,ks,vs,h=>by
  simp only [T.ers,kvD] at h
  cases e1:keyD k.er with
  | none=>simp [e1] at h
  | some key=>
   cases e2:kvD (T.ers ch) with
   | none=>simp [e1,e2] at h
   | some r=>
    obtain ⟨ks',vs'⟩:=r;simp only [e1,e2,Je.injEq,Prod.mk.injEq] at h;obtain ⟨rfl,rfl⟩:=h;obtain ⟨cv,c1,c2,c3,c4,c5,ps,c6,c7⟩:=kvD_t e2;have hk:=Z7c e1;subst hk;refine ⟨v::cv,by rw [T.ers,c1],by simp [c2],?_,fun a z=>?_,fun t z=>?_,(kV key,v.val)::ps,by rw [c6];rfl,by rw [Qj,Qj,c7];rfl⟩
    .rw [T.owns_cons,T.owns_cons,T.owns_cons,T.own,Jq]
     exact List.Perm.append_left _ c3
    .rw [T.ros_cons] at z
     rw [T.ros_cons,T.ros_cons];simp only [Qf] at z ⊢;rcases z with z | z
     .exact .inr (.inl z)
     .exact .inr (.inr (c4 a z))
    .rcases Jb.mp z with rfl | z
     .simp
     .simp [c5 t z]
def Z9h:∀ {fs:List (EF×EF)} {σ:L2.St} {H:Hp} {Q:List V->Hp->Prop},lA R ix (Z1S fs) σ H Q->Z4C (fs.map fun p=>(lE R ix p.1,lE R ix p.2)) σ H fun ps H1=>Q (ps.flatMap fun p=>[p.1,p.2]) H1
 | [],σ,H,Q,h=>Z5z σ H Q h
 | (k,v)::r,σ,H,Q,h=>by
  have h1:=Z2P σ H Q h;refine Zd (fun x H1 q=>?_) h1;have h2:=Z2P σ H1 _ q;refine Zd (fun y H2 q=>?_) h2;exact Z9h (fs:=r) q
def Z6u:∀ {trs:List (TE×TE)} {σ:L2.St} {H:Hp} {Q Q':List (V×V)->Hp->Prop},(∀ p∈trs,∀ σ H (Q Q':VK),(∀ v H,Q v H->Q' v H)->(p.1 σ H Q->p.1 σ H Q')/\(p.2 σ H Q->p.2 σ H Q'))->(∀ ps H,Q ps H->Q' ps H)->Z4C trs σ H Q->Z4C trs σ H Q'
 | [],_,_,_,_,_,m,h=>m _ _ h
 | (tk,tv)::r,σ,H,Q,Q',hm,m,h=>((hm (tk,tv) Qs σ H _ _ fun x H1 q=>((hm (tk,tv) Qs σ H1 _ _ fun y H2 q=>Z6u (fun p hp=>hm p (Qt _ hp)) (fun ps H3 z=>m _ _ z) q).2 q)).1 h)
def Z8k:∀ {ks:List Key} {vs:List V} {acc:List (Key×V)},(acc.map (·.1)++ks).Nodup->ks.length=vs.length->Z2y acc (ks.zip vs)=acc++ks.zip vs
 | [],_,acc,_,_=>by simp [Z2y]
 | k::ks,[],acc,_,h=>by simp at h
 | k::ks,v::vs,acc,hn,h=>by
  have hnew:valV acc k=none:=by
   have hk:k∉acc.map (·.1):=fun z=>(Qm.mp hn).2.2 k z k Qs rfl
   cases e:valV acc k with
   | none=>rfl
   | some u=>exact absurd (ZfR e) hk
  show Z2y (putK acc k v) (ks.zip vs)=_;rw [Z9n v hnew,Z8k (by simpa using hn) (by simpa using h)];simp
def Zfl{pos:Pos}{keys:List (Option Expr)}{values:List Expr}{fs:List (EF×EF)}(h:PPs X pos keys values (fs.map fun p=>(lE R ix p.1,lE R ix p.2)))(hall:keys.all (·.isSome)=true)(hl:keys.length=values.length)(h0:keys≠[])(h15:keys.length<=15):PE X (.Dict keys values pos) (lE R ix (eDict fs)):=
 peM (Zf6 h hall hl h0 h15) fun σ H Q q=>by
  obtain ⟨hd,ts,fr,C,q⟩:=q;intro p hp;have C1:Cf R ix hd (upd H p (.dK [])) σ ts (T.nd p (.dic true []) []::fr):=Cf.wrap (ch:=[]) C hp ⟨rfl,Ng,Zj⟩
  have key:lA R ix (Z1S fs) σ (upd H p (.dK [])) fun vs H2=>∀ ps:List (V×V),(ps.flatMap fun p=>[p.1,p.2])=vs->H2 p=some (.dK [])/\∃ kvs:List (Key×V),ps=kvs.map (fun kv=>(kV kv.1,kv.2))/\kvs.length<=15/\Q (.ref p) (upd H2 p (.dK (Z2y [] kvs))):=by
   refine ⟨hd,ts,_,C1,?_⟩;unfold eDict at q
   cases ef:Z1S fs (ts.map TL.er) with
   | no=>rw [ef] at q;exact q
   | ex E s1=>rw [ef] at q;intro H1 ts1 e1 C2;exact q H1 ts1 e1 C2.drop
   | ok rs s1=>
    rw [ef] at q;intro H2 ts1 tvs vs e1 e2 hv C2 ps hps;subst e1 e2;dsimp only at q
    cases ev:vals (tvs.map TV.er) with
    | none=>rw [ev] at q;exact q.elim
    | some l=>
     rw [ev] at q;obtain ⟨ch,c1,c2,c3⟩:=Z9F ev hv;subst c2;rw [c1] at C2;dsimp only at q
     cases ek:kvD (T.ers ch) with
     | none=>rw [ek] at q;exact q.elim
     | some r=>
      obtain ⟨ks,ds⟩:=r;rw [ek] at q;dsimp only at q;by_cases hz:ks.Nodup/\ks.length<=15
      case neg=>rw [if_neg hz] at q;exact q.elim
      rw [if_pos hz] at q;obtain ⟨cv,d1,d2,d3,d4,d5,ps',d6,d7⟩:=kvD_t ek;subst d1
      have hps':ps=ps':=by
       have:(ps.flatMap fun p=>[p.1,p.2])=ps'.flatMap fun p=>[p.1,p.2]:=by rw [hps,<- c3,d7]
       clear hps d7 d6
       induction ps generalizing ps' with
       | nil=>cases ps' with
        | nil=>rfl
        | cons=>simp at this
       | cons x r ih=>cases ps' with
        | nil=>simp at this
        | cons y r'=>
         simp only [We,Jm,Jq,Js.injEq] at this;rw [ih r' this.2.2,show x=y from Prod.ext this.1 this.2.1]
      subst hps';have okd:=(T.oks_app.mp C2.fok).2.1;have hpH:H2 p=some (.dK []):=okd.1.2.2;refine ⟨hpH,ks.zip (cv.map T.val),d6,by simp [d2];omega,?_⟩;have hm:=Z8k (acc:=[]) (ks:=ks) (vs:=cv.map T.val) (by simpa using hz.1) (by simpa using d2);rw [hm,Jq];have okc:=(T.oks_app.mp C2.fok).1;refine q _ ts1 (.val (.nd p (.dic true ks) cv)) (.ref p) rfl rfl rfl (Cf.fill (m:=ch) (x:=[]) (Cf.swap C2) rfl rfl ⟨by simpa using d2,hz.1,Zj⟩ (fun t ht=>T.oks_iff.mp okc t (d5 t ht)) ?_ fun a z=>.inr (d4 a z));simpa [T.owns] using d3
  have kk:=Z9h key;refine Z6u (fun p hp σ H Q Q' m=>?_) (fun ps H2 z=>z ps rfl) kk;obtain ⟨x,_,rfl⟩:=Wa.mp hp;exact ⟨fun h=>Zd m h,fun h=>Zd m h⟩
end
end
section
mutual
variable {X:Cx}{R:RC}{ix:List Nat}{hd:List (Nat×Addr)}{H H':Hp}{σ:L2.St}{K:Qa}{ts:Ts}{fr:List T}
abbrev Z33(j:Nat)(s:Sd):Sd:=(s.map (Z0j j)).set j .non
def Cf.Z33{i j:Nat}(C:Cf R ix hd H σ ts fr)(hix:ix[i]?=some j):Cf R ix hd H σ ((ts.map (Zf j)).set j .non) fr:=by
 have hj:j < ts.length:=C.ixs j (Qg hix);obtain ⟨y0,hy0⟩:∃ y0,ts[j]?=some y0:=⟨ts[j],Qk hj⟩;have hy0':(ts.map (Zf j))[j]?=some (Zf j y0):=by rw [Qc,hy0];rfl
 obtain ⟨x1,z1,o1,o2⟩:=Z1o (f:=TL.own1) hy0';obtain ⟨x2,z2,r1,r2⟩:=Z1o (f:=TL.ro1) hy0';obtain ⟨x3,z3,d1,d2⟩:=Z1o (f:=TL.rd1) hy0';rw [Z2t (by intros;rfl)] at o1 r1 d1;have fO:Ze ts=x1++((Zf j y0).own1++z1):=o1;have fR:roS ts=x2++((Zf j y0).ro1++z2):=r1;have fD:rdS ts=x3++((Zf j y0).rd1++z3):=d1;have gO:Ze ((ts.map (Zf j)).set j .non)=x1++z1:=by unfold Ze;rw [o2];rfl
 have gR:roS ((ts.map (Zf j)).set j .non)=x2++z2:=by unfold roS;rw [r2];rfl
 have gD:rdS ((ts.map (Zf j)).set j .non)=x3++z3:=by unfold rdS;rw [d2];rfl
 have s1:∀ a,a∈x1++z1->a∈Ze ts:=fun a z=>by rw [fO];simp only [Qf] at z ⊢;rcases z with z | z <;> simp [z]
 have s2:∀ a,a∈x2++z2->a∈roS ts:=fun a z=>by rw [fR];simp only [Qf] at z ⊢;rcases z with z | z <;> simp [z]
 have s3:∀ a,a∈x3++z3->a∈rdS ts:=fun a z=>by rw [fD];simp only [Qf] at z ⊢;rcases z with z | z <;> simp [z]
 have slot:∀ (j':Nat) (s:TL),((ts.map (Zf j)).set j .non)[j']?=some s->(j'=j/\s=.non)\/(j'≠j/\∃ s0,ts[j']?=some s0/\s=Zf j s0):=by
  intro j' s hs;rw [Qp] at hs;by_cases h:j=j'
  .subst h
   rw [if_pos rfl,if_pos (by simpa using hj)] at hs;cases hs;exact .inl ⟨rfl,rfl⟩
  .rw [if_neg h,Qc] at hs
   cases e:ts[j']? with
   | none=>rw [e] at hs;cases hs
   | some s0=>rw [e] at hs;cases hs;exact .inr ⟨Ne.symm h,s0,rfl,rfl⟩
 have vv:∀ (j':Nat) (s:TL) (v:V),((ts.map (Zf j)).set j .non)[j']?=some s->s.v=some v->∃ s0,ts[j']?=some s0/\s0.v=some v:=by
  intro j' s v hs hv;rcases slot j' s hs with ⟨rfl,rfl⟩ | ⟨_,s0,h0,rfl⟩
  .cases hv
  .refine ⟨s0,h0,?_⟩
   rcases Z06 (j:=j) s0 with ⟨e',_⟩ | ⟨e',_⟩
   .rwa [e'] at hv
   .rw [e'] at hv;cases hv
 have lenS:((ts.map (Zf j)).set j TL.non).length=ts.length:=by simp
 refine ⟨fun w u hu=>?_,C.fok,?_,fun b z=>?_,fun b z=>?_,fun b z=>?_,C.bg,fun j' k q b hj'=>?_,fun j' hj'=>by rw [lenS];exact C.ixs j' hj',fun i' j' s u h1 h2 h3=>?_,fun j' b hb=>by rw [lenS];exact C.hdi j' b hb,C.hdx,C.len,fun j' b hb s u h2 h3=>?_⟩
 .obtain ⟨j',hj'⟩:=Jg.mp hu
  rcases slot j' _ hj' with ⟨rfl,e⟩ | ⟨_,s0,h0,e⟩
  .cases e
  .rcases Z06 (j:=j) s0 with ⟨e',_⟩ | ⟨e',_⟩
   .rw [e'] at e;subst e;exact C.ok w u (Qg h0)
   .rw [e'] at e;cases e
 .rw [gO]
  have nd:=C.nd;rw [fO] at nd
  have pm:((x1++((Zf j y0).own1++z1))++T.owns fr).Perm ((x1++z1++T.owns fr)++(Zf j y0).own1):=by
   refine Qw.mpr fun b=>?_;simp only [Jk];omega
  exact (Qm.mp (pm.nodup_iff.mp nd)).1
 .rw [gO]
  obtain ⟨q1,q2,q3⟩:=C.sep b (z.imp (fun z=>s2 b (by rwa [gR] at z)) id);exact ⟨fun q=>q1 (s1 b q),q2,q3⟩
 .rw [gO]
  rw [gD] at z;obtain ⟨q1,q2⟩:=C.rd b (s3 b z);exact ⟨fun q=>q1 (s1 b q),q2⟩
 .rw [gO]
  obtain ⟨g1,g2,g3,g4⟩:=C.g b z;exact ⟨g1,g2,fun q=>g3 (s1 b q),g4⟩
 .rcases slot j' _ hj' with ⟨rfl,e⟩ | ⟨_,s0,h0,e⟩
  .cases e
  .rcases Z06 (j:=j) s0 with ⟨e',hne⟩ | ⟨e',_⟩
   .rw [e'] at e
    subst e;obtain ⟨w,u,s,q1,q2,q3⟩:=C.bor j' k q b h0;have hk:k≠j:=fun z=>hne q b (by rw [z]);exact ⟨w,u,s,by rw [Qp,if_neg (Ne.symm hk),Qc,q1];rfl,q2,q3⟩
   .rw [e'] at e;cases e
 .obtain ⟨s0,q1,q2⟩:=vv j' s u h2 h3
  exact C.sl i' j' s0 u h1 q1 q2
 .obtain ⟨s0,q1,q2⟩:=vv j' s u h2 h3
  exact C.hdn j' b hb s0 u q1 q2
abbrev Z1L(js:List Nat)(s:Sd):Sd:=js.foldl (fun s j=>Z33 j s) s
def Cf.Z1L{js:List Nat}:∀ {ts:Ts},(∀ j∈js,j∈ix)->Cf R ix hd H σ ts fr->∃ ts',ts'.map TL.er=RM.Z1L js (ts.map TL.er)/\Cf R ix hd H σ ts' fr:=by
 induction js with
 | nil=>intro ts _ C;exact ⟨ts,rfl,C⟩
 | cons j js ih=>
  intro ts h C;obtain ⟨i,hi⟩:=Jg.mp (h j Qs);obtain ⟨ts',e,C'⟩:=ih (fun x z=>h x (Qt _ z)) (C.Z33 hi);refine ⟨ts',?_,C'⟩;rw [e];show RM.Z1L js _=RM.Z1L js (RM.Z33 j (ts.map TL.er))
  congr 1
  unfold RM.Z33;rw [Wk,Jl,Jl];exact congrArg (fun l=>List.set l j DL.non) (Wu fun s _=>Z1V s)
abbrev sKill(js:List Nat)(f:SF):SF:=fun s=>match f s with
 | .nx s1=>.nx (Z1L js s1)
 | .ct s1=>.ct (Z1L js s1)
 | .bk s1=>.bk (Z1L js s1)
 | r=>r
def Z2Y{js:List Nat}{sts:List Stmt}{f:SF}(hj:∀ j∈js,j∈ix)(h:PSs X sts (lS R ix f)):PSs X sts (lS R ix (sKill js f)):=pssM h fun D σ H q=>by
 obtain ⟨hd,ts,fr,C,q⟩:=q;refine ⟨hd,ts,fr,C,?_⟩;unfold sKill at q
 cases ef:f (ts.map TL.er) with
 | nx s=>rw [ef] at q;intro H' σ' ts' e C';subst e;obtain ⟨t2,e2,C2⟩:=C'.Z1L hj;exact q H' σ' t2 e2 C2
 | ct s=>rw [ef] at q;intro H' σ' ts' e C';subst e;obtain ⟨t2,e2,C2⟩:=C'.Z1L hj;exact q H' σ' t2 e2 C2
 | bk s=>rw [ef] at q;intro H' σ' ts' e C';subst e;obtain ⟨t2,e2,C2⟩:=C'.Z1L hj;exact q H' σ' t2 e2 C2
 | rt r s=>rw [ef] at q;exact q
 | ex E s=>rw [ef] at q;exact q
 | no=>rw [ef] at q;exact q
abbrev Scr(K:Qa)(k:NK):Prop:=k=.lst false\/k=.kst K
abbrev scD(k:NK)(ns:List Int):D:=.nd k (ns.map fun n=>.at (.int n))
abbrev spLaw(K:Qa):Sp:=fun vs H Q _=>∃ (a:Addr) (ns:List Int),vs=[.ref a]/\SqL K H a (ns.map V.int)/\ns.length<=63/\∀ H',Q (.bl true) H'
def Zci{a:Addr}{ns:List Int}{E:XK}(hl:ns.length<=63)(hS:SqL K H a (ns.map V.int)):spLaw K [.ref a] H (fun v _=>v=.bl true) E:=⟨a,ns,rfl,hS,hl,fun _=>rfl⟩
def ZgJ{ad:Str->Addr}{fn:Fn}(h:∀ k ns,Scr K k->ns.length<=63->∃ ds,fn [scD k ns]=.ok (.val (.at (.bl true))) ds){vs:List V}{Q:VK}{E:XK}(q:spLaw K vs H Q E):spR ad [false] fn vs H Q E:=by
 obtain ⟨a,ns,rfl,hS,hl,q⟩:=q
 have main:∀ k,Scr K k->NodeOk H a k (ns.map V.int)->spR ad [false] fn [.ref a] H Q E:=by
  intro k hk hn;obtain ⟨ds,e⟩:=h k ns hk hl;have vm:(ns.map fun n=>T.at (.int n)).map T.val=ns.map V.int:=by rw [Jl];rfl
  have em:T.ers (ns.map fun n=>T.at (.int n))=ns.map fun n=>D.at (.int n):=by rw [T.ers_eq,Jl];rfl
  refine ⟨[.nd a k (ns.map fun n=>.at (.int n))],fun _=>False,rfl,⟨rfl,⟨⟨by rw [vm];exact hn,T.oks_iff.mpr fun t ht=>?_⟩,trivial⟩,Ng,fun b _=>⟨by simp [Zi,T.owns],fun z=>z⟩,fun b _=>by simp [Zi,T.owns],fun b z=>z.elim⟩,?_⟩
  .obtain ⟨n,_,rfl⟩:=Wa.mp ht;trivial
  .have:T.ers [T.nd a k (ns.map fun n=>.at (.int n))]=[scD k ns]:=by simp only [T.ers,T.er,em,scD]
   rw [this,e];intro H' l' rt v _ e2 hr _
   cases rt with
   | arg _ _ _=>cases e2
   | val t=>
    simp only [RT.er,RV.val.injEq] at e2;have:=Z0O e2 rfl;subst this;cases hr;exact q H'
 rcases hS with hS | hS
 .exact main (.lst false) (.inl rfl) hS
 .exact main (.kst K) (.inr rfl) hS
def DefX.imp{P:Program}{w:World}{mg:Str->Option Value}{base:Heap}{x:Str}{k:Nat}{ps:List Str}{sp sp':Sp}(D:DefX P w K mg base x k ps sp)(h:∀ vs H Q E,sp' vs H Q E->sp vs H Q E):DefX P w K mg base x k ps sp':=by
 obtain ⟨f,fd,G,rest⟩:=D.ex;exact ⟨f,fd,G.imp h,rest⟩
end
end
mutual
mutual
abbrev Z1r:D->Option Dt
 | .at .non=>some .non
 | .at (.bl b)=>some (.bl b)
 | .at (.int i)=>some (.int i)
 | .at (.str x)=>some (.str x)
 | .at _=>none
 | .nd (.lst true) l=>if l.length < sizeLine then (match Z2f l with | some r=>some (.lst r) | none=>none) else none
 | .nd .tup l=>if l.length < sizeLine then (match Z2f l with | some r=>some (.tup r) | none=>none) else none
 | .nd _ _=>none
abbrev Z2f:List D->Option (List Dt)
 | []=>some []
 | d::l=>match Z1r d,Z2f l with | some x,some r=>some (x::r) | _,_=>none
end
mutual
def Z5M{H:Hp}:∀ {t:T} {d:Dt},t.ok H->Z1r t.er=some d->Z0T H d t.val
 | .at v,d,_,h=>by
  cases v <;> simp only [T.er,cl,Z1r,Je.injEq,reduceCtorEq] at h <;> (subst h;rfl)
 | .nd a k l,d,ok,h=>by
  cases k with
  | lst m=>
   cases m with
   | false=>simp [T.er,Z1r] at h
   | true=>
    simp only [T.er,Z1r] at h
    split at h
    case isFalse=>cases h
    case isTrue hz=>
     cases e:Z2f (T.ers l) with
     | none=>rw [e] at h;cases h
     | some r=>
      rw [e] at h;cases h;refine ⟨a,l.map T.val,rfl,ok.1,?_,Z7Q ok.2 e⟩;rw [T.ers_eq,Qx] at hz;simpa using hz
  | tup=>
   simp only [T.er,Z1r] at h
   split at h
   case isFalse=>cases h
   case isTrue hz=>
    cases e:Z2f (T.ers l) with
    | none=>rw [e] at h;cases h
    | some r=>
     rw [e] at h;cases h;refine ⟨a,l.map T.val,rfl,ok.1,?_,Z7Q ok.2 e⟩;rw [T.ers_eq,Qx] at hz;simpa using hz
  | _=>simp [T.er,Z1r] at h
def Z7Q{H:Hp}:∀ {l:List T} {r:List Dt},T.oks H l->Z2f (T.ers l)=some r->Z13 H r (l.map T.val)
 | [],r,_,h=>by simp only [T.ers,Z2f,Je.injEq] at h;subst h;trivial
 | t::l,r,ok,h=>by
  simp only [T.ers,Z2f] at h
  cases e1:Z1r t.er with
  | none=>simp [e1] at h
  | some x=>
   cases e2:Z2f (T.ers l) with
   | none=>simp [e1,e2] at h
   | some r'=>
    simp only [e1,e2,Je.injEq] at h;subst h;exact ⟨Z5M ok.1 e1,Z7Q ok.2 e2⟩
end
open Classical in
abbrev sameF(n:Nat):Fn
 | [a,b]=>match Z1r a,Z1r b with | some d,some d'=>if d'=d/\d.dep<=n then .ok (.val (.at (.bl true))) [a,b] else .no | _,_=>.no
 | _=>.no
def ZdX{ad:Str->Addr}{n:Nat}{vs:List V}{H:Hp}{Q:VK}{E:XK}(h:spR ad [false,false] (sameF n) vs H Q E):∃ (x y:V) (d:Dt),vs=[x,y]/\Z0T H d x/\Z0T H d y/\d.dep<=n/\∀ H',Z11 H H'->Q (.bl true) H':=by
 obtain ⟨l,B,rfl,en,h⟩:=h;have hl:l.length=2:=en.len.symm
 match l,hl,en,h with
 | [t,u],_,en,h=>
  simp only [T.ers,sameF] at h
  cases e1:Z1r t.er with
  | none=>simp only [e1] at h
  | some d=>
   cases e2:Z1r u.er with
   | none=>simp only [e1,e2] at h
   | some d'=>
    simp only [e1,e2] at h;by_cases hd:d'=d/\d.dep<=n
    case neg=>rw [if_neg hd] at h;exact h.elim
    rw [if_pos hd] at h;obtain ⟨rfl,hd⟩:=hd;refine ⟨t.val,u.val,d',rfl,Z5M en.ok.1 e1,Z5M en.ok.2.1 e2,hd,fun H' sm=>?_⟩;refine h H' [t,u] (.val (.at (.bl true))) _ rfl rfl rfl ⟨rfl,rfl,trivial,⟨trivial,trivial⟩,by simp [Zi,T.owns,RT.tr,T.own],fun a z=>?_,fun a z=>?_,fun a hn _=>?_⟩
    .simp [Zi,T.owns,RT.tr,T.own] at z
    .simp [Zi,T.ros,RT.tr,T.ro] at z
    .cases e:H a with
     | none=>exact absurd e hn
     | some o=>exact sm a o e
abbrev sNo:SF:=fun _=>.no
def Zhc{X:Cx}{R:RC}{ix:List Nat}{sts:List Stmt}:PSs X sts (lS R ix sNo):=fun pins s σ H D I h=>by
 obtain ⟨hd,ts,fr,C,h⟩:=h;exact h.elim
abbrev RPs(R:RC)(ix:List Nat)(X:Cx)(pos:Pos)(keys:List (Option Expr))(values:List Expr)(fs:List (EF×EF)):Prop:=PPs X pos keys values (fs.map fun p=>(lE R ix p.1,lE R ix p.2))
end
section
mutual
variable {R:RC}{ix:List Nat}{X:Cx}{pos:Pos}
def Zfr:RPs R ix X pos [] [] []:=Zff
def Z6J{k v:Expr}{ks:List (Option Expr)}{vs:List Expr}{fk fv:EF}{fs:List (EF×EF)}(hk:PE X k (lE R ix fk))(hv:PE X v (lE R ix fv))(hr:RPs R ix X pos ks vs fs):RPs R ix X pos (some k::ks) (v::vs) ((fk,fv)::fs):=ZdJ hk hv hr
def ZdP{k:Option Expr}{keys:List (Option Expr)}{values:List Expr}{fs:List (EF×EF)}(h:RPs R ix X pos (k::keys) values fs)(hall:autoParam ((k::keys).all (·.isSome)=true) uA._auto_1)(hl:autoParam ((k::keys).length=values.length) uA._auto_1)(h15:autoParam ((k::keys).length<=15) uB._auto_1):PE X (.Dict (k::keys) values pos) (lE R ix (eDict fs)):=Zfl h hall hl (by simp) h15
end
end
section
mutual
variable {s:Sd}{f g:SF}{e e':EF}{c d:BF}{a b:AF}{v:V}{j k:Nat}{p:List Nat}
def Zge:Zc f g s=(match f s with | .nx s1=>g s1 | r=>r):=id rfl
def ev_if:sIf c f g s=(match c s with | .ok true s1=>f s1 | .ok false s1=>g s1 | .ex C s1=>.ex C s1 | .no=>.no):=id rfl
def Zet{fs:List (EF×EF)}:eDict fs s=(match Z1S fs s with
 | .ok rs s1=>(match vals rs with
  | some l=>(match kvD l with | some (ks,vs)=>if ks.Nodup/\ks.length<=15 then .ok (.val (.nd (.dic true ks) vs)) s1 else .no | none=>.no)
  | none=>.no)
 | .ex C s1=>.ex C s1
 | .no=>.no):=id rfl
def Zev{w:Sd->DV->Option Sd}:Z2D a w f s=(match a s with
 | .ok [.val (.at (.int j))] s1=>if -(2 ^ 62)<=j/\j < 2 ^ 62 then ZZ (itR 0 j.toNat) w f (j.toNat + 1) 0 s1 else .no
 | .ok [.val (.at (.int i)),.val (.at (.int j))] s1=>if -(2 ^ 62)<=i/\i < 2 ^ 62/\-(2 ^ 62)<=j/\j < 2 ^ 62 then ZZ (itR i (j - i).toNat) w f ((j - i).toNat + 1) 0 s1 else .no
 | .ok _ _=>.no
 | .ex C s1=>.ex C s1
 | .no=>.no):=id rfl
def Zeu{w:Sd->DV->Option Sd}:sForL e w f s=(match e s with
 | .ok (.plc k p) s1=>(match seqOf (Zt s1 (.plc k p)) with
  | some (t,m)=>fin s1.length (ZZ (itP t s1.length k p) w f (m + 1) 0 (s1++[.bor k p]))
  | none=>.no)
 | .ok (.val d) s1=>(match seqOf (some d) with
  | some (t,m)=>fin s1.length (ZZ (itP t s1.length s1.length []) w f (m + 1) 0 (s1++[.own true d]))
  | none=>.no)
 | .ex C s1=>.ex C s1
 | .no=>.no):=id rfl
end
end
mutual
def Zgw{k:Nat}{p:List Nat}{kp:Nat->Bool}{w:Bool}{d:D}:killD k p kp (.own w d)=.own w d:=rfl
def Zgv{k:Nat}{p:List Nat}{kp:Nat->Bool}:killD k p kp .non=.non:=rfl
def Zgu{k:Nat}{p:List Nat}{kp:Nat->Bool}{k':Nat}{q:List Nat}:killD k p kp (.bor k' q)=if decide (k'=k) && (match RM.sub p q with | some i=>!kp i | none=>false) then .non else .bor k' q:=rfl
def Zct{j:Nat}{w:Bool}{d:D}:Z0j j (.own w d)=.own w d:=rfl
def Zcs{j:Nat}:Z0j j .non=.non:=rfl
def Zhn{j k:Nat}{q:List Nat}:Z0j j (.bor k q)=if k=j then .non else .bor k q:=rfl
def Zhj:RM.sub [] []=none:=rfl
def Zhi{i:Nat}{q:List Nat}:RM.sub [] (i::q)=some i:=rfl
def sub_cn{i:Nat}{q:List Nat}:RM.sub (i::q) []=none:=rfl
def Zhh{x y:Nat}{p q:List Nat}:RM.sub (x::p) (y::q)=if x=y then RM.sub p q else none:=rfl
def Z68{it:Nat->Sd->Option (Option DV)}{b:Sd->DV->Option Sd}{body:SF}{P:Nat->Sd->Prop}{n:Nat}
  (hs:∀ i s,i < n->P i s->∃ r s1 s2,it i s=some (some r)/\b s r=some s1/\(body s1=.nx s2\/body s1=.ct s2)/\P (i + 1) s2) (he:∀ s,P n s->it n s=some none) :
  ∀ m i s,i + m=n->P i s->∃ s',ZZ it b body (m + 1) i s=.nx s'/\P n s'
 | 0,i,s,hi,h=>by
  have:i=n:=by omega
  subst this;exact ⟨s,by simp only [ZZ,he s h],h⟩
 | m + 1,i,s,hi,h=>by
  obtain ⟨r,s1,s2,h1,h2,h3,h4⟩:=hs i s (by omega) h;obtain ⟨s',h5,h6⟩:=Z68 hs he m (i + 1) s2 (by omega) h4;refine ⟨s',?_,h6⟩;rw [<- h5,ZZ,h1];dsimp only;rw [h2];dsimp only;rcases h3 with h3 | h3 <;> rw [h3]
def Z2S{lo:Int}{n:Nat}{b:Sd->DV->Option Sd}{body:SF}{s:Sd}(P:Nat->Sd->Prop)(h0:P 0 s)
  (hs:∀ (i:Nat) s,i < n->P i s->∃ s1 s2,b s (.val (.at (.int (lo + i))))=some s1/\(body s1=.nx s2\/body s1=.ct s2)/\P (i + 1) s2) :
  ∃ s',ZZ (itR lo n) b body (n + 1) 0 s=.nx s'/\P n s':=
 Z68 (P:=P) (fun i s hi h=>by
  obtain ⟨s1,s2,h1,h2,h3⟩:=hs i s hi h;exact ⟨_,s1,s2,by unfold itR;rw [if_pos hi],h1,h2,h3⟩) (fun s h=>by unfold itR;rw [if_neg (Jv _)]) n 0 s (by omega) h0
def Zdz{t:Bool}{n k:Nat}{p:List Nat}{l:List D}{kd:NK}{b:Sd->DV->Option Sd}{body:SF}{s:Sd}(hk:t=false/\(∃ m,kd=.lst m)\/t=true/\kd=.tup)(P:Nat->Sd->Prop)(h0:P 0 s)
  (hh:∀ i s,P i s->held n k p s=true/\Zt s (.plc k p)=some (.nd kd l))
  (hs:∀ (i:Nat) s c,l[i]?=some c->P i s->∃ s1 s2,b s (mkV k (p++[i]) c)=some s1/\(body s1=.nx s2\/body s1=.ct s2)/\P (i + 1) s2) :
  ∃ s',ZZ (itP t n k p) b body (l.length + 1) 0 s=.nx s'/\P l.length s':=by
 have it:∀ i s,P i s->itP t n k p i s=some ((l[i]?).map (mkV k (p++[i]))):=by
  intro i s h;obtain ⟨h1,h2⟩:=hh i s h;unfold itP;rw [h1,h2];rcases hk with ⟨rfl,m,rfl⟩ | ⟨rfl,rfl⟩ <;> rfl
 refine Z68 (P:=P) (fun i s hi h=>?_) (fun s h=>?_) l.length 0 s (by omega) h0
 .obtain ⟨s1,s2,h1,h2,h3⟩:=hs i s l[i] (Qk hi) h
  exact ⟨_,s1,s2,by rw [it i s h,Qk hi];rfl,h1,h2,h3⟩
 .rw [it _ s h,Ww (Qq _)];rfl
abbrev DtN(n:Nat)(a:D):Prop:=∃ d,Z1r a=some d/\d.dep<=n
def Zg6{n:Nat}{i:Int}:DtN (n + 1) (.at (.int i)):=⟨.int i,rfl,by simp [Dt.dep]⟩
def Zg8{n:Nat}{i:Str}:DtN (n + 1) (.at (.str i)):=⟨.str i,rfl,by simp [Dt.dep]⟩
def Za2{n:Nat}:∀ {l:List D},(∀ x∈l,DtN n x)->∃ r,Z2f l=some r/\Dt.deps r<=n
 | [],_=>⟨[],rfl,Ge _⟩
 | x::l,h=>by
  obtain ⟨d,h1,h2⟩:=h x Qs;obtain ⟨r,h3,h4⟩:=Za2 fun y hy=>h y (Qt _ hy);exact ⟨d::r,by rw [Z2f,h1,h3],Nat.max_le.mpr ⟨h2,h4⟩⟩
def Zg7{n:Nat}{l:List D}(hl:l.length < sizeLine)(h:∀ x∈l,DtN n x):DtN (n + 1) (.nd (.lst true) l):=by
 obtain ⟨r,h1,h2⟩:=Za2 h;exact ⟨.lst r,by rw [Z1r,if_pos hl,h1],Nat.succ_le_succ h2⟩
def ZdY{n:Nat}{a:D}(h:DtN n a):sameF n [a,a]=.ok (.val (.at (.bl true))) [a,a]:=by
 obtain ⟨d,h1,h2⟩:=h;simp only [sameF,h1];exact if_pos ⟨trivial,h2⟩
def ixN_0{n:Nat}(h:0 < n):ixN n 0=some 0:=by unfold ixN;rw [if_pos (by omega),if_pos (by omega)];rfl
def ixN_1{n:Nat}(h:1 < n):ixN n 1=some 1:=by unfold ixN;rw [if_pos (by omega),if_pos (by omega)];rfl
def ixN_2{n:Nat}(h:2 < n):ixN n 2=some 2:=by unfold ixN;rw [if_pos (by omega),if_pos (by omega)];rfl
def ixN_3{n:Nat}(h:3 < n):ixN n 3=some 3:=by unfold ixN;rw [if_pos (by omega),if_pos (by omega)];rfl
end
section
mutual
variable {K:Qa}
def Zdo{x:Str}:hLen K [.at (.str x)]=if x.length<=sizeLine then some (.at (.int x.length)) else none:=rfl
def Zdn{m:Bool}{l:List D}:hLen K [.nd (.lst m) l]=some (.at (.int l.length)):=rfl
def Zdp{l:List D}:hLen K [.nd .tup l]=some (.at (.int l.length)):=rfl
def Zdl{m:Bool}{ks:List Key}{l:List D}:hLen K [.nd (.dic m ks) l]=some (.at (.int l.length)):=rfl
def Zdm{l:List D}:hLen K [.nd (.kst K) l]=some (.at (.int l.length)):=if_pos rfl
def ZeD{m:Bool}{l:List D}{i:Int}:hIx K [.nd (.lst m) l,.at (.int i)]=(ixN l.length i).map .ch:=rfl
def ZeF{l:List D}{i:Int}:hIx K [.nd .tup l,.at (.int i)]=(ixN l.length i).map .ch:=rfl
def ZeC{l:List D}{i:Int}:hIx K [.nd (.kst K) l,.at (.int i)]=(ixN l.length i).map .ch:=if_pos rfl
def ZeE{z:Str}{i:Int}:hIx K [.at (.str z),.at (.int i)]=if z.length<=sizeLine then (atI z.cps.toList i).map fun c=>.cs (.str ⟨#[c]⟩) else none:=rfl
end
end
theorem sz:sizeLine=16777216:=by decide
theorem Z6B{α:Type}{f:α->D}(h:∀ a,(f a).imm=true):∀ l:List α,D.imms (l.map f)=true
 | []=>rfl
 | a::l=>by rw [Qj,D.imms,h,Z6B h l];rfl
section
mutual
variable {X:Cx}{R:RC}{ix:List Nat}{hd:List (Nat×Addr)}{H H':Hp}{σ:L2.St}{ts:Ts}{fr:List T}{e:Expr}{pos:Pos}
abbrev tFmt(te:TE):TE:=fun σ H Q=>te σ H fun v H1=>(∃ i,v=.int i/\i.natAbs.log2 < 1920/\Q (.str (toString i)) H1)\/(∃ x,v=.str x/\x.length<=sizeLine/\Q (.str x) H1)
def Zf7{te:TE}(he:PE X e te):PE X (.FormattedValue e (-1) none pos) (tFmt te):=by
 intro pins s σ H Q I h;refine wpAny_FormattedValue_plain (thn (he pins s σ H _ I h) fun u s1 ⟨v,H1,I1,r1,q⟩=>?_);rcases q with ⟨i,rfl,hz,q⟩ | ⟨x,rfl,hz,q⟩
 .obtain ⟨t,rfl⟩:=(show ∃ t,u=Value.int i t from r1)
  exact wpAny_formatField_int hz ⟨.str (toString i),H1,I1.tok _,⟨_,rfl⟩,q⟩
 .obtain ⟨t,rfl⟩:=(show ∃ t,u=Value.str x t from r1)
  exact wpAny_formatField_str ⟨.str x,H1,I1,⟨_,rfl⟩,q⟩ ⟨.str x,H1,I1.tok _,⟨_,rfl⟩,q⟩ hz
abbrev Z0Y:List D->Option D
 | [.at (.int i)]=>if i.natAbs.log2 < 1920 then some (.at (.str (toString i))) else none
 | [.at (.str x)]=>if x.length<=sizeLine then some (.at (.str x)) else none
 | _=>none
def ers1{l:List T}{a:D}(h:T.ers l=[a]):∃ t,l=[t]/\t.er=a:=by
 rw [T.ers_eq] at h;exact map1 h
def ers2{l:List T}{a b:D}(h:T.ers l=[a,b]):∃ t u,l=[t,u]/\t.er=a/\u.er=b:=by
 rw [T.ers_eq] at h;exact map2 h
def Z2s{f:EF}(he:PE X e (lE R ix f)):PE X (.FormattedValue e (-1) none pos) (lE R ix (eNw Z0Y (Z0 f Z1))):=
 peM (Zf7 he) fun σ H Q q=>Zd (fun x H1 q=>by
  obtain ⟨t,ok,rfl,d,hh,q⟩:=gNw1 q;unfold Z0Y at hh
  split at hh
  case h_1 i e1=>
   simp only [Js.injEq,and_true] at e1
   split at hh
   case isTrue hz=>cases hh;cases Z0O e1 rfl;exact .inl ⟨i,rfl,hz,q (.at (.str (toString i))) H1 rfl (.atom _)⟩
   case isFalse=>cases hh
  case h_2 x e1=>
   simp only [Js.injEq,and_true] at e1
   split at hh
   case isTrue hz=>cases hh;cases Z0O e1 rfl;exact .inr ⟨x,rfl,hz,q (.at (.str x)) H1 rfl (.atom _)⟩
   case isFalse=>cases hh
  case h_3=>cases hh) (lA_1 (Z0P σ H Q q))
abbrev tJoin:List TE->Str->TE
 | [],acc=>fun σ H Q=>acc.length<=sizeLine/\Q (.str acc) H
 | te::r,acc=>fun σ H Q=>te σ H fun v H1=>∃ y,v=.str y/\(acc++y).length<=sizeLine/\tJoin r (acc++y) σ H1 Q
inductive PJ(X:Cx):List Expr->List TE->Prop where
 | nil:PJ X [] []
 | cons {e:Expr} {es:List Expr} {t:TE} {ts:List TE}:PE X e t->PJ X es ts->PJ X (e::es) (t::ts)
def Z98{pins:List (Addr×Obj)}{Q:VK}:∀ {es:List Expr} {tl:List TE} {acc:Str} {s:Shared} {H:Hp},PJ X es tl->Inv X pins σ H s->tJoin tl acc σ H Q ->
  Joins (model X.prog X.w) X.A X.xe (evalEach es X.env) acc (fun out s1=>out.length<=sizeLine/\EP X pins σ Q (.str out s1.toks) { s1 with toks:=s1.toks + 1 }) s
 | _,_,acc,s,H,.nil,I,h=>⟨h.1,.str acc,H,I.tok _,⟨_,rfl⟩,h.2⟩
 | _,_,acc,s,H,.cons he hr,I,h=>by
  show wpAny _ _ (eval _ X.env) _ _ s;refine thn (he pins s σ H _ I h) fun u s1 ⟨v,H1,I1,r1,y,e1,hz,q⟩=>?_;subst e1;obtain ⟨t,rfl⟩:=(show ∃ t,u=Value.str y t from r1);exact ⟨y,t,rfl,hz,Z98 hr I1 q⟩
def Zf9{e1 e2:Expr}{es:List Expr}{tl:List TE}(h:PJ X (e1::e2::es) tl):PE X (.JoinedStr (e1::e2::es) pos) (tJoin tl Str.empty):=fun pins s σ H Q I q=>wpAny_JoinedStr (Z98 h I q)
def ZdQ{f:EF}(he:PE X e (lE R ix f)):PE X (.JoinedStr [e] pos) (lE R ix f):=fun pins s σ H Q I q=>wpAny_JoinedStr_one (he pins s σ H Q I q)
abbrev Z0W:List EF->Str->EF
 | [],acc=>fun s=>if acc.length<=sizeLine then .ok (.val (.at (.str acc))) s else .no
 | f::r,acc=>fun s=>match f s with
  | .ok (.val (.at (.str y))) s1=>if (acc++y).length<=sizeLine then Z0W r (acc++y) s1 else .no
  | .ok _ _=>.no
  | .ex C s1=>.ex C s1
  | .no=>.no
def Zaf(σ:L2.St)(Q:VK):∀ (fs:List EF) (acc:Str) (H:Hp),lE R ix (Z0W fs acc) σ H Q->tJoin (fs.map (lE R ix)) acc σ H Q
 | [],acc,H,q=>by
  obtain ⟨hd,ts,fr,C,q⟩:=q;unfold Z0W at q;by_cases hz:acc.length<=sizeLine
  .rw [if_pos hz] at q
   exact ⟨hz,q H ts (.val (.at (.str acc))) (.str acc) rfl rfl rfl (C.at _)⟩
  .rw [if_neg hz] at q;exact q.elim
 | f::r,acc,H,q=>by
  obtain ⟨hd,ts,fr,C,q⟩:=q;refine ⟨hd,ts,fr,C,?_⟩;unfold Z0W at q
  cases ef:f (ts.map TL.er) with
  | no=>rw [ef] at q;exact q
  | ex E s1=>rw [ef] at q;exact q
  | ok rv s1=>
   rw [ef] at q;intro H1 ts1 tv v e1 e2 hv C1
   cases rv with
   | plc k p=>exact q.elim
   | val d=>
    obtain ⟨t,rfl,e3,rfl⟩:=hv.er_val e2
    cases d with
    | nd k l=>exact q.elim
    | «at» w=>cases w with
     | str y=>
      cases Z0O e3 rfl;dsimp only at q;by_cases hz:(acc++y).length<=sizeLine
      .rw [if_pos hz] at q
       exact ⟨y,rfl,hz,Zaf σ Q r (acc++y) H1 ⟨hd,ts1,fr,C1.drop,by rw [e1];exact q⟩⟩
      .rw [if_neg hz] at q;exact q.elim
     | _=>exact q.elim
def Zfm{e1 e2:Expr}{es:List Expr}{fs:List EF}(h:PJ X (e1::e2::es) (fs.map (lE R ix))):PE X (.JoinedStr (e1::e2::es) pos) (lE R ix (Z0W fs Str.empty)):=peM (Zf9 h) fun σ H Q q=>Zaf σ Q fs Str.empty H q
abbrev RJ(X:Cx)(R:RC)(ix:List Nat)(es:List Expr)(fs:List EF):Prop:=PJ X es (fs.map (lE R ix))
def Z5N:RJ X R ix [] []:=.nil
def Z0y{f:EF}{es:List Expr}{fs:List EF}(h:PE X e (lE R ix f))(hr:RJ X R ix es fs):RJ X R ix (e::es) (f::fs):=.cons h hr
def Z3L{e1 e2:Expr}{es:List Expr}{fs:List EF}(h:RJ X R ix (e1::e2::es) fs):PE X (.JoinedStr (e1::e2::es) pos) (lE R ix (Z0W fs Str.empty)):=Zfm h
abbrev hNeg:List D->Option D
 | [.at (.int i)]=>some (.at (.int (-i)))
 | _=>none
def Zha{a:Expr}{f:EF}(ha:PE X a (lE R ix f)):PE X (.UnaryOp .USub a pos) (lE R ix (eNw hNeg (Z0 f Z1))):=
 peM (pe_un Zhm ha) fun σ H Q q=>Zd (fun x H1 q=>by
  obtain ⟨t,ok,rfl,d,hh,q⟩:=gNw1 q;unfold hNeg at hh
  split at hh
  case h_1 i e1=>
   simp only [Js.injEq,and_true] at e1;cases hh;cases Z0O e1 rfl;exact ⟨i,rfl,q (.at (.int (-i))) H1 rfl (.atom _)⟩
  case h_2=>cases hh) (lA_1 (Z0P σ H Q q))
abbrev hStrI:List D->Option D
 | [.at (.int i)]=>if i.natAbs.log2 < 1920 then some (.at (.str (toString i))) else none
 | _=>none
def Zef:Z0f X (.type "str") (gNw hStrI):=callM Z8S fun vs H Q q=>by
 obtain ⟨l,ok,hv,d,hh,q⟩:=q;unfold hStrI at hh
 split at hh
 case h_1 i e1=>
  obtain ⟨t,rfl,e2⟩:=ers1 e1
  split at hh
  case isTrue hz=>cases hh;cases Z0O e2 rfl;exact ⟨i,hv.symm,hz,q (.at (.str (toString i))) H rfl (.atom _)⟩
  case isFalse=>cases hh
 case h_2=>cases hh
abbrev hMax:List D->Option D
 | [.at (.int i),.at (.int j)]=>some (.at (.int (if j > i then j else i)))
 | _=>none
abbrev hMin:List D->Option D
 | [.at (.int i),.at (.int j)]=>some (.at (.int (if j < i then j else i)))
 | _=>none
def Zb7(hc:X.calm=true):Z0f X (.builtin "min") (gNw hMin):=callM (Zb3 hc) fun vs H Q q=>by
 obtain ⟨l,ok,hv,d,hh,q⟩:=q;unfold hMin at hh
 split at hh
 case h_1 i j e1=>
  obtain ⟨t,u,rfl,e2⟩:=ers2 e1;cases hh;cases Z0O e2.1 rfl;cases Z0O e2.2 rfl;exact ⟨i,j,hv.symm,q (.at (.int (if j < i then j else i))) H rfl (.atom _)⟩
 case h_2=>cases hh
end
end
section
variable {X:Cx}{R:RC}{ix:List Nat}{e:Expr}{st:Stmt}
theorem Z0v:PS X st (lS R ix sNo):=fun pins s σ H D I h=>by
 obtain ⟨hd,ts,fr,C,h⟩:=h;exact h.elim
end
mutual
def Zdc{C C':Addr}{m:Str}{b:Bool}{ns:List Str}{l:List D}:Zu C m (.nd (.ins b C' ns) l)=(decide (C'=C) && !ns.contains m):=rfl
def Zdb{m:Bool}{l:List D}:Z2d (.nd (.lst m) l)=true:=rfl
def Zf0{i:Int}(h:i.natAbs < 2 ^ 64):i.natAbs.log2 < 1920:=by
 by_cases h0:i.natAbs=0
 .rw [h0];decide
 .exact Qv ((Nat.log2_lt h0).mpr h) (by decide)
def ZeZ{i:Int}(h:i.natAbs < 2 ^ 64):(Str.ofString (toString i)).length<=65:=by
 have h1:i.natAbs.log2 < 64:=by
  by_cases h0:i.natAbs=0
  .rw [h0];decide
  .exact (Nat.log2_lt h0).mpr h
 have:=int_text_length_le (k:=64) (by decide) h1;rw [PySem.ofString_length];omega
abbrev bYes:BF:=fun s=>.ok true s
abbrev Z1C(it:Nat->Sd->Option (Option DV))(n:Nat)(c:BF)(e:EF):Nat->Nat->List D->Sd->ER (List D)
 | 0,_,_,_=>.no
 | m + 1,i,acc,s=>match it i s with
  | none=>.no
  | some none=>.ok acc s
  | some (some r)=>match Zm n s r with
   | none=>.no
   | some s1=>match c s1 with
    | .ok true s2=>(match e s2 with
     | .ok (.val d) s3=>if acc.length < sizeLine then Z1C it n c e m (i + 1) (acc++[d]) s3 else .no
     | _=>.no)
    | .ok false s2=>Z1C it n c e m (i + 1) acc s2
    | _=>.no
abbrev Z3G(n:Nat):ER (List D)->ER DV
 | .ok l s=>(match popD n s with | some s1=>.ok (.val (.nd (.lst true) l)) s1 | none=>.no)
 | _=>.no
abbrev compFin2(n:Nat):ER (List D)->ER DV
 | .ok l s=>(match popD (n + 1) s with | some s1=>(match popD n s1 with | some s2=>.ok (.val (.nd (.lst true) l)) s2 | none=>.no) | none=>.no)
 | _=>.no
end
section
mutual
variable {R:RC}{ix:List Nat}{hd:List (Nat×Addr)}{X:Cx}{H H':Hp}{σ:L2.St}{ts:Ts}{fr:List T}
abbrev RC.q(R:RC):RC:={ R with EX:=fun _=>E0 }
def Cf.enter(C:Cf R ix hd H σ ts fr):Cf R.q (ts.length::ix) hd H (none::σ) (ts++[.non]) fr:=by
 have e1:Ze (ts++[.non])=Ze ts:=by rw [Z1x];simp [Ze,TL.own1]
 have e2:roS (ts++[.non])=roS ts:=by rw [Z4r];simp [roS,TL.ro1]
 have e3:rdS (ts++[.non])=rdS ts:=by rw [Z2X];simp [rdS,TL.rd1]
 have old:∀ {j:Nat} {s:TL},(ts++[TL.non])[j]?=some s->s≠.non->ts[j]?=some s:=by
  intro j s h hn;rcases Nat.lt_or_ge j ts.length with hj | hj
  .rwa [Qo hj] at h
  .rw [Jd hj] at h
   have:j - ts.length=0:=by
    have:=(Qd.mp h).1;simp at this;omega
   rw [this] at h;cases h;exact absurd rfl hn
 refine ⟨fun w t z=>?_,C.fok,by rw [e1];exact C.nd,by rw [e1,e2];exact C.sep,by rw [e1,e3];exact C.rd,by rw [e1];exact C.g,C.bg,fun j k p a z=>?_,fun j z=>?_,fun i j s v z1 z2 z3=>?_,fun j a z=>?_,fun j a z=>?_,?_,fun j a z s v z2 z3=>?_⟩
 .rcases Qf.mp z with z | z
  .exact C.ok w t z
  .simp at z
 .exact (C.bor j k p a (old z (by intro q;cases q))).app _
 .rcases Jb.mp z with rfl | z
  .simp
  .simpa using Wd (C.ixs j z)
 .have hs:s≠.non:=by rintro rfl;cases z3
  cases i with
  | zero=>
   simp only [Wh,Je.injEq] at z1;have:=(Qd.mp (old z2 hs)).1;omega
  | succ i=>exact C.sl i j s v (by simpa using z1) (old z2 hs) z3
 .simpa using Wd (C.hdi j a z)
 .intro q
  rcases Jb.mp q with rfl | q
  .exact absurd (C.hdi _ a z) (Jv _)
  .exact C.hdx j a z q
 .simpa using C.len
 .exact C.hdn j a z s v (old z2 (by rintro rfl;cases z3)) z3
def Cf.leave{n:Nat}{y:Option V}(C:Cf R.q (n::ix) hd H (y::σ) ts fr):Cf R ix hd H σ ts fr:=
 ⟨C.ok,C.fok,C.nd,C.sep,C.rd,C.g,C.bg,C.bor,fun j z=>C.ixs j (Qt _ z),fun i j s v z1 z2 z3=>C.sl (i + 1) j s v (by simpa using z1) z2 z3,C.hdi,fun j a z q=>C.hdx j a z (Qt _ q),by simpa using C.len,C.hdn⟩
def Z6y{i j:Nat}{v:V}{tv:TV}{s':Sd}(hix:ix[i]?=some j)(hnd:ix.Nodup)(C:Cf R ix hd H σ ts (tv.tr++fr))(hv:Z08 ts v tv)(hs:Zm j (ts.map TL.er) tv.er=some s'):∃ ts',ts'.map TL.er=s'/\Cf R ix hd H (σ.set i (some v)) ts' fr:=by
 have er1:∀ y:TL,((ts.map (Zf j)).set j y).map TL.er=((ts.map TL.er).map (Z0j j)).set j y.er:=fun y=>by
  rw [Wk,Jl,Jl];exact congrArg (fun l=>List.set l j y.er) (Wu fun s _=>Z1V s)
 cases tv with
 | val t=>
  cases hv;cases hs;exact ⟨_,er1 (.own true t),Cf.slot (y:=.own true t) C hix hnd rfl (.inl ⟨t,rfl,rfl⟩)⟩
 | plc k p a=>
  obtain ⟨rfl,hp⟩:=hv;simp only [TV.er,Zm] at hs;by_cases hk:k=j
  .subst hk
   rw [if_pos rfl] at hs;by_cases hp0:p=[]
   .subst hp0
    rw [if_pos rfl] at hs;cases hs
    have:σ.set i (some (.ref a))=σ:=by
     obtain ⟨w,t,s,h1,h2,h3⟩:=hp;cases h2;have h4:=C.sl i k _ _ hix h1 rfl;rw [h3] at h4;refine Wr fun n=>?_;rw [Qp];by_cases hn:i=n
     .subst hn
      rw [if_pos rfl,if_pos (Qd.mp h4).1,h4]
     .rw [if_neg hn]
    rw [this];exact ⟨ts,rfl,C⟩
   .rw [if_neg hp0] at hs;cases hs
  .rw [if_neg hk] at hs
   cases hs;exact ⟨_,er1 (.bor k p a),Cf.slot (y:=.bor k p a) (m:=[]) C hix hnd rfl (.inr ⟨rfl,k,p,a,rfl,hk,hp⟩)⟩
def Cf.grow{D:Addr}{acc:List T}{t:T}(C:Cf R ix hd H σ ts (t::.nd D (.lst true) acc::fr)):H D=some (.lst (acc.map T.val))/\Cf R ix hd (upd H D (.lst ((acc++[t]).map T.val))) σ ts (.nd D (.lst true) (acc++[t])::fr):=by
 have hok:=C.fok;refine ⟨hok.2.1.1,?_⟩
 have C2:Cf R ix hd H σ ts (.nd D (.lst true) acc::([t]++fr)):=C.less (x:=[]) ⟨hok.2.1,hok.1,hok.2.2⟩ (by
  simp only [T.owns_cons,Jo,Gm];rw [<- Qn,<- Qn]
  exact List.Perm.append_right _ Wf) fun a z=>.inl (by
  simp only [T.ros_cons,Gm,Qf] at z ⊢;rcases z with z | z | z <;> simp [z])
 refine Cf.fill (kd:=.lst true) (kd':=.lst true) (l:=acc) (l':=acc++[t]) (m:=[t]) (x:=[]) C2 rfl rfl (by show upd H D _ D=_;exact Zj) (fun u hu=>?_) (by rw [T.owns_app,Jo]) (fun a z=>by rw [T.ros_app] at z;exact Qf.mp z);rcases Qf.mp hu with hu | hu
 .exact T.oks_iff.mp hok.2.1.2 u hu
 .rw [Jj.mp hu];exact hok.1
abbrev PostC(R:RC)(ix:List Nat)(hd:List (Nat×Addr))(fr:List T)(σ:L2.St)(D:Addr)(Q:Hp->Prop):ER (List RM.D)->Prop
 | .ok l s=>∀ H' y ts' acc,ts'.map TL.er=s->T.ers acc=l->Cf R ix hd H' (y::σ) ts' (.nd D (.lst true) acc::fr)->Q H'
 | _=>False
abbrev xE(R:RC)(ix:List Nat)(e:Nat->EF):TE:=fun σ H Q=>∃ n,(∀ j∈ix,j < n)/\lE R.q (n::ix) (e n) σ H Q
abbrev xT(R:RC)(ix:List Nat)(c:Nat->BF):TT:=fun σ H Q=>∃ n,(∀ j∈ix,j < n)/\lT R.q (n::ix) (c n) σ H Q
def px_e{e:Expr}{f:Nat->EF}(h:∀ n,(∀ j∈ix,j < n)->PE X e (lE R.q (n::ix) (f n))):PE X e (xE R ix f):=fun pins s σ H Q I ⟨n,hn,q⟩=>h n hn pins s σ H Q I q
def Zh6:PF X [] (xT R ix fun _=>bYes):=fun pins s σ H Q I ⟨n,hn,hd,ts,fr,C,q⟩=>Z7k pins s σ H Q I (q H ts rfl C)
def ZaD{J:It}{it:Nat->Sd->Option (Option DV)}{n m:Nat}{c:Nat->BF}{e:Nat->EF}{Q:VK}{R:RC}{ix:List Nat}{hd:List (Nat×Addr)}{σ:L2.St}{ts:Ts}{fr:List T}{H:Hp}{y0:Option V}
  (hn:∀ j∈ix,j < n) (ok:∀ i H τ ts fr,Cf R.q (n::ix) hd H τ ts fr->(it i (ts.map TL.er)=some none->J.stop i H)/\∀ r,it i (ts.map TL.er)=some (some r)->J.go i H/\∀ x H',J.yld i H x H'->∃ tv,tv.er=r/\Z08 ts x tv/\Cf R.q (n::ix) hd H' τ ts (tv.tr++fr))
  (hnd:ix.Nodup) (C:Cf R.q (n::ix) hd H (y0::σ) ts fr) (P:∀ D,H D=none->PostC R.q (n::ix) hd fr σ D (fun H'=>Q (.ref D) H') (Z1C it n (c n) (e n) m 0 [] (ts.map TL.er))) (hy:y0=none) :
  Z2a J 1 (Z1l 0) (xT R ix c) (xE R ix e) σ H Q:=by
 intro D hD;subst hy;have hnd:(n::ix).Nodup:=Jx.mpr ⟨fun z=>Jv _ (hn n z),hnd⟩;refine ⟨fun i m ys τ H=>∃ y ts acc,τ=y::σ/\Cf R.q (n::ix) hd H τ ts (.nd D (.lst true) acc::fr)/\acc.map T.val=ys/\PostC R.q (n::ix) hd fr σ D (fun H'=>Q (.ref D) H') (Z1C it n (c n) (e n) m i (T.ers acc) (ts.map TL.er)),⟨m,none,ts,[],rfl,Cf.wrap (ch:=[]) C hD (by show upd H D _ D=_;exact Zj),rfl,P D hD⟩,?_⟩;rintro i m ys τ H ⟨y,ts,acc,rfl,C,rfl,P⟩
 cases m with
 | zero=>exact P.elim
 | succ m=>
  unfold Z1C at P;obtain ⟨o1,o2⟩:=ok i H _ ts _ C
  cases ei:it i (ts.map TL.er) with
  | none=>rw [ei] at P;exact P.elim
  | some z=>
   rw [ei] at P
   cases z with
   | none=>exact .inl ⟨o1 ei,P H y ts acc rfl rfl C⟩
   | some r=>
    obtain ⟨g1,g2⟩:=o2 r ei;refine .inr ⟨g1,fun zs τ' H'=>∃ y ts acc,τ'=y::σ/\Cf R.q (n::ix) hd H' τ' ts (.nd D (.lst true) acc::fr)/\acc.map T.val=zs/\PostC R.q (n::ix) hd fr σ D (fun H'=>Q (.ref D) H') (Z1C it n (c n) (e n) m (i + 1) (T.ers acc) (ts.map TL.er)),fun zs τ' H' z=>⟨m,Wn m,z⟩,fun x H' hy=>?_⟩;obtain ⟨tv,rfl,hv,C'⟩:=g2 x H' hy;dsimp only at P
    cases eb:Zm n (ts.map TL.er) tv.er with
    | none=>rw [eb] at P;exact P.elim
    | some s1=>
     rw [eb] at P;obtain ⟨ts1,rfl,C1⟩:=Z6y (i:=0) rfl hnd C' hv eb;have C1:Cf R.q (n::ix) hd H' (some x::σ) ts1 (.nd D (.lst true) acc::fr):=C1;show xT R ix c (some x::σ) H' _;refine ⟨n,hn,hd,ts1,_,C1,?_⟩;dsimp only at P
     cases ec:c n (ts1.map TL.er) with
     | no=>rw [ec] at P;exact P.elim
     | ex E s2=>rw [ec] at P;exact P.elim
     | ok b s2=>
      rw [ec] at P;intro H2 ts2 e2 C2;subst e2
      cases b with
      | false=>
       dsimp only at P;rw [if_neg Ql];exact ⟨some x,ts2,acc,rfl,C2,rfl,P⟩
      | true=>
       dsimp only at P;rw [if_pos rfl];refine ⟨n,hn,hd,ts2,_,C2,?_⟩
       cases ee:e n (ts2.map TL.er) with
       | no=>rw [ee] at P;exact P.elim
       | ex E s3=>rw [ee] at P;exact P.elim
       | ok r s3=>
        rw [ee] at P;intro H3 ts3 tv v e3 e4 hv3 C3;subst e3
        cases r with
        | plc k p=>exact P.elim
        | val d=>
         obtain ⟨t,rfl,rfl,rfl⟩:=hv3.er_val e4;dsimp only at P;by_cases hz:(T.ers acc).length < sizeLine
         case neg=>rw [if_neg hz] at P;exact P.elim
         rw [if_pos hz] at P;obtain ⟨q1,q2⟩:=Cf.grow C3;refine ⟨q1,by simpa [T.ers_eq] using hz,some x,ts3,acc++[t],rfl,?_,by simp,?_⟩
         .simpa using q2
         .simpa [T.ers_eq] using P
def Zbt{l:List (Nat×Addr)}{n:Nat}{a:Addr}{r:ER (List RM.D)}{Q:VK}{σ:L2.St}{fr:List T}{n1:Nat}(hi:∀ j∈ix,j < n)(hj:∀ j a,(j,a)∈hd->j < n)
  (q:match compFin2 n r with
   | .ok r s'=>∀ H' ts' tv v,ts'.map TL.er=s'->tv.er=r->Z08 ts' v tv->Cf R ix hd H' σ ts' (tv.tr++fr)->Q v H'
   | .ex C s'=>∀ H' ts',ts'.map TL.er=s'->Cf R ix hd H' σ ts' fr->R.EX σ (.ref (R.ad C)) none H'
   | .no=>False) (D:Addr):PostC R.q (n1::ix) (hd++[(n,a)]) fr σ D (fun H'=>Q (.ref D) H') r:=by
 cases r with
 | no=>exact q.elim
 | ex E s=>exact q.elim
 | ok l s=>
  simp only [compFin2] at q
  cases e1:popD (n + 1) s with
  | none=>rw [e1] at q;exact q.elim
  | some s1=>
   rw [e1] at q;dsimp only at q
   cases e2:popD n s1 with
   | none=>rw [e2] at q;exact q.elim
   | some s2=>
    rw [e2] at q;intro H' y ts' acc f1 f2 C;have C1:=C.leave;obtain ⟨ts0,x,rfl,hl,f3⟩:=Z1t e1 f1;have C2:Cf R ix ((hd++[(n,a)])++[]) H' σ (ts0++[x]) (.nd D (.lst true) acc::fr):=by rw [Jo];exact C1
    have C3:=C2.popAny (fun j z=>by have:=hi j z;omega) (fun j b z=>by
     rcases Qf.mp z with z | z
     .have:=hj j b z;omega
     .simp only [Jj,Prod.mk.injEq] at z;omega)
    rw [hl] at C3;obtain ⟨ts4,x4,e4,hl4,f4⟩:=Z1t e2 f3;rw [e4] at C3;have C5:=C3.popAny (fun j z=>by have:=hi j z;omega) (fun j b z=>by have:=hj j b z;omega);rw [hl4] at C5;exact q H' _ (.val (.nd D (.lst true) acc)) (.ref D) f4 (by simp only [TV.er,T.er,f2]) rfl C5
def Zbs{n:Nat}{r:ER (List RM.D)}{Q:VK}{σ:L2.St}{fr:List T}{n1:Nat}(hi:∀ j∈ix,j < n)(hj:∀ j a,(j,a)∈hd->j < n)
  (q:match Z3G n r with
   | .ok r s'=>∀ H' ts' tv v,ts'.map TL.er=s'->tv.er=r->Z08 ts' v tv->Cf R ix hd H' σ ts' (tv.tr++fr)->Q v H'
   | .ex C s'=>∀ H' ts',ts'.map TL.er=s'->Cf R ix hd H' σ ts' fr->R.EX σ (.ref (R.ad C)) none H'
   | .no=>False) (D:Addr):PostC R.q (n1::ix) hd fr σ D (fun H'=>Q (.ref D) H') r:=by
 cases r with
 | no=>exact q.elim
 | ex E s=>exact q.elim
 | ok l s=>
  simp only [Z3G] at q
  cases e1:popD n s with
  | none=>rw [e1] at q;exact q.elim
  | some s1=>
   rw [e1] at q;intro H' y ts' acc f1 f2 C;have C1:=C.leave;obtain ⟨ts0,x,rfl,hl,f3⟩:=Z1t e1 f1;have C2:Cf R ix (hd++[]) H' σ (ts0++[x]) (.nd D (.lst true) acc::fr):=by rw [Jo];exact C1
   have C3:=C2.popAny (fun j z=>by have:=hi j z;omega) (fun j b z=>by have:=hj j b z;omega);rw [hl] at C3;exact q H' _ (.val (.nd D (.lst true) acc)) (.ref D) f3 (by simp only [TV.er,T.er,f2]) rfl C3
end
end
mutual
def len1{α:Type}{l:List α}(h:l.length=1):∃ a0,l=[a0]:=match l,h with | [a0],_=>⟨a0,rfl⟩
def len2{α:Type}{l:List α}(h:l.length=2):∃ a0 a1,l=[a0,a1]:=match l,h with | [a0,a1],_=>⟨a0,a1,rfl⟩
def len3{α:Type}{l:List α}(h:l.length=3):∃ a0 a1 a2,l=[a0,a1,a2]:=match l,h with | [a0,a1,a2],_=>⟨a0,a1,a2,rfl⟩
def len4{α:Type}{l:List α}(h:l.length=4):∃ a0 a1 a2 a3,l=[a0,a1,a2,a3]:=match l,h with | [a0,a1,a2,a3],_=>⟨a0,a1,a2,a3,rfl⟩
def len5{α:Type}{l:List α}(h:l.length=5):∃ a0 a1 a2 a3 a4,l=[a0,a1,a2,a3,a4]:=match l,h with | [a0,a1,a2,a3,a4],_=>⟨a0,a1,a2,a3,a4,rfl⟩
abbrev Z3w(f:EF)(c:Nat->BF)(e:Nat->EF):EF:=fun s=>match f s with
 | .ok (.val (.at (.int j))) s1=>if -(2 ^ 62)<=j/\j < 2 ^ 62 then Z3G s1.length (Z1C (itR 0 j.toNat) s1.length (c s1.length) (e s1.length) (j.toNat + 1) 0 [] (s1++[.non])) else .no
 | .ok _ _=>.no
 | .ex C s1=>.ex C s1
 | .no=>.no
end
section
mutual
variable {R:RC}{ix:List Nat}{hd:List (Nat×Addr)}{X:Cx}{H H':Hp}{σ:L2.St}{ts:Ts}{fr:List T}
def ZbG{f:EF}{c:Nat->BF}{e:Nat->EF}(hnd:ix.Nodup)(σ:L2.St)(H:Hp)(Q:VK)(h:lE R ix (Z3w f c e) σ H Q) :
  lE R ix f σ H fun v H1=>∃ j,v=.int j/\-(2 ^ 62)<=j/\j < 2 ^ 62/\Z2a (Itr 0 j.toNat) 1 (Z1l 0) (xT R ix c) (xE R ix e) σ H1 Q:=by
 obtain ⟨hd,ts,fr,C,h⟩:=h;refine ⟨hd,ts,fr,C,?_⟩;unfold Z3w at h
 cases ef:f (ts.map TL.er) with
 | no=>rw [ef] at h;exact h
 | ex E s1=>rw [ef] at h;exact h
 | ok r s1=>
  rw [ef] at h;intro H1 ts1 tv v e1 e2 hv C1;subst e1
  cases r with
  | plc k p=>exact h.elim
  | val d=>
   obtain ⟨t,rfl,rfl,rfl⟩:=hv.er_val e2
   cases t with
   | nd a k l=>exact h.elim
   | «at» u=>
    cases u with
    | int j=>
     have hlen:(ts1.map TL.er).length=ts1.length:=by simp
     simp only [T.er,cl] at h;by_cases hj:-(2 ^ 62)<=j/\j < 2 ^ 62
     .rw [if_pos hj,hlen] at h
      refine ⟨j,rfl,hj.1,hj.2,?_⟩;have C2:=(C1.drop).enter;refine ZaD (it:=itR 0 j.toNat) (m:=j.toNat + 1) C1.ixs (fun i H τ ts fr C=>Z97 i H τ ts C) hnd C2 (fun D _=>?_) rfl;have:=Zbs (n1:=ts1.length) C1.ixs C1.hdi h D;simpa [TL.er] using this
     .rw [if_neg hj] at h;exact h.elim
    | _=>exact h.elim
def Zc6{N:List Str}{scope:Scope}{tg a elt:Expr}{ifs:List Expr}{p pos rpos:Pos}{f:EF}{c:Nat->BF}{e:Nat->EF}(hc:X.calm=true)(hnd:ix.Nodup)(hgl:Gl X "range")(hm:X.mg "range"=none)(ha:PE X a (lE R ix f))(S:CompSc X 1 N scope)
  (hg:∀ cl C s H fp,PG (cxC X N scope cl C s H fp) tg (Z1l 0)) (hf:∀ cl C s H fp,PF (cxC X N scope cl C s H fp) ifs (xT R ix c)) (he:∀ cl C s H fp,PE (cxC X N scope cl C s H fp) elt (xE R ix e))
  (hst:autoParam (starEach [a] X.env=[(false,eval a X.env)]) uA._auto_1) (hs:autoParam (∀ x,foldedSetIterable (.Call (.Name "range" p) [a] [] rpos) X.env x=pure x) uC._auto_1) :
  PE X (.ListComp elt [⟨tg,.Call (.Name "range" p) [a] [] rpos,ifs,0⟩] scope pos) (lE R ix (Z3w f c e)):=by
 refine peM (Z69 hc (Z5K (ta:=Z2e (lE R ix f) tNil) hgl hm (Zg ha ZF hst) hst) S hg hf he hs) fun σ H Q h=>?_;refine Zd (fun v H1 q=>?_) (ZbG hnd σ H Q h);obtain ⟨j,rfl,b1,b2,q⟩:=q;exact ⟨j,rfl,b1,b2,q⟩
end
end
section
variable {R:RC}{ix:List Nat}{hd:List (Nat×Addr)}{X:Cx}{H H1:Hp}{σ:L2.St}{ts1:Ts}{fr1:List T}
theorem set_list{k:Nat}{p:List Nat}{a2:Addr}{ch cs:List T}{u:T}(C1:Cf R ix hd H1 σ ts1 fr1)(hk:ts1[k]?=some (.own true u))(hp:u.get p=some (.nd a2 (.lst true) ch))
  (hcs:∀ c∈cs,c.own=[]/\c.ok H1/\∀ b∈c.ro,b∈roS ts1\/b∈T.ros fr1) :
  Cf R ix hd (upd H1 a2 (.lst (cs.map T.val))) σ ((ts1.set k (.own true (T.put (.nd a2 (.lst true) cs) p u))).map (ZP k p fun _=>false)) fr1:=by
 have ha2:a2∈Ze ts1:=by
  obtain ⟨c,r,K⟩:=T.ctx hp;exact Z1f.mpr ⟨u,Qg hk,K.own.mem_iff.mpr (Qe _ (by simp [T.own,NK.mut]))⟩
 have hn:T.owns cs=[]:=Nh.mpr fun a z=>by
  obtain ⟨t,ht,hz⟩:=T.mem_owns.mp z;rw [(hcs t ht).1] at hz;cases hz
 refine Cf.write (kd:=.lst true) (kd':=.lst true) (l:=ch) (l':=cs) (fr':=fr1) (x:=T.owns ch) (o:=.lst (cs.map T.val)) (keep:=fun _=>false) C1 hk hp rfl rfl ⟨Zj,T.oks_iff.mpr fun c hc=>?_⟩ (T.oks_iff.mpr fun y hy=>?_) ?_ (fun b hb=>?_) (fun i c h _=>by cases h)
 .refine T.keep (hcs c hc).2.1 fun b hb=>Zb ?_
  rintro rfl;rcases hb with hb | hb
  .rw [(hcs c hc).1] at hb;cases hb
  .exact (C1.sep b ((hcs c hc).2.2 b hb)).1 ha2
 .refine T.keep (T.oks_iff.mp C1.fok y hy) fun b hb=>Zb ?_
  rintro rfl;rcases hb with hb | hb
  .exact (Qm.mp C1.nd).2.2 b ha2 b (T.mem_owns.mpr ⟨y,hy,hb⟩) rfl
  .exact (C1.sep b (.inr (T.mem_ros.mpr ⟨y,hy,hb⟩))).1 ha2
 .rw [hn,Jq]
  exact Wf
 .rcases hb with hb | hb
  .obtain ⟨c,hc,hz⟩:=T.mem_ros.mp hb
   rcases (hcs c hc).2.2 b hz with z | z
   .exact .inr (.inr (.inl z))
   .exact .inr (.inl z)
  .exact .inr (.inl hb)
end
section
variable {R:RC}{ix:List Nat}{hd:List (Nat×Addr)}{X:Cx}{H H1:Hp}{σ:L2.St}{ts:Ts}{fr:List T}
noncomputable def eClr(f:EF):EF:=fun s=>match f s with
 | .ok (.plc k p) s1=>(match Zt s1 (.plc k p),s1[k]? with
  | some (.nd (.lst true) _),some (.own true _)=>.ok (.val (.at .non)) (wr s1 k p (.nd (.lst true) []) fun _=>false)
  | _,_=>.no)
 | .ok (.val (.nd (.lst true) _)) s1=>.ok (.val (.at .non)) s1
 | .ok _ _=>.no
 | .ex C s1=>.ex C s1
 | .no=>.no
end
mutual
def two_sz{α:Type}{a b:α}:[a,b].length<=sizeLine:=by show 2<=sizeLine;decide
def Zgb{t:T}{i:Int}(h:t.er=.at (.int i)):t=.at (.int i):=by
 cases t with
 | nd a k l=>cases h
 | «at» u=>cases u with
  | int j=>cases h;rfl
  | _=>cases h
abbrev hPutL:List D->Option Mu
 | [_,.nd (.lst true) l,.at (.int k)]=>(ixN l.length k).map fun j=>.set j 0
 | _=>none
end
section
mutual
variable {s:Sd}{f:EF}
def Zbq{c:Nat->BF}{g:Nat->EF}:Z3w f c g s=(match f s with
 | .ok (.val (.at (.int j))) s1=>if -(2 ^ 62)<=j/\j < 2 ^ 62 then Z3G s1.length (Z1C (itR 0 j.toNat) s1.length (c s1.length) (g s1.length) (j.toNat + 1) 0 [] (s1++[.non])) else .no
 | .ok _ _=>.no
 | .ex C s1=>.ex C s1
 | .no=>.no):=id rfl
def Z7z{it:Nat->Sd->Option (Option DV)}{n:Nat}{c:BF}{e:EF}{P:Nat->List D->Sd->Prop}{N:Nat}
  (hs:∀ i acc s,i < N->P i acc s->∃ r s1,it i s=some (some r)/\Zm n s r=some s1/\((∃ s2 d s3,c s1=.ok true s2/\e s2=.ok (.val d) s3/\acc.length < sizeLine/\P (i + 1) (acc++[d]) s3)\/(∃ s2,c s1=.ok false s2/\P (i + 1) acc s2)))
  (he:∀ acc s,P N acc s->it N s=some none):∀ m i acc s,i + m=N->P i acc s->∃ l s',Z1C it n c e (m + 1) i acc s=.ok l s'/\P N l s'
 | 0,i,acc,s,hi,h=>by
  have:i=N:=by omega
  subst this;exact ⟨acc,s,by simp only [Z1C,he acc s h],h⟩
 | m + 1,i,acc,s,hi,h=>by
  obtain ⟨r,s1,h1,h2,h3⟩:=hs i acc s (by omega) h;rcases h3 with ⟨s2,d,s3,h4,h5,h6,h7⟩ | ⟨s2,h4,h5⟩
  .obtain ⟨l,s',h8,h9⟩:=Z7z hs he m (i + 1) (acc++[d]) s3 (by omega) h7
   refine ⟨l,s',?_,h9⟩;rw [Z1C];simp only [h1,h2,h4,h5,if_pos h6,h8]
  .obtain ⟨l,s',h8,h9⟩:=Z7z hs he m (i + 1) acc s2 (by omega) h5
   refine ⟨l,s',?_,h9⟩;rw [Z1C];simp only [h1,h2,h4,h8]
end
end
section
mutual
variable {X:Cx}{R:RC}{ix:List Nat}{e:Expr}{pos:Pos}
abbrev hCut(lo:Bool):List D->Option D
 | [.nd (.lst _) l,.at (.int i)]=>if D.imms l=true/\0<=i then some (.nd (.lst true) (if lo then l.drop i.toNat else l.take i.toNat)) else none
 | _=>none
def ZfX{xs:List V}{i:Int}(h:0<=i):cutV xs none (some i)=xs.take i.toNat:=by
 have e:HT.sIx xs.length xs.length (some i)=min i.toNat xs.length:=if_neg (by omega);unfold cutV;rw [e,show HT.sIx xs.length 0 none=0 from rfl];simp only [List.drop_zero,Nat.sub_zero];rcases Nat.le_total i.toNat xs.length with z | z
 .rw [Nat.min_eq_left z]
 .rw [Nat.min_eq_right z,Wb (Qq _),Wb z]
def ZfY{xs:List V}{i:Int}(h:0<=i):cutV xs (some i) none=xs.drop i.toNat:=by
 have e:HT.sIx xs.length 0 (some i)=min i.toNat xs.length:=if_neg (by omega);unfold cutV;rw [e,show HT.sIx xs.length xs.length none=xs.length from rfl];rcases Nat.le_total i.toNat xs.length with z | z
 .rw [Nat.min_eq_left z,Wb (by simp)]
 .rw [Nat.min_eq_right z,List.drop_of_length_le z,List.drop_of_length_le (Qq _)];simp
def Z9Y{lo:Bool}{x y:V}{H:Hp}{Q:VK}(h:gNw (hCut lo) [x,y] H Q):∃ (a:Addr) (ch:List T) (i:Int),x=.ref a/\y=.int i/\0<=i/\SqL X.K H a (ch.map T.val)/\∀ p,H p=none->Q (.ref p) (upd H p (.lst (if lo then (ch.map T.val).drop i.toNat else (ch.map T.val).take i.toNat))):=by
 obtain ⟨t,u,ht,hu,rfl,rfl,d,hh,q⟩:=gNw2 h;unfold hCut at hh
 split at hh
 case h_2=>cases hh
 case h_1 m l i e=>
  simp only [Js.injEq,and_true] at e;obtain ⟨a,ch,rfl,rfl⟩:=ZbJ e.1;cases Zgb e.2
  split at hh
  case isFalse=>cases hh
  case isTrue hz=>
   cases hh;refine ⟨a,ch,i,rfl,rfl,hz.2,ht.1.sqL,fun p hp=>?_⟩
   have hsub:∀ c:List T,(∀ t∈c,t∈ch)->NewOk H (upd H p (.lst (c.map T.val))) [T.nd a (.lst m) ch,.at (.int i)] (.nd p (.lst true) c):=fun c hc=>
    Z6G hp Zj (.inl rfl) (fun t z=>⟨T.oks_iff.mp ht.2 t (hc t z),Za7 hz.1 t (hc t z)⟩) fun b hb=>by
     obtain ⟨t,h1,h2⟩:=T.mem_ros.mp hb
     have:b∈T.ros ch:=T.mem_ros.mpr ⟨t,hc t h1,h2⟩
     simp [T.ros,T.ro,this]
   cases lo with
   | true=>
    have:=q (.nd p (.lst true) (ch.drop i.toNat)) _ (by simp [T.er,T.ers_eq]) (hsub _ fun t z=>List.mem_of_mem_drop z);simpa [T.val] using this
   | false=>
    have:=q (.nd p (.lst true) (ch.take i.toNat)) _ (by simp [T.er,T.ers_eq]) (hsub _ fun t z=>Gr z);simpa [T.val] using this
def ZdO{a:Expr}{p2:Pos}{f g:EF}(he:PE X e (lE R ix f))(ha:PE X a (lE R ix g)):PE X (.Subscript e (.Slice (some a) none none p2) pos) (lE R ix (eNw (hCut true) (Z0 f (Z0 g Z1)))):=
 peM (Z4U Zas he (Z6b ha) Z6a) fun σ H Q q=>Zd (fun x H1 z=>Zd (fun y H2 z=>by
  obtain ⟨a,ch,i,rfl,rfl,hi,hs,q⟩:=Z9Y (X:=X) z;refine ⟨i,rfl,a,_,rfl,hs,fun p hp=>?_⟩;rw [ZfY hi];exact q p hp) z) (Z1e (Z0P σ H Q q))
def ZdN{a:Expr}{p2:Pos}{f g:EF}(he:PE X e (lE R ix f))(ha:PE X a (lE R ix g)):PE X (.Subscript e (.Slice none (some a) none p2) pos) (lE R ix (eNw (hCut false) (Z0 f (Z0 g Z1)))):=
 peM (Z4U Zas he Z6a (Z6b ha)) fun σ H Q q=>Zd (fun x H1 z=>Zd (fun y H2 z=>by
  obtain ⟨a,ch,i,rfl,rfl,hi,hs,q⟩:=Z9Y (X:=X) z;refine ⟨i,rfl,a,_,rfl,hs,fun p hp=>?_⟩;rw [ZfX hi];exact q p hp) z) (Z1e (Z0P σ H Q q))
end
end
noncomputable def eAnd(f g:EF):EF:=fun s=>match f s with
 | .ok (.val (.at (.bl b))) s1=>if b=true then g s1 else .ok (.val (.at (.bl false))) s1
 | .ok _ _=>.no
 | .ex C s1=>.ex C s1
 | .no=>.no
section
mutual
variable {X:Cx}{R:RC}{ix:List Nat}{a b:Expr}{rest:List Expr}{pos:Pos}
def ZgC{f g:EF}(σ:L2.St)(H:Hp)(Q:VK)(h:lE R ix (eAnd f g) σ H Q):tAndV (lE R ix f) (lE R ix g) σ H Q:=by
 obtain ⟨hd,ts,fr,C,h⟩:=h;refine ⟨hd,ts,fr,C,?_⟩;unfold eAnd at h
 cases ef:f (ts.map TL.er) with
 | no=>rw [ef] at h;exact h
 | ex E s1=>rw [ef] at h;exact h
 | ok r s1=>
  rw [ef] at h;intro H1 ts1 tv v e1 e2 hv C1;subst e1
  cases r with
  | plc _ _=>exact h.elim
  | val d=>
   obtain ⟨t,rfl,rfl,rfl⟩:=hv.er_val e2
   cases t with
   | nd a k l=>exact h.elim
   | «at» u=>
    cases u with
    | bl c=>
     refine ⟨c,rfl,?_⟩;simp only [T.er,cl] at h
     cases c with
     | true=>rw [if_pos rfl] at h ⊢;exact ⟨hd,ts1,fr,C1.drop,h⟩
     | false=>rw [if_neg Ql] at h ⊢;exact h H1 ts1 (.val (.at (.bl false))) (.bl false) rfl rfl rfl (C1.drop.at _)
    | _=>exact h.elim
def Z6c{f:EF}(h:PE X a (lE R ix f)):PE X (.BoolOp .And [a] pos) (lE R ix f):=Z7j h
def Z5L{f g:EF}(ha:PE X a (lE R ix f))(hb:PE X (.BoolOp .And (b::rest) pos) (lE R ix g)):PE X (.BoolOp .And (a::b::rest) pos) (lE R ix (eAnd f g)):=peM (Z7i ha hb) ZgC
end
end
theorem Zg4{t:T}{m:Bool}{ks:List Key}{l:List D}(h:t.er=.nd (.dic m ks) l):∃ a ch,t=.nd a (.dic m ks) ch/\l=T.ers ch:=by
 cases t with
 | «at» v=>cases h
 | nd a k ch=>cases h;exact ⟨a,ch,rfl,rfl⟩
section
mutual
variable {X:Cx}{R:RC}{ix:List Nat}{H:Hp}
abbrev Z12:List D->Option (List V)
 | []=>some []
 | .at v::r=>if Z0d v=true then (match Z12 r with | some vs=>some (v::vs) | none=>none) else none
 | _=>none
def Z4E:∀ {l:List T} {vs:List V},Z12 (T.ers l)=some vs->l.map T.val=vs/\vs.all Z0d=true
 | [],vs,h=>by cases h;exact ⟨rfl,rfl⟩
 | t::l,vs,h=>by
  simp only [T.ers] at h;unfold Z12 at h
  split at h
  case h_1 e=>cases e
  case h_3=>cases h
  case h_2 v r e=>
   simp only [Js.injEq] at e
   split at h
   case isFalse=>cases h
   case isTrue hf=>
    rw [<- e.2] at h
    cases en:Z12 (T.ers l) with
    | none=>rw [en] at h;cases h
    | some ms=>
     rw [en] at h;cases h;cases Z0O e.1 hf;obtain ⟨h1,h2⟩:=Z4E en;exact ⟨by rw [Qj,h1];rfl,by rw [Gp,hf,h2];rfl⟩
abbrev hIn(neg:Bool):List D->Option D
 | [.at x,.nd (.lst _) l]=>if Z0d x=true then (match Z12 l with | some vs=>some (.at (.bl (if neg then !inV x vs else inV x vs))) | none=>none) else none
 | [.at x,.nd .tup l]=>if Z0d x=true then (match Z12 l with | some vs=>some (.at (.bl (if neg then !inV x vs else inV x vs))) | none=>none) else none
 | _=>none
def Zdk{neg:Bool}{t u:T}{d:D}(ht:t.ok H)(hu:u.ok H)(h:hIn neg [t.er,u.er]=some d):∃ x p vs,t=.at x/\u.val=.ref p/\(SqL X.K H p vs\/SqT X.K H p vs)/\Z0d x=true/\vs.all Z0d=true/\d=.at (.bl (if neg then !inV x vs else inV x vs)):=by
 unfold hIn at h
 split at h
 case h_3=>cases h
 case h_1 x m l e=>
  simp only [Js.injEq,and_true] at e;obtain ⟨a,ch,rfl,rfl⟩:=ZbJ e.2
  split at h
  case isFalse=>cases h
  case isTrue hf=>
   cases en:Z12 (T.ers ch) with
   | none=>rw [en] at h;cases h
   | some vs=>
    rw [en] at h;cases h;obtain ⟨h1,h2⟩:=Z4E en;exact ⟨x,a,vs,Z0O e.1 hf,rfl,.inl (by rw [<- h1];exact hu.1.sqL),hf,h2,rfl⟩
 case h_2 x l e=>
  simp only [Js.injEq,and_true] at e;obtain ⟨a,ch,rfl,rfl⟩:=Zhl e.2
  split at h
  case isFalse=>cases h
  case isTrue hf=>
   cases en:Z12 (T.ers ch) with
   | none=>rw [en] at h;cases h
   | some vs=>
    rw [en] at h;cases h;obtain ⟨h1,h2⟩:=Z4E en;exact ⟨x,a,vs,Z0O e.1 hf,rfl,.inr (by rw [<- h1];exact hu.1.sqT),hf,h2,rfl⟩
def ZdF:OpR X (compareOp .NotIn) (oNw (hIn true)):=opM Z9f fun x y H Q q=>by
 obtain ⟨t,u,ht,hu,rfl,rfl,d,hh,q⟩:=gNw2 q;obtain ⟨x,p,vs,rfl,e1,h1,h2,h3,rfl⟩:=Zdk (X:=X) ht hu hh;exact ⟨p,vs,e1,h1,h2,h3,q (.at (.bl _)) H rfl (.atom _)⟩
end
end
theorem Zaz{α β:Type}:∀ {l:List α} {m:List β},l.length=m.length->(l.zip m).map (·.2)=m
 | [],[],_=>rfl
 | _::_,_::_,h=>by simp only [Np,Qj];rw [Zaz (by simpa using h)]
section
mutual
variable {X:Cx}
def ZbM:MtR X "dict.values" (fun x xs H Q=>∃ a kvs,x=.ref a/\xs=[]/\H a=some (.dK kvs)/\∀ p,H p=none->Q (.ref p) (upd H p (.ext fun h=>h.IsValuesView p a))):=by
 intro pins s σ H x xs v us Q I rx r h;obtain ⟨a,kvs,rfl,rfl,ha,q⟩:=h;cases r;cases rx;obtain ⟨z,hd,vs,rel,dd⟩:=dk_rd I.hok (.inl ha);refine call_meetsIn PySem.F.slot_dict_values dd.typeIs PySem.F.entry_dict_values (PySem.F.args_dict_values_1 _) (meets_dict_values (ZL X.prog X.w) a hd) ⟨⟨vs,dd⟩,?_⟩;refine ⟨.ref s.heap.objs.size,_,I.laid (t':=s.toks) (fun b o e=>Qi _ e) (Qq _) ?_,rfl,q _ (I.hok.fresh (Qq _))⟩;refine ⟨⟨_,Qy _ rfl,rfl,rfl⟩,⟨_,Qy _ rfl⟩,fun h1 h2 ⟨o,e,x⟩ k=>⟨o,k o e,x⟩⟩
variable {R:RC}{ix:List Nat}
end
end
mutual
abbrev asg2(n:Nat):Sd->DV->Option Sd:=tgT (tgC (Zm (n + 1)) (tgC (Zm n) tgN))
abbrev Z16(it:Nat->Sd->Option (Option DV))(n:Nat)(c:BF)(e:EF):Nat->Nat->List D->Sd->ER (List D)
 | 0,_,_,_=>.no
 | m + 1,i,acc,s=>match it i s with
  | none=>.no
  | some none=>.ok acc s
  | some (some r)=>match asg2 n s r with
   | none=>.no
   | some s1=>match c s1 with
    | .ok true s2=>(match e s2 with
     | .ok (.val d) s3=>if acc.length < sizeLine then Z16 it n c e m (i + 1) (acc++[d]) s3 else .no
     | _=>.no)
    | .ok false s2=>Z16 it n c e m (i + 1) acc s2
    | _=>.no
abbrev Z3H(n:Nat):ER (List D)->ER DV
 | .ok l s=>(match popD (n + 2) s with | some s1=>compFin2 n (.ok l s1) | none=>.no)
 | _=>.no
end
section
mutual
variable {R:RC}{ix:List Nat}{hd:List (Nat×Addr)}{X:Cx}{H H':Hp}{σ:L2.St}{ts:Ts}{fr:List T}
private abbrev gTwo(K:Qa):TG:=gTup K 2 (gCons (Z1l 0) (gCons (Z1l 1) gNil))
abbrev PostC2(R:RC)(ix:List Nat)(hd:List (Nat×Addr))(fr:List T)(σ:L2.St)(D:Addr)(Q:Hp->Prop):ER (List RM.D)->Prop
 | .ok l s=>∀ H' y z ts' acc,ts'.map TL.er=s->T.ers acc=l->Cf R ix hd H' (y::z::σ) ts' (.nd D (.lst true) acc::fr)->Q H'
 | _=>False
abbrev xE2(R:RC)(ix:List Nat)(e:Nat->EF):TE:=fun σ H Q=>∃ n,(∀ j∈ix,j < n)/\lE R.q ((n + 1)::n::ix) (e n) σ H Q
abbrev xT2(R:RC)(ix:List Nat)(c:Nat->BF):TT:=fun σ H Q=>∃ n,(∀ j∈ix,j < n)/\lT R.q ((n + 1)::n::ix) (c n) σ H Q
def px2_e{e:Expr}{f:Nat->EF}(h:∀ n,(∀ j∈ix,j < n)->PE X e (lE R.q ((n + 1)::n::ix) (f n))):PE X e (xE2 R ix f):=fun pins s σ H Q I ⟨n,hn,q⟩=>h n hn pins s σ H Q I q
def Zfk:PF X [] (xT2 R ix fun _=>bYes):=fun pins s σ H Q I ⟨n,hn,hd,ts,fr,C,q⟩=>Z7k pins s σ H Q I (q H ts rfl C)
def ZaA{K:Qa}{n:Nat}{x:V}{y z:Option V}{tv:TV}{s1:Sd}{Q:L2.St->Hp->Prop}(hnd:((n + 1)::n::ix).Nodup)(C:Cf R ((n + 1)::n::ix) hd H (y::z::σ) ts (tv.tr++fr))(hv:Z08 ts x tv)(eb:asg2 n (ts.map TL.er) tv.er=some s1)
  (q:∀ y' z' ts',ts'.map TL.er=s1->Cf R ((n + 1)::n::ix) hd H (y'::z'::σ) ts' fr->Q (y'::z'::σ) H):gTwo K x (y::z::σ) H Q:=by
 cases tv with
 | plc k p a=>simp [TV.er,asg2,tgT] at eb
 | val t=>
  cases hv
  cases t with
  | «at» v=>simp [TV.er,T.er,asg2,tgT] at eb
  | nd a kd ch=>
   cases kd with
   | tup=>
    simp only [TV.er,T.er,asg2,tgT] at eb
    cases hi:D.imms (T.ers ch) with
    | false=>rw [hi] at eb;simp at eb
    | true=>
     rw [hi,if_pos rfl] at eb;have ok:=C.fok.1;have ho:=T.imms_own hi
     have hl:ch.length=2:=by
      have:=Z9x (Z9x ZfB) _ _ _ eb;simpa [T.ers_eq] using this
     obtain ⟨c0,c1,rfl⟩:=len2 hl
     have C1:Cf R ((n + 1)::n::ix) hd H (y::z::σ) ts ([c0,c1]++fr):=by
      refine C.less (x:=[]) (T.oks_app.mpr ⟨ok.2,C.fok.2⟩) ?_ fun b hb=>?_
      .show (T.owns (T.nd a .tup [c0,c1]::fr)).Perm (T.owns ([c0,c1]++fr)++[])
       rw [T.owns_cons,T.owns_app,T.own,ho];simp [NK.mut]
      .left
       show b∈T.ros (T.nd a .tup [c0,c1]::fr);rw [T.ros_cons,T.ro];rw [T.ros_app] at hb;simp only [Qf] at hb ⊢;rcases hb with hb | hb
       .exact .inl (.inr hb)
       .exact .inr hb
     simp only [T.ers,Qj,Jw,tgC] at eb
     cases e1:Zm (n + 1) (ts.map TL.er) (.val c0.er) with
     | none=>rw [e1] at eb;cases eb
     | some s2=>
      rw [e1] at eb;dsimp only at eb
      cases e2:Zm n s2 (.val c1.er) with
      | none=>rw [e2] at eb;cases eb
      | some s3=>
       rw [e2] at eb;cases eb;obtain ⟨ts1,f1,C2⟩:=Z6y (i:=0) (tv:=.val c0) (v:=c0.val) (fr:=c1::fr) rfl hnd C1 rfl e1;subst f1;obtain ⟨ts2,f2,C3⟩:=Z6y (i:=1) (tv:=.val c1) (v:=c1.val) (fr:=fr) rfl hnd C2 rfl e2;exact ⟨a,[c0.val,c1.val],rfl,ok.1.sqT,rfl,_,_,rfl,_,_,rfl,rfl,q (some c0.val) (some c1.val) ts2 f2 C3⟩
   | _=>simp [TV.er,T.er,asg2,tgT] at eb
def Z9K{K:Qa}{J:It}{it:Nat->Sd->Option (Option DV)}{n m:Nat}{c:Nat->BF}{e:Nat->EF}{Q:VK}{R:RC}{ix:List Nat}{hd:List (Nat×Addr)}{σ:L2.St}{ts:Ts}{fr:List T}{H:Hp}{y0 z0:Option V}
  (hn:∀ j∈ix,j < n) (ok:∀ i H τ ts fr,Cf R.q ((n + 1)::n::ix) hd H τ ts fr->(it i (ts.map TL.er)=some none->J.stop i H)/\∀ r,it i (ts.map TL.er)=some (some r)->J.go i H/\∀ x H',J.yld i H x H'->∃ tv,tv.er=r/\Z08 ts x tv/\Cf R.q ((n + 1)::n::ix) hd H' τ ts (tv.tr++fr))
  (hnd:ix.Nodup) (C:Cf R.q ((n + 1)::n::ix) hd H (y0::z0::σ) ts fr) (P:∀ D,H D=none->PostC2 R.q ((n + 1)::n::ix) hd fr σ D (fun H'=>Q (.ref D) H') (Z16 it n (c n) (e n) m 0 [] (ts.map TL.er))) (hy:y0=none) (hz:z0=none) :
  Z2a J 2 (gTwo K) (xT2 R ix c) (xE2 R ix e) σ H Q:=by
 intro D hD;subst hy hz
 have hnd:((n + 1)::n::ix).Nodup:=Jx.mpr ⟨fun z=>by
  rcases Jb.mp z with z | z
  .omega
  .have:=hn _ z;omega,Jx.mpr ⟨fun z=>Jv _ (hn n z),hnd⟩⟩
 refine ⟨fun i m ys τ H=>∃ y z ts acc,τ=y::z::σ/\Cf R.q ((n + 1)::n::ix) hd H τ ts (.nd D (.lst true) acc::fr)/\acc.map T.val=ys/\PostC2 R.q ((n + 1)::n::ix) hd fr σ D (fun H'=>Q (.ref D) H') (Z16 it n (c n) (e n) m i (T.ers acc) (ts.map TL.er)),⟨m,none,none,ts,[],rfl,Cf.wrap (ch:=[]) C hD (by show upd H D _ D=_;exact Zj),rfl,P D hD⟩,?_⟩;rintro i m ys τ H ⟨y,z,ts,acc,rfl,C,rfl,P⟩
 cases m with
 | zero=>exact P.elim
 | succ m=>
  unfold Z16 at P;obtain ⟨o1,o2⟩:=ok i H _ ts _ C
  cases ei:it i (ts.map TL.er) with
  | none=>rw [ei] at P;exact P.elim
  | some z'=>
   rw [ei] at P
   cases z' with
   | none=>exact .inl ⟨o1 ei,P H y z ts acc rfl rfl C⟩
   | some r=>
    obtain ⟨g1,g2⟩:=o2 r ei;refine .inr ⟨g1,fun zs τ' H'=>∃ y z ts acc,τ'=y::z::σ/\Cf R.q ((n + 1)::n::ix) hd H' τ' ts (.nd D (.lst true) acc::fr)/\acc.map T.val=zs/\PostC2 R.q ((n + 1)::n::ix) hd fr σ D (fun H'=>Q (.ref D) H') (Z16 it n (c n) (e n) m (i + 1) (T.ers acc) (ts.map TL.er)),fun zs τ' H' z=>⟨m,Wn m,z⟩,fun x H' hy=>?_⟩;obtain ⟨tv,rfl,hv,C'⟩:=g2 x H' hy;dsimp only at P
    cases eb:asg2 n (ts.map TL.er) tv.er with
    | none=>rw [eb] at P;exact P.elim
    | some s1=>
     rw [eb] at P;refine ZaA hnd C' hv eb fun y' z' ts1 f1 C1=>?_;subst f1;refine ⟨n,hn,hd,ts1,_,C1,?_⟩;dsimp only at P
     cases ec:c n (ts1.map TL.er) with
     | no=>rw [ec] at P;exact P.elim
     | ex E s2=>rw [ec] at P;exact P.elim
     | ok b s2=>
      rw [ec] at P;intro H2 ts2 e2 C2;subst e2
      cases b with
      | false=>
       dsimp only at P;rw [if_neg Ql];exact ⟨y',z',ts2,acc,rfl,C2,rfl,P⟩
      | true=>
       dsimp only at P;rw [if_pos rfl];refine ⟨n,hn,hd,ts2,_,C2,?_⟩
       cases ee:e n (ts2.map TL.er) with
       | no=>rw [ee] at P;exact P.elim
       | ex E s3=>rw [ee] at P;exact P.elim
       | ok r s3=>
        rw [ee] at P;intro H3 ts3 tv v e3 e4 hv3 C3;subst e3
        cases r with
        | plc k p=>exact P.elim
        | val d=>
         obtain ⟨t,rfl,rfl,rfl⟩:=hv3.er_val e4;dsimp only at P;by_cases hz:(T.ers acc).length < sizeLine
         case neg=>rw [if_neg hz] at P;exact P.elim
         rw [if_pos hz] at P;obtain ⟨q1,q2⟩:=Cf.grow C3;refine ⟨q1,by simpa [T.ers_eq] using hz,y',z',ts3,acc++[t],rfl,?_,by simp,?_⟩
         .simpa using q2
         .simpa [T.ers_eq] using P
def Cf.leave2{n m:Nat}{y z:Option V}(C:Cf R.q (m::n::ix) hd H (y::z::σ) ts fr):Cf R.q (n::ix) hd H (z::σ) ts fr:=Cf.leave (R:=R.q) C
def Zbu{n:Nat}{a:Addr}{r:ER (List RM.D)}{Q:VK}{σ:L2.St}{fr:List T}(hi:∀ j∈ix,j < n)(hj:∀ j a,(j,a)∈hd->j < n)
  (q:match Z3H n r with
   | .ok r s'=>∀ H' ts' tv v,ts'.map TL.er=s'->tv.er=r->Z08 ts' v tv->Cf R ix hd H' σ ts' (tv.tr++fr)->Q v H'
   | .ex C s'=>∀ H' ts',ts'.map TL.er=s'->Cf R ix hd H' σ ts' fr->R.EX σ (.ref (R.ad C)) none H'
   | .no=>False) (D:Addr):PostC2 R.q ((n + 1 + 1)::(n + 1)::ix) (hd++[(n,a)]) fr σ D (fun H'=>Q (.ref D) H') r:=by
 cases r with
 | no=>exact q.elim
 | ex E s=>exact q.elim
 | ok l s=>
  simp only [Z3H] at q
  cases e1:popD (n + 2) s with
  | none=>rw [e1] at q;exact q.elim
  | some s1=>
   rw [e1] at q;dsimp only at q;intro H' y z ts' acc f1 f2 C;have C1:=C.leave2;obtain ⟨ts0,x,rfl,hl,f3⟩:=Z1t e1 f1;have C2:Cf R.q ((n + 1)::ix) ((hd++[(n,a)])++[]) H' (z::σ) (ts0++[x]) (.nd D (.lst true) acc::fr):=by rw [Jo];exact C1
   have C3:=C2.popAny (fun j z=>by
    rcases Jb.mp z with z | z
    .omega
    .have:=hi j z;omega) (fun j b z=>by
     rcases Qf.mp z with z | z
     .have:=hj j b z;omega
     .simp only [Jj,Prod.mk.injEq] at z;omega)
   rw [hl] at C3;exact Zbt (l:=[]) (n1:=n + 1) hi hj q D H' z _ acc f3 f2 C3
end
end
mutual
abbrev del(H:Hp)(a:Addr):Hp:=fun b=>if b=a then none else H b
def Z8Y{H:Hp}{a:Addr}:del H a a=none:=if_pos rfl
def Z1P{H:Hp}{a b:Addr}(h:b≠a):del H a b=H b:=if_neg h
def Z4F{H:Hp}{a b:Addr}(h:H b=none):del H a b=none:=by
 unfold del;split
 .rfl
 .exact h
def ZgL{H:Hp}{a b:Addr}{u:HO}(h:del H a b=some u):b≠a/\H b=some u:=by
 by_cases e:b=a
 .subst e;rw [Z8Y] at h;cases h
 .rw [Z1P e] at h;exact ⟨e,h⟩
def ZbF{k:Key}{y:V}:∀ {kvs:List (Key×V)} {vs:List (Key×Value)} {i:Nat},KV kvs vs->kvs[i]?=some (k,y)->∃ u,vs[i]?=some (k,u)/\RelV y u
 | _,_,0,.cons (a:=p) (b:=q) h _,e=>by
  cases e;obtain ⟨k',u⟩:=q;cases h.1;exact ⟨u,rfl,h.2⟩
 | _,_,i + 1,.cons _ r,e=>ZbF (i:=i) r (by simpa using e)
end
section
mutual
variable {X:Cx}{pins:List (Addr×Obj)}{σ σ0:L2.St}{H H0:Hp}{s s0:Shared}{a:Addr}{o:Obj}{kvs:List (Key×V)}
def ZeH(I:Inv X pins σ H s){u:HO}(ha:H a=some u):a∉X.fs:=fun hb=>by
 obtain ⟨_,ob,ho,_⟩:=I.ok.funs.mem hb;rw [I.base.free a ob ho (I.ok.frf a hb) fun z=>I.ok.exfs a z hb] at ha;cases ha
def ZbA(I:Inv X pins σ H s)(ha:H a=some (.dK kvs))(ho:s.heap.get? a=some o)(hd:∀ v,o.data≠.cell v):Inv X (pins++[(a,o)]) σ (del H a) s:=by
 have neL:a≠X.env.locals:=fun z=>by rw [z,I.free] at ha;cases ha
 refine ⟨I.ok,I.os,I.bare,⟨I.base.keep,I.base.slot,fun b ob e n hx=>Z4F (I.base.free b ob e n hx),I.base.there,fun b xs e=>?_,fun b ob u e=>?_,fun b ps e=>?_⟩,I.loc,I.cell,Z4F I.free,fun x c e=>Z4F (I.freeC x c e),fun p hp=>?_,fun b u e=>?_,I.len⟩
 .have z:=I.base.tups b xs e
  rw [Z1P (by rintro rfl;rw [ha] at z;cases z)];exact z
 .have z:=I.base.frzs b ob u e
  rw [Z1P (by rintro rfl;rw [ha] at z;cases z)];exact z
 .obtain ⟨m,z⟩:=I.base.tbls b ps e
  exact ⟨m,by rw [Z1P (by rintro rfl;rw [ha] at z;cases z)];exact z⟩
 .rw [<- Qn] at hp
  rcases Qf.mp hp with hp | hp
  .obtain ⟨h1,h2,h3⟩:=I.pin p hp
   exact ⟨h1,Z4F h2,h3⟩
  .have e:p=(a,o):=by simpa using hp
   subst e;exact ⟨ho,Z8Y,neL,ZeH I ha,hd⟩
 .obtain ⟨ne,e⟩:=ZgL e
  refine (I.hok b u e).stay (fun c v _ q=>q) (fun c q=>?_) fun c xs q=>?_
  .rw [Z1P (by rintro rfl;rw [ha] at q;cases q)];exact q
  .rw [Z1P (by rintro rfl;rw [ha] at q;cases q)];exact q
def Zdv(I0:Inv X pins σ0 H0 s0)(ha:H0 a=some (.dK kvs))(ho:s0.heap.get? a=some o)(I:Inv X (pins++[(a,o)]) σ H s):Inv X pins σ (upd H a (.dK kvs)) s:=by
 have pa:=I.pin (a,o) (by simp);have hn:H a=none:=pa.2.1;refine ⟨I.ok,I.os,I.bare,⟨I.base.keep,I.base.slot,fun b ob e n hx=>?_,I.base.there,fun b xs e=>?_,fun b ob u e=>?_,fun b ps e=>?_⟩,I.loc,I.cell,?_,fun x c e=>?_,fun p hp=>?_,fun b u e=>?_,I.len⟩
 .have z:=I0.base.free b ob e n hx
  rw [Zb (by rintro rfl;rw [ha] at z;cases z)];exact I.base.free b ob e n hx
 .have z:=I.base.tups b xs e
  rw [Zb (by rintro rfl;rw [hn] at z;cases z)];exact z
 .have z:=I.base.frzs b ob u e
  rw [Zb (by rintro rfl;rw [hn] at z;cases z)];exact z
 .obtain ⟨m,z⟩:=I.base.tbls b ps e
  exact ⟨m,by rw [Zb (by rintro rfl;rw [hn] at z;cases z)];exact z⟩
 .rw [Zb (Ne.symm pa.2.2.1)];exact I.free
 .have z:=I0.freeC x c e
  rw [Zb (by rintro rfl;rw [ha] at z;cases z)];exact I.freeC x c e
 .have z:=(I0.pin p hp).2.1
  have q:=I.pin p (by rw [<- Qn];exact Qh _ hp);exact ⟨q.1,by rw [Zb (by intro e;rw [e,ha] at z;cases z)];exact q.2.1,q.2.2⟩
 .by_cases hb:b=a
  .subst hb
   rw [Zj] at e;cases e;obtain ⟨z,hd,vs,rel,ob,es,ep,e1,r⟩:=dk_rd I0.hok (.inl ha);rw [ho] at e1;cases e1;exact ⟨z,hd,vs,rel,_,es,ep,pa.1,r⟩
  .rw [Zb hb] at e
   refine (I.hok b u e).stay (fun c v _ q=>q) (fun c q=>?_) fun c xs q=>?_
   .rw [Zb (by rintro rfl;rw [hn] at q;cases q)];exact q
   .rw [Zb (by rintro rfl;rw [hn] at q;cases q)];exact q
end
end
section
variable {K:Qa}{R:RC}{ix:List Nat}{hd hm:List (Nat×Addr)}{X:Cx}{H H':Hp}{σ:L2.St}{ts:Ts}{fr:List T}{D:Ends}
theorem zip_get{α β:Type}{x:α}{y:β}:∀ {l:List α} {m:List β} {i:Nat},(l.zip m)[i]?=some (x,y)->l[i]?=some x/\m[i]?=some y
 | [],_,_,h=>by simp at h
 | _::_,[],_,h=>by simp at h
 | a::l,b::m,0,h=>by simp at h;simp [h.1,h.2]
 | a::l,b::m,i + 1,h=>by
  have:=zip_get (l:=l) (m:=m) (i:=i) (by simpa using h);simpa using this
end
mutual
abbrev Z1b(c:BF)(body:SF):Nat->Sd->SR
 | 0,_=>.no
 | m + 1,s=>match c s with
  | .ok true s1=>(match body s1 with
   | .nx s2=>Z1b c body m s2
   | .ct s2=>Z1b c body m s2
   | .bk s2=>.nx s2
   | .rt r s2=>.rt r s2
   | .ex C s2=>.ex C s2
   | .no=>.no)
  | .ok false s1=>.nx s1
  | .ex C s1=>.ex C s1
  | .no=>.no
abbrev sWhile(n:Nat)(c:BF)(body:SF):SF:=fun s=>Z1b c body n s
def Zde{n:Nat}{c:BF}{body:SF}{s:Sd}:sWhile n c body s=Z1b c body n s:=id rfl
def Z3v{c:BF}{body:SF}:∀ (m:Nat) (s s':Sd),Z1b c body m s≠.bk s'/\Z1b c body m s≠.ct s'
 | 0,s,s'=>⟨(by intro h;cases h),(by intro h;cases h)⟩
 | m + 1,s,s'=>by
  unfold Z1b
  cases c s with
  | no=>exact ⟨(by intro h;cases h),(by intro h;cases h)⟩
  | ex C s1=>exact ⟨(by intro h;cases h),(by intro h;cases h)⟩
  | ok b s1=>cases b with
   | false=>exact ⟨(by intro h;cases h),(by intro h;cases h)⟩
   | true=>
    dsimp only
    cases body s1 with
    | nx s2=>exact Z3v m s2 s'
    | ct s2=>exact Z3v m s2 s'
    | _=>exact ⟨(by intro h;cases h),(by intro h;cases h)⟩
end
section
mutual
variable {R:RC}{ix:List Nat}{hd hm:List (Nat×Addr)}{X:Cx}{H H':Hp}{σ:L2.St}{ts:Ts}{fr:List T}{D:Ends}
def Zdx{n:Nat}{c:BF}{body:SF}(D:Ends)(σ:L2.St)(H:Hp)(h:lS R ix (sWhile n c body) D σ H):tWhile (lT R ix c) (lS R ix body) D σ H:=by
 obtain ⟨hd,ts,fr,C,h⟩:=h;have P0:Post R ix hd fr D (Z1b c body n (ts.map TL.er)):=Post.of (f:=sWhile n c body) h (fun s=>(Z3v n _ s).1) (fun s=>(Z3v n _ s).2);refine ⟨fun m σ H=>∃ ts,Cf R ix hd H σ ts fr/\Post R ix hd fr D (Z1b c body m (ts.map TL.er)),⟨n,ts,C,P0⟩,?_⟩;rintro m σ H ⟨ts,C,P⟩
 cases m with
 | zero=>exact P.elim
 | succ m=>
  unfold Z1b at P;refine ⟨hd,ts,fr,C,?_⟩
  cases ec:c (ts.map TL.er) with
  | no=>rw [ec] at P;exact P.elim
  | ex E s1=>rw [ec] at P;intro H1 ts1 e1 C1;exact P H1 σ ts1 e1 C1
  | ok b s1=>
   rw [ec] at P;intro H1 ts1 e1 C1;subst e1
   cases b with
   | false=>rw [if_neg Ql];exact P H1 σ ts1 rfl C1
   | true=>
    rw [if_pos rfl];refine ⟨fun σ' H'=>∃ ts',Cf R ix hd H' σ' ts' fr/\Post R ix hd fr D (Z1b c body m (ts'.map TL.er)),fun σ' H' q=>⟨m,Wn m,q⟩,hd,ts1,fr,C1,?_⟩;dsimp only at P
    cases ed:body (ts1.map TL.er) with
    | nx s2=>rw [ed] at P;intro H3 σ3 ts3 e3 C3;subst e3;exact ⟨ts3,C3,P⟩
    | ct s2=>rw [ed] at P;intro H3 σ3 ts3 e3 C3;subst e3;exact ⟨ts3,C3,P⟩
    | bk s2=>rw [ed] at P;exact P
    | rt r s2=>rw [ed] at P;exact P
    | ex E s2=>rw [ed] at P;exact P
    | no=>rw [ed] at P;exact P.elim
def ZdV{n:Nat}{ce:Expr}{bs:List Stmt}{c:BF}{body:SF}{pos:Pos}(hp:PassesOwn (model X.prog X.w) X.A X.env X.xe)(hc:PT X ce (lT R ix c))(hb:PSs X bs (lS R ix body)):PS X (.While ce bs [] pos) (lS R ix (sWhile n c body)):=
 psM (ZdK hp hc hb) Zdx
def Z9a{c:BF}{body:SF}(P:Sd->Prop)(Q:Sd->Prop)(μ:Sd->Nat)
  (hs:∀ s,P s->∃ b s1,c s=.ok b s1/\(b=false->Q s1)/\(b=true->∃ s2,(body s1=.nx s2\/body s1=.ct s2)/\P s2/\μ s2 < μ s)) :
  ∀ (m:Nat) (s:Sd),μ s < m->P s->∃ s',Z1b c body m s=.nx s'/\Q s'
 | 0,s,hm,_=>absurd hm (Nat.not_lt_zero _)
 | m + 1,s,hm,h=>by
  obtain ⟨b,s1,h1,h2,h3⟩:=hs s h
  cases b with
  | false=>exact ⟨s1,by unfold Z1b;rw [h1],h2 rfl⟩
  | true=>
   obtain ⟨s2,h4,h5,h6⟩:=h3 rfl
   have e:Z1b c body (m + 1) s=Z1b c body m s2:=by
    conv=>lhs;unfold Z1b
    rw [h1];dsimp only;rcases h4 with h4 | h4 <;> rw [h4]
   rw [e];exact Z9a P Q μ hs m s2 (by omega) h5
end
end
mutual
abbrev itS(y:Str)(i:Nat)(_:Sd):Option (Option DV):=some ((y.cps[i]?).map fun c=>.val (.at (.str ⟨#[c]⟩)))
abbrev sForS(f:EF)(b:Sd->DV->Option Sd)(body:SF):SF:=fun s=>match f s with
 | .ok (.val (.at (.str y))) s1=>ZZ (itS y) b body (y.cps.size + 1) 0 s1
 | .ex C s1=>.ex C s1
 | _=>.no
def Zew{f:EF}{b:Sd->DV->Option Sd}{body:SF}{s:Sd}:sForS f b body s=(match f s with
 | .ok (.val (.at (.str y))) s1=>ZZ (itS y) b body (y.cps.size + 1) 0 s1
 | .ex C s1=>.ex C s1
 | _=>.no):=id rfl
end
section
mutual
variable {R:RC}{ix:List Nat}{hd:List (Nat×Addr)}{X:Cx}{H H':Hp}{σ:L2.St}{ts:Ts}{fr:List T}{D:Ends}
def Zgq{y:Str}(i:Nat)(H:Hp)(σ:L2.St)(ts:Ts)(C:Cf R ix hd H σ ts fr):(itS y i (ts.map TL.er)=some none->(Its y).stop i H)/\∀ r,itS y i (ts.map TL.er)=some (some r)->(Its y).go i H/\∀ x H',(Its y).yld i H x H'->∃ tv,tv.er=r/\Z08 ts x tv/\Cf R ix hd H' σ ts (tv.tr++fr):=by
 unfold itS
 cases e:y.cps[i]? with
 | none=>exact ⟨fun _=>by have:=Array.getElem?_eq_none_iff.mp e;exact this,fun r z=>by cases z⟩
 | some c=>
  refine ⟨(fun z=>by cases z),fun r z=>?_⟩;cases z;refine ⟨(Array.getElem?_eq_some_iff.mp e).1,?_⟩;rintro x _ ⟨rfl,c',hc,rfl⟩;rw [e] at hc;cases hc;exact ⟨.val (.at (.str ⟨#[c]⟩)),rfl,rfl,C.at _⟩
def ZeT{f:EF}{b:Sd->DV->Option Sd}{body:SF}(D:Ends)(σ:L2.St)(H:Hp)(h:lS R ix (sForS f b body) D σ H):tFor (iStr (lE R ix f)) (lG R ix b) (lS R ix body) D σ H:=by
 obtain ⟨hd,ts,fr,C,h⟩:=h;refine ⟨hd,ts,fr,C,?_⟩;unfold sForS at h
 cases ef:f (ts.map TL.er) with
 | no=>rw [ef] at h;exact h
 | ex E s1=>rw [ef] at h;intro H1 ts1 e1 C1;exact h H1 σ ts1 e1 C1
 | ok r s1=>
  rw [ef] at h;intro H1 ts1 tv v e1 e2 hv C1;subst e1
  cases r with
  | plc _ _=>exact h.elim
  | val d=>
   obtain ⟨t,rfl,rfl,rfl⟩:=hv.er_val e2
   cases t with
   | nd a k l=>exact h.elim
   | «at» u=>
    cases u with
    | str y=>
     refine ⟨y,rfl,?_⟩;exact Z1w Zgq C1.drop (Post.of (f:=fun s=>ZZ (itS y) b body (y.cps.size + 1) 0 s) h (fun s=>(Z1s _ _ _ s).1) fun s=>(Z1s _ _ _ s).2)
    | _=>exact h.elim
def Zfv{tg l:Expr}{bs:List Stmt}{f:EF}{b:Sd->DV->Option Sd}{body:SF}{fpos:Pos}(hp:PassesOwn (model X.prog X.w) X.A X.env X.xe)(hc:X.calm=true)(hl:PE X l (lE R ix f))(hg:PG X tg (lG R ix b))(hb:PSs X bs (lS R ix body))
  (hs:autoParam (∀ x,foldedSetIterable l X.env x=pure x) uC._auto_1):PS X (.For tg l bs [] fpos) (lS R ix (sForS f b body)):=
 psM (Z7l hp hc (ZgZ hl) hg hb hs) ZeT
end
end
noncomputable def hInS(neg:Bool):List D->Option D
 | [.at (.str x),.at (.str y)]=>some (.at (.bl (if neg then !(!(Builtin.Str.occurrences y x 0 y.length 1).isEmpty) else !(Builtin.Str.occurrences y x 0 y.length 1).isEmpty)))
 | _=>none
section
mutual
variable {X:Cx}{H:Hp}
def Z4h{t:T}{i:Str}(h:t.er=.at (.str i)):t=.at (.str i):=by
 cases t with
 | nd a k l=>cases h
 | «at» u=>cases u with
  | str j=>cases h;rfl
  | _=>cases h
def Zds{neg:Bool}{t u:T}{d:D}(h:hInS neg [t.er,u.er]=some d):∃ x y,t=.at (.str x)/\u=.at (.str y)/\d=.at (.bl (if neg then !(!(Builtin.Str.occurrences y x 0 y.length 1).isEmpty) else !(Builtin.Str.occurrences y x 0 y.length 1).isEmpty)):=by
 cases t with
 | nd _ _ _=>cases h
 | «at» w=>cases w with
  | str x=>cases u with
   | nd _ _ _=>cases h
   | «at» w=>cases w with
    | str y=>cases h;exact ⟨x,y,rfl,rfl,rfl⟩
    | _=>cases h
  | _=>cases h
def Zf2:OpR X (compareOp .NotIn) (oNw (hInS true)):=opM Z9g fun x y H Q q=>by
 obtain ⟨t,u,ht,hu,rfl,rfl,d,hh,q⟩:=gNw2 q;obtain ⟨x,y,rfl,rfl,rfl⟩:=Zds hh;exact ⟨x,y,rfl,rfl,q (.at (.bl _)) H rfl (.atom _)⟩
end
end
section
mutual
variable {X:Cx}{R:RC}{ix:List Nat}{e:Expr}{pos:Pos}
def Zch:SlR X (fun x lo hi H Q=>∃ y,x=.str y/\y.length<=sizeLine/\Q (.str (Txt.slice y lo hi)) H):=by
 intro pins s σ H x v vl vu lo hi sl Q I rx hs pl pu h;obtain ⟨y,rfl,hz,q⟩:=h;obtain ⟨t,rfl⟩:=rx;refine ⟨"str",_,F.slot_str_getitem.lookup,typeIs_str _ _ _,?_⟩;obtain ⟨o,ho,hc,hd⟩:=hs;have fin:∀ t' k,EP X pins σ Q (.str (Txt.slice y lo hi) t') { s with toks:=k }:=fun t' k=>⟨.str (Txt.slice y lo hi),H,I.tok k,⟨t',rfl⟩,q⟩;have hle:=Jr (Txt.slice_le y lo hi) hz
 cases pl with
 | none=>cases pu with
  | none=>exact wpAny_getItem_str_slice (l:=none) (u:=none) (st:=none) ⟨o,ho,hc,hd⟩ rfl (post_val_or_str ⟨hle,fin⟩)
  | int j uj=>exact wpAny_getItem_str_slice (l:=none) (u:=some (j,uj)) (st:=none) ⟨o,ho,hc,hd⟩ rfl (post_val_or_str ⟨hle,fin⟩)
 | int i ui=>cases pu with
  | none=>exact wpAny_getItem_str_slice (l:=some (i,ui)) (u:=none) (st:=none) ⟨o,ho,hc,hd⟩ rfl (post_val_or_str ⟨hle,fin⟩)
  | int j uj=>exact wpAny_getItem_str_slice (l:=some (i,ui)) (u:=some (j,uj)) (st:=none) ⟨o,ho,hc,hd⟩ rfl (post_val_or_str ⟨hle,fin⟩)
abbrev Z2c(lo:Bool):List D->Option D
 | [.at (.str x),.at (.int i)]=>if x.length<=sizeLine then some (.at (.str (if lo then Txt.slice x (some i) none else Txt.slice x none (some i)))) else none
 | _=>none
def Z8W{lo:Bool}{x y:V}{H:Hp}{Q:VK}(h:gNw (Z2c lo) [x,y] H Q):∃ (z:Str) (i:Int),x=.str z/\y=.int i/\z.length<=sizeLine/\Q (.str (if lo then Txt.slice z (some i) none else Txt.slice z none (some i))) H:=by
 obtain ⟨t,u,ht,hu,rfl,rfl,d,hh,q⟩:=gNw2 h
 cases t with
 | nd _ _ _=>cases hh
 | «at» w=>cases w with
  | str z=>cases u with
   | nd _ _ _=>cases hh
   | «at» w=>cases w with
    | int i=>
     by_cases hz:z.length<=sizeLine
     .cases (if_pos hz).symm.trans hh
      exact ⟨z,i,rfl,rfl,hz,q (.at (.str _)) H rfl (.atom _)⟩
     .cases (if_neg hz).symm.trans hh
    | _=>cases hh
  | _=>cases hh
def Z8l{a:Expr}{p2:Pos}{f g:EF}(he:PE X e (lE R ix f))(ha:PE X a (lE R ix g)):PE X (.Subscript e (.Slice (some a) none none p2) pos) (lE R ix (eNw (Z2c true) (Z0 f (Z0 g Z1)))):=
 peM (Z4U Zch he (Z6b ha) Z6a) fun σ H Q q=>Zd (fun x H1 z=>Zd (fun y H2 z=>by
  obtain ⟨s,i,rfl,rfl,hs,q⟩:=Z8W z;exact ⟨i,rfl,s,rfl,hs,q⟩) z) (Z1e (Z0P σ H Q q))
def Z43{a:Expr}{p2:Pos}{f g:EF}(he:PE X e (lE R ix f))(ha:PE X a (lE R ix g)):PE X (.Subscript e (.Slice none (some a) none p2) pos) (lE R ix (eNw (Z2c false) (Z0 f (Z0 g Z1)))):=
 peM (Z4U Zch he Z6a (Z6b ha)) fun σ H Q q=>Zd (fun x H1 z=>Zd (fun y H2 z=>by
  obtain ⟨s,i,rfl,rfl,hs,q⟩:=Z8W z;exact ⟨i,rfl,s,rfl,hs,q⟩) z) (Z1e (Z0P σ H Q q))
end
end
section
mutual
variable {X:Cx}{R:RC}{ix:List Nat}
def Z9X{x:V}:∀ {xs:List V} {us:List Value},Vals xs us->xs.all Z0d=true->us.countP (eqU x)=xs.countP fun y=>eqV y x
 | _,_,.nil,_=>rfl
 | y::xs,u::us,.cons r t,f=>by
  rw [Gp,Ja] at f;rw [List.countP_cons,List.countP_cons,Z90 r f.1,Z9X t f.2]
def ZdB:MtR X "list.count" (fun x vs H Q=>∃ l xs v,x=.ref l/\vs=[v]/\H l=some (.lst xs)/\Z0d v=true/\xs.all Z0d=true/\Q (.int ((xs.countP fun y=>eqV y v:Nat):Int)) H):=by
 intro pins s σ H x vs v us Q I rx rv h;obtain ⟨l,xs,w,rfl,rfl,hH,fw,fs,q⟩:=h;cases rx;obtain ⟨u,rfl,ru⟩:=rv.one;obtain ⟨z,its,n,r,hl,e⟩:=I.lstM hH;refine call_meets F.slot_list_count ⟨_,e,rfl⟩ F.entry_list_count (F.args_list_count_2 _ _) (SeqAt.list_countAt l its.toArray n none #[] u (eqU w)) ⟨e,fun y hy=>Z4Q ru fw r fs y (by simpa using hy),?_⟩;refine ⟨.int _,H,I.tok _,⟨_,rfl⟩,?_⟩;rw [show its.toArray.toList=its from rfl,Z9X r fs];exact q
abbrev hCount:List D->Option D
 | [.nd (.lst true) l,.at x]=>if Z0d x=true then (match Z12 l with | some vs=>some (.at (.int ((vs.countP fun y=>eqV y x:Nat):Int))) | none=>none) else none
 | _=>none
def Zh9{o e:Expr}{apos cpos:Pos}{fo fe:EF}(ho:PE X o (lE R ix fo))(he:PE X e (lE R ix fe))(hbase:autoParam (attributeBase o "count" X.env (eval o X.env)=eval o X.env) uA._auto_1)
  (hfew:autoParam (((backTo cpos (starEach [e] X.env)).all (fun x=>!x.1) && (backToKw cpos (keywordEach [] X.env)).all (fun x=>x.1.isSome) && decide ([e].length + ([]:List Keyword).length + (if ([]:List Keyword).isEmpty then 0 else 1) < 30))=true) uA._auto_1)
  (hline:autoParam ((apos.endLine == cpos.line)=true) uA._auto_1) (hs:autoParam (starEach [e] X.env=(false,eval e X.env)::starEach [] X.env) uA._auto_1) (hplain:autoParam ((backTo cpos (starEach [] X.env)).any (·.1)=false) uA._auto_1) :
  PE X (.Call (.Attribute o "count" apos) [e] [] cpos) (lE R ix (eNw hCount (Z0 (Zr Z2d fo) (Z0 fe Z1)))):=
 peM (pe_bm PySem.F.plainAttrs_list PySem.F.slot_list_count PySem.F.type_list_count ZdB ho (Zg he ZF hs) hbase hfew hline hs hplain) fun σ H Q q=>by
  have q1:=Z1e (Z0P σ H Q q);refine Zd (fun x H1 q=>?_) (Z2Q q1);obtain ⟨⟨t0,rfl,t2,t3⟩,q⟩:=q
  obtain ⟨a,k,ch,rfl,hD⟩:∃ a m ch,t0=.nd a (.lst m) ch/\SqL X.K H1 a (ch.map T.val):=by
   cases t0 with
   | «at» v=>cases t3
   | nd a k ch=>cases k with
    | lst m=>exact ⟨a,m,ch,rfl,t2.1.sqL⟩
    | _=>cases t3
  refine ⟨.inl ⟨rfl,_,hD⟩,Zd (fun y H2 q=>?_) q⟩;obtain ⟨t,u,ht,hu,e1,e2,d,hh,q⟩:=gNw2 q
  cases t with
  | «at» _=>cases hh
  | nd b kk cs=>cases kk with
   | lst m=>cases m with
    | false=>cases hh
    | true=>cases u with
     | nd _ _ _=>cases hh
     | «at» z=>
      cases e1;by_cases fw:Z0d (cl z)=true
      case neg=>cases (if_neg fw).symm.trans hh
      have hh:(match Z12 (T.ers cs) with | some vs=>some (D.at (.int ((vs.countP fun y=>eqV y (cl z):Nat):Int))) | none=>none)=some d:=(if_pos fw).symm.trans hh
      have ez:cl z=z:=by cases z <;> first | rfl | cases fw
      cases ea:Z12 (T.ers cs) with
      | none=>rw [ea] at hh;cases hh
      | some vs=>
       rw [ea] at hh;cases hh;obtain ⟨g1,g2⟩:=Z4E ea;rw [ez] at fw;refine ⟨a,cs.map T.val,z,rfl,by rw [<- e2];rfl,ht.1,fw,by rw [g1];exact g2,?_⟩;rw [g1];have:=q (.at (.int _)) H2 rfl (.atom _);rw [ez] at this;exact this
   | _=>cases hh
end
end
theorem ZbK{α β:Type}(f:α->β):∀ (l:List α) (i:Nat),(l.eraseIdx i).map f=(l.map f).eraseIdx i
 | [],_=>rfl
 | a::l,0=>rfl
 | a::l,i + 1=>by simp only [List.eraseIdx_cons_succ,Qj,ZbK f l i]
section
mutual
variable {X:Cx}{R:RC}{ix:List Nat}{H H1:Hp}{σ:L2.St}{ts:Ts}{fr:List T}
abbrev strsD:List D->Option (List Str)
 | []=>some []
 | .at (.str y)::r=>(match strsD r with | some ys=>some (y::ys) | none=>none)
 | _=>none
def Zau:∀ {l:List T} {ys:List Str},strsD (T.ers l)=some ys->l=ys.map fun y=>T.at (.str y)
 | [],ys,h=>by cases h;rfl
 | t::l,ys,h=>by
  cases t with
  | nd a k c=>cases h
  | «at» v=>
   cases v with
   | str y=>
    simp only [T.ers,T.er,cl,strsD] at h
    cases e:strsD (T.ers l) with
    | none=>rw [e] at h;cases h
    | some zs=>rw [e] at h;cases h;rw [Zau e];rfl
   | _=>cases h
end
end
mutual
structure TurnP(P:Program)(w:World)(K:Qa)(tg:Expr)(J:It)(fp:List Addr)(it:Addr)(tn:Nat->Heap->Prop)(ao:Addr×Obj):Prop where
 obj:∀ i h,tn i h->∀ b∈fp,∃ o,h.get? b=some o/\∀ v,o.data≠.cell v
 keep:∀ i h h',tn i h->(∀ b∈fp,∀ o,h.get? b=some o->h'.get? b=some o)->tn i h'
 item:∀ (X:Cx),X.prog=P->X.w=w->X.K=K->X.calm=true->∀ (i:Nat) (pins:List (Addr×Obj)) (s:Shared) (σ:L2.St) (H:Hp) (E:Value->Shared->Prop),ao∈pins->Inv X pins σ H s->(∀ b∈fp,Z1d X pins H b)->tn i s.heap->J.go i H ->
  wpAny (model P w) X.A (pyNext (.ref it)) (fun r s1=>∃ u,r=some u /\
   wpAny (model P w) X.A (letOwnedTupleGo tg (.ref it) u) (fun _ s2=>∃ x H',Inv X pins σ H' s2/\RelV x u/\J.yld i H x H'/\tn (i + 1) s2.heap/\∀ b∈fp,H' b=none) E s1) E s
 done:∀ (X:Cx),X.prog=P->X.w=w->X.K=K->X.calm=true->∀ (i:Nat) (pins:List (Addr×Obj)) (s:Shared) (σ:L2.St) (H:Hp) (E:Value->Shared->Prop),ao∈pins->Inv X pins σ H s->(∀ b∈fp,Z1d X pins H b)->tn i s.heap->J.stop i H ->
  wpAny (model P w) X.A (pyNext (.ref it)) (fun r s1=>r=none/\Inv X pins σ H s1) E s
 self:∀ (A:Around) (i:Nat) (s:Shared) (Q:Value->Shared->Prop) (E:Value->Shared->Prop),tn i s.heap->Q (.ref it) s->wpAny (model P w) A (pyIter (.ref it)) Q E s
abbrev Itv(kvs:List (Key×V)):It:=⟨fun i _=>i < kvs.length,fun i H x H'=>H'=H/\∃ k,kvs[i]?=some (k,x),fun i _=>kvs.length<=i⟩
def Zcn{P:Program}{w:World}{K:Qa}{tg:Expr}(a it:Addr)(oa:Obj)(ep:Nat){kvs:List (Key×V)}{vs:List (Key×Value)}(rel:KV kvs vs)(hat:∀ h:Heap,h.get? a=some oa->h.DictAt (ZL P w) a vs ep):TurnP P w K tg (Itv kvs) [it] it (fun i h=>h.IsValIter it a i vs.length ep) (a,oa) where
 obj:=fun i h st b hb=>by
  have e:b=it:=by simpa using hb
  subst e;obtain ⟨o,e,c,d⟩:=st;exact ⟨o,e,fun v z=>by rw [d] at z;cases z⟩
 keep:=fun i h h' st k=>by
  obtain ⟨o,e,r⟩:=st;exact ⟨o,k it (by simp) o e,r⟩
 item:=by
  intro X hP hw hK hc i pins s σ H E hao I hf st hg;subst hP hw hK;obtain ⟨⟨k,x⟩,hk⟩:∃ q,kvs[i]?=some q:=⟨_,Qk hg⟩;obtain ⟨u,hu,ru⟩:=ZbF rel hk;obtain ⟨f0,f1,f2,f3,f4,f5⟩:=hf it (by simp);have hd:=hat s.heap (I.pin (a,oa) (Qe _ hao)).1;refine wpAny_pyNext_values_item st hd hu fun h' st' sb=>?_;have I1:Inv X pins σ H { s with heap:=h' }:=I.turned (t':=s.toks) (fun b o hb e=>(sb.2 b hb).trans e) f0 f1 f3 f4 f5;obtain ⟨o,e,c,d⟩:=id st';exact ⟨u,rfl,go_of (s:={ s with heap:=h' }) e c d (by decide) ⟨x,H,I1,ru,⟨rfl,k,hk⟩,st',fun b hb=>(hf b hb).1⟩⟩
 done:=by
  intro X hP hw hK hc i pins s σ H E hao I hf st hg;subst hP hw hK;obtain ⟨f0,f1,f2,f3,f4,f5⟩:=hf it (by simp);have hd:=hat s.heap (I.pin (a,oa) (Qe _ hao)).1;have hl:=rel.length;have hg':kvs.length<=i:=hg;exact wpAny_pyNext_values_end (I.ok.hd hc) st hd (Ww (by omega)) fun h' eb=>⟨rfl,I.turned (t':=s.toks) (fun b o hb e=>eb b o hb e) f0 f1 f3 f4 f5⟩
 self:=fun _ _ _ _ _ st h=>wpAny_pyIter_valiter st h
end
section
mutual
variable {X:Cx}
def Z9H{t:Nat}{N:List Str}{scope:Scope}{tg iter elt:Expr}{ifs:List Expr}{cl:List (Str×Addr)}{pos:Pos}{g:TG}{tt:TT}{te:TE}{pins:List (Addr×Obj)}{σ:L2.St}{H1:Hp}{s2:Shared}{E:Value->Shared->Prop}
  {it:Addr} {fp:List Addr} {tn:Nat->Heap->Prop} {J:It} {Q:VK} {RR:Value->Addr->Result->Shared->Prop}
  (hc:X.calm=true) (S:CompSc X t N scope) (q1:∀ n c,cl.lookup n=some c->X.env.cells.lookup n=some c) (q2:∀ n,(n,NameKind.free)∈scope.names->∃ c,cl.lookup n=some c)
  (hg:∀ C s H fp,PG (cxC X N scope cl C s H fp) tg g) (hf:∀ C s H fp,PF (cxC X N scope cl C s H fp) ifs tt) (he:∀ C s H fp,PE (cxC X N scope cl C s H fp) elt te)
  (I:Inv X pins σ H1 s2) {ao:Addr×Obj} (T:TurnP X.prog X.w X.K tg J fp it tn ao) (hao:ao∈pins) (st:tn 0 s2.heap) (f2:∀ b∈fp,Z1d X pins H1 b)
  (h:∀ D,H1 D=none->∃ W:Nat->Nat->List V->L2.St->Hp->Prop,(∃ m,W 0 m [] (List.replicate t none++σ) (upd H1 D (.lst [])))/\∀ i m ys τ H,W i m ys τ H ->
   (J.stop i H/\Q (.ref D) H)\/(J.go i H/\∃ N:List V->L2.St->Hp->Prop,(∀ zs τ' H',N zs τ' H'->∃ m',m' < m/\W (i + 1) m' zs τ' H')/\∀ x H',J.yld i H x H'->g x τ H' fun τ2 H2=>tt τ2 H2 fun b H3=>
    if b=true then te τ2 H3 fun y H4=>H4 D=some (.lst ys)/\ys.length < sizeLine/\N (ys++[y]) τ2 (upd H4 D (.lst (ys++[y]))) else N ys τ2 H3))
  (hR:∀ D C s' H',s2.heap.objs.size<=C->D≠C->Inv X pins σ H' s'->H' C=none->(∃ m,s'.heap.Ns C m)->Q (.ref D) H'->RR (.ref D) C (.ok .next) s') :
  wpAny (model X.prog X.w) X.A (newList []) (fun acc s₃=>wpAny (model X.prog X.w) X.A (newFunctionEnv scope X.env.globals cl [] X.env.qual none .none (some X.env)) (fun cenv s₄=>
   codeAny (model X.prog X.w) X.A (.compStart (.ListComp elt [⟨tg,iter,ifs,0⟩] scope pos) 0 (.ref it) acc { cenv with scope:=relabel scope X.env }) (RR acc cenv.locals) s₄) E s₃) E s2:=by
 refine wpAny_newObj_type (wpAny_newFunctionEnv S.nocell (by intro y hy;simp at hy) (fun h₁ hns₁ hsb₁=>?_) S.kind);dsimp only at hns₁ hsb₁ ⊢;generalize hH2:s2.heap.push { cls:=.type "list",dict:=none,data:=.seq ([]:List Value).toArray }=H2 at hns₁ hsb₁ ⊢;have hCs:H2.objs.size=s2.heap.objs.size + 1:=by rw [<- hH2,Wj]
 have hDC:s2.heap.objs.size≠H2.objs.size:=by rw [hCs];exact Jc (Wn _)
 have hCle:s2.heap.objs.size<=H2.objs.size:=by rw [hCs];exact Nat.le_succ _
 have old:∀ b o,s2.heap.get? b=some o->h₁.get? b=some o:=fun b o e=>
  hsb₁.extBut b o (by rw [hCs];exact Jc (Wd (Qz e))) (Qi _ (hH2 ▸ Qi _ e))
 have hacc:h₁.get? s2.heap.objs.size=some { cls:=.type "list",data:=.seq ([]:List Value).toArray }:=hsb₁.extBut _ _ hDC (Qi _ (hH2 ▸ Qy _ rfl));have hfp:∀ b∈fp,Z1d X pins H1 b/\b < s2.heap.objs.size:=fun b hb=>⟨f2 b hb,by obtain ⟨o,e,_⟩:=T.obj _ _ st b hb;exact Qz e⟩;have hns:h₁.Ns H2.objs.size fun _=>none:=hns₁;have I4:=Z6U (tk:=s2.toks + ([]:List (Str×Value)).length) I S hCle (Qq _) hDC hfp q1 q2 hns old hacc;have st1:tn 0 h₁:=T.keep _ _ _ st fun b _ o e=>old b o e;obtain ⟨W,⟨m0,w0⟩,turn⟩:=h s2.heap.objs.size (I.hok.fresh (Qq _));generalize hY:cxC X N scope cl H2.objs.size s2 H1 fp=Y at I4
 have yfp:∀ {H':Hp},(∀ b∈fp,H' b=none)->∀ b∈fp,Z1d Y pins H' b:=fun hn b hb=>by
  obtain ⟨⟨_,g1,g2,g3,g4,g5⟩,gl⟩:=hfp b hb;subst hY;refine ⟨hn b hb,Jc (Qv gl hCle),fun z=>?_,.inl hb,fun x c e=>g4 x c (q1 x c e),g5⟩;rcases Jb.mp (I.stkSub b z) with w | w
  .exact g1 w
  .exact g2 w
 have eP:Y.prog=X.prog:=by subst hY;rfl
 have ew:Y.w=X.w:=by subst hY;rfl
 have eK:Y.K=X.K:=by subst hY;rfl
 have eA:Y.A=X.A:=by subst hY;rfl
 have ecalm:Y.calm=true:=by subst hY;exact hc
 have loop:codeAny (model X.prog X.w) X.A (.compLoop (.ListComp elt [⟨tg,iter,ifs,0⟩] scope pos) 0 (.ref it) (.ref s2.heap.objs.size) (compEnvC scope cl H2.objs.size X.env))
    (RR (.ref s2.heap.objs.size) H2.objs.size) { s2 with heap:=h₁,toks:=s2.toks + ([]:List (Str×Value)).length }:=by
  refine Z5u (fun n s'=>∃ i ys τ H',Inv Y pins τ H' s'/\tn i s'.heap/\(∀ b∈fp,H' b=none)/\W i n ys τ H') ?_ m0 ⟨0,[],_,_,I4,st1,fun b hb=>?_,w0⟩
  .rintro n s3 ⟨i,ys,τ,H3,I3,st3,fr3,w3⟩
   rcases turn i n ys τ H3 w3 with ⟨stop,qn⟩ | ⟨go,NN,hNN,step⟩
   .have d:=T.done Y eP ew eK ecalm i pins s3 τ H3 (fun _ _=>False) hao I3 (yfp fr3) st3 stop
    rw [eA] at d;refine thn d fun r s4 ⟨hr,I5⟩=>?_;subst hr;subst hY;have J5:=Z8U (t:=t) I hCle hfp I5;obtain ⟨m,hn,_⟩:=I5.loc;exact hR _ _ s4 H3 hCle hDC J5 I5.free ⟨m,hn⟩ qn
   .have d:=T.item Y eP ew eK ecalm i pins s3 τ H3 (fun _ _=>False) hao I3 (yfp fr3) st3 go
    rw [eA] at d;refine thn d fun r s4 ⟨u,hr,h4⟩=>?_;subst hr;refine thn h4 fun _ s5 ⟨x,H5,I5,r5,y5,st5,fr5⟩=>?_;have I5':=I5.pinned (yfp fr5) (T.obj _ _ st5);subst hY;refine thn (hg _ _ _ _ _ s5 τ H5 x u _ I5' r5 (step x H5 y5)) fun _ s6 ⟨τ6,H6,I6,q6⟩=>?_;refine thn (hf _ _ _ _ _ s6 τ6 H6 _ I6 q6) fun b s7 ⟨H7,I7,q7⟩=>?_
    have again:∀ {zs:List V} {σ7:L2.St} {H7:Hp} {s7:Shared},Inv (cxC X N scope cl H2.objs.size s2 H1 fp) (pins++Z4p fp s5.heap) σ7 H7 s7->(∃ m',m' < n/\W (i + 1) m' zs σ7 H7) ->
      ∃ m,m < n/\∃ i ys τ H',Inv (cxC X N scope cl H2.objs.size s2 H1 fp) pins τ H' s7/\tn i s7.heap/\(∀ b∈fp,H' b=none)/\W i m ys τ H':=fun {zs σ7 H7 s7} I7 ⟨m',hm,w7⟩=>by
     refine ⟨m',hm,i + 1,zs,σ7,H7,I7.unpinned,T.keep _ _ _ st5 fun b hb o e=>(I7.pin (b,o) (Qe _ (Qe _ (Z1Z hb e)))).1,fun b hb=>?_,w7⟩;obtain ⟨o,e,d⟩:=T.obj _ _ st5 b hb;exact (I7.pin (b,o) (Qe _ (Qe _ (Z1Z hb e)))).2.1
    cases b with
    | false=>exact again I7 (hNN _ _ _ q7)
    | true=>
     have q7':=q7;rw [if_pos rfl] at q7' ⊢;refine thn (he _ _ _ _ _ s7 τ6 H7 _ I7 q7') fun v s8 ⟨y,H8,I8,r8,hl,hz,q8⟩=>?_;refine thn (Z3Z (X:=cxC X N scope cl H2.objs.size s2 H1 fp) _ s8 τ6 H8 (.ref s2.heap.objs.size) [y] (.ref s2.heap.objs.size) [v] (fun _ H9=>NN (ys++[y]) τ6 H9) I8 rfl (.cons r8 .nil) ⟨_,ys,y,rfl,rfl,hl,hz,q8⟩) fun _ s9 ⟨_,H9,I9,_,q9⟩=>?_;exact again I9 (hNN _ _ _ q9)
  .have z:=(hfp b hb).2
   rw [Zb (Jc z)];exact (f2 b hb).1
 exact codeAny_compStart_list loop (T.self _ 0 _ _ _ st1 loop)
abbrev tCompV(K:Qa)(t:Nat)(to:TE)(g:TG)(tt:TT)(te:TE):TE:=fun σ H Q=>to σ H fun x H1=>tyV K "dict" x H1/\∃ (a:Addr) (kvs:List (Key×V)),x=.ref a/\[]=([]:List V)/\H1 a=some (.dK kvs)/\∀ p,H1 p=none ->
 Z2a (Itv kvs) t g tt te σ (del (upd H1 p (.ext fun h=>h.IsValuesView p a)) a) fun v H2=>H2 a=none->Q v (upd H2 a (.dK kvs))
abbrev ValsQ(t:Nat)(g:TG)(tt:TT)(te:TE)(σ:L2.St)(Q:VK):VK:=fun v H2=>∃ (p a:Addr) (kvs:List (Key×V)) (H1:Hp),v=.ref p/\H1 p=none/\H1 a=some (.dK kvs)/\H2=upd H1 p (.ext fun h=>h.IsValuesView p a)/\Z2a (Itv kvs) t g tt te σ (del H2 a) fun v H2=>H2 a=none->Q v (upd H2 a (.dK kvs))
def ZdG{t:Nat}{N:List Str}{scope:Scope}{tg oe elt:Expr}{ifs:List Expr}{apos cpos pos:Pos}{to:TE}{g:TG}{tt:TT}{te:TE}(hc:X.calm=true)(ho:PE X oe to)(S:CompSc X t N scope)
  (hg:∀ cl C s H fp,PG (cxC X N scope cl C s H fp) tg g) (hf:∀ cl C s H fp,PF (cxC X N scope cl C s H fp) ifs tt) (he:∀ cl C s H fp,PE (cxC X N scope cl C s H fp) elt te)
  (hmono:∀ σ H (Q Q':VK),(∀ x H1,Q x H1->Q' x H1)->to σ H Q->to σ H Q')
  (hbase:autoParam (attributeBase oe "values" X.env (eval oe X.env)=eval oe X.env) uA._auto_1) (hline:autoParam ((apos.endLine == cpos.line)=true) uA._auto_1)
  (hs:autoParam (∀ x,foldedSetIterable (.Call (.Attribute oe "values" apos) [] [] cpos) X.env x=pure x) uC._auto_1):PE X (.ListComp elt [⟨tg,.Call (.Attribute oe "values" apos) [] [] cpos,ifs,0⟩] scope pos) (tCompV X.K t to g tt te):=by
 intro pins s σ H Q I h;obtain ⟨cl,e,q1,q2⟩:=Z4f (env:=X.env) (scope:=scope) fun p hp hk=>I.ok.has p.1 (S.free p hp hk)
 have h':tBM0 X.K "dict" (fun x xs H Q=>∃ a kvs,x=.ref a/\xs=[]/\H a=some (.dK kvs)/\∀ p,H p=none->Q (.ref p) (upd H p (.ext fun h=>h.IsValuesView p a))) to σ H (ValsQ t g tt te σ Q):=by
  refine hmono _ _ _ _ (fun x H1 q=>?_) h;obtain ⟨ty,a,kvs,e1,e2,e3,q⟩:=q;exact ⟨ty,a,kvs,e1,e2,e3,fun p hp=>⟨p,a,kvs,H1,rfl,hp,e3,rfl,q p hp⟩⟩
 rw [eval_ListComp];refine wpAny_comprehension_free (use:=none) rfl hs e S.kind S.names (thn (ZgR PySem.F.plainAttrs_dict PySem.F.slot_dict_values PySem.F.type_dict_values ZbM ho hbase hline pins s σ H _ I h') fun v s1 ⟨x,H2,I1,r1,q3⟩=>?_);obtain ⟨p,a,kvs,H1,rfl,hpn,ha1,rfl,hW⟩:=q3;cases r1;have hpa:a≠p:=by rintro rfl;rw [hpn] at ha1;cases ha1
 have ha2:upd H1 p (.ext fun h=>h.IsValuesView p a) a=some (.dK kvs):=by rw [Zb hpa];exact ha1
 have hvw:s1.heap.IsValuesView p a:=(I1.hok p _ Zj).1;obtain ⟨z,hd,vs,rel,dd⟩:=dk_rd I1.hok (.inl ha2);obtain ⟨oa,es,ep,e1,e2,e3,e4,e5,e6⟩:=id dd;have hat:s1.heap.DictAt (ZL X.prog X.w) a vs ep:=⟨oa,es,e1,e2,e3,e4,e5,e6⟩;have It:Inv X (pins++[(a,oa)]) σ (del (upd H1 p (.ext fun h=>h.IsValuesView p a)) a) s1:=ZbA I1 ha2 e1 (fun v z=>by rw [e3] at z;cases z);refine wpAny_pyIter_values hvw hat ?_;have fp:∀ {H':Hp},H' s1.heap.objs.size=none->Z1d X (pins++[(a,oa)]) H' s1.heap.objs.size:=fun hn=>It.fpOk (Qq _) hn;have I2:Inv X (pins++[(a,oa)]) σ (del (upd H1 p (.ext fun h=>h.IsValuesView p a)) a) { s1 with heap:=s1.heap.push { cls:=.type "dict_valueiterator",data:=.fields #[.ref a,.int 0 0,.int vs.length 0,.int ep 0] } }:=It.kept (t':=s1.toks) (fun b o e=>Qi _ e)
 refine Z9H (Q:=fun v H2=>H2 a=none->Q v (upd H2 a (.dK kvs))) (RR:=fun acc C=>compPost (model X.prog X.w) X.A X.xe none (EP X pins σ Q) acc C) hc S q1 q2 (hg cl) (hf cl) (he cl) I2 (Zcn (tg:=tg) a s1.heap.objs.size oa ep rel fun h' z=>⟨oa,es,z,e2,e3,e4,e5,e6⟩) (by simp) ⟨_,Qy _ rfl,rfl,rfl⟩ (fun b hb=>by
  have z:b=s1.heap.objs.size:=by simpa using hb
  subst z;exact fp (It.hok.fresh (Qq _))) hW ?_
 intro D C s' H' hC hDC J1 hn hm q;obtain ⟨m,hm⟩:=hm;have pa:=J1.pin (a,oa) (by simp);exact ⟨m,hm,fun h' hs'=>⟨.ref D,_,Zdv I1 ha2 e1 (Z8V I2 hC J1 hn hs'),rfl,q pa.2.1⟩⟩
end
end
mutual
abbrev Z0e{α:Type}:List Bool->List α->List α
 | b::bs,x::xs=>if b then x::Z0e bs xs else Z0e bs xs
 | _,_=>[]
def Z2k{α β:Type}(f:α->β):∀ (bs:List Bool) (xs:List α),(Z0e bs xs).map f=Z0e bs (xs.map f)
 | [],xs=>by cases xs <;> rfl
 | b::bs,[]=>rfl
 | b::bs,x::xs=>by cases b <;> simp [Z0e,Z2k f bs xs]
def Z8q{α:Type}{b:Bool}{x:α}:∀ {bs:List Bool} {xs:List α},bs.length=xs.length->Z0e (bs++[b]) (xs++[x])=Z0e bs xs++(if b then [x] else [])
 | [],[],_=>by cases b <;> rfl
 | c::bs,y::xs,h=>by
  have:=Z8q (b:=b) (x:=x) (bs:=bs) (xs:=xs) (by simpa using h);cases c <;> simp [Z0e,this]
def Z7V{α:Type}:∀ {bs:List Bool} {xs:List α},(Z0e bs xs).length<=xs.length
 | [],xs=>by cases xs <;> simp [Z0e]
 | b::bs,[]=>by simp [Z0e]
 | b::bs,x::xs=>by
  have:=Z7V (bs:=bs) (xs:=xs);cases b <;> simp [Z0e] <;> omega
abbrev fldD(C:Addr)(f:Str):D->Option D
 | .nd (.ins _ C' ns) l=>if C'=C then (match idx f ns with | some j=>l[j]? | none=>none) else none
 | _=>none
abbrev blD:Option D->Option Bool
 | some (.at (.bl b))=>some b | _=>none
abbrev stBs(CH:Addr)(G:Str):List D->Option (List Bool)
 | []=>some []
 | d::r=>match blD (fldD CH G d),stBs CH G r with | some b,some l=>some (b::l) | _,_=>none
abbrev stOf(C CH:Addr)(F G:Str)(d:D):Option (List D×List Bool):=match fldD C F d with
 | some (.nd (.dic _ _) hs)=>(match stBs CH G hs with | some bs=>some (hs,bs) | none=>none)
 | _=>none
def Z92{C:Addr}{f:Str}{t:T}{d:D}{H:Hp}(h:fldD C f t.er=some d)(ok:t.ok H):∃ a dx fs u,t.val=.ref a/\H a=some (.ins C dx fs)/\fs.lookup f=some u.val/\u.er=d/\u.ok H/\T.get [] u=some u/\(∀ b∈u.ro,b∈t.ro):=by
 cases t with
 | «at» v=>cases h
 | nd a k ch=>
  cases k with
  | ins m C' ns=>
   simp only [T.er,fldD] at h;by_cases hC:C'=C
   .subst hC
    rw [if_pos rfl] at h
    cases ei:idx f ns with
    | none=>rw [ei] at h;cases h
    | some j=>
     rw [ei] at h;dsimp only at h;rw [T.ers_eq,Qc] at h
     cases ej:ch[j]? with
     | none=>rw [ej] at h;cases h
     | some u=>
      rw [ej] at h;cases h;obtain ⟨o1,o2⟩:=ok;obtain ⟨n1,dx,n2⟩:=o1;obtain ⟨v,v1,v2⟩:=Z4O (f:=f) (j:=j) n1 ei;rw [Qc,ej] at v1;cases v1;refine ⟨a,dx,_,u,rfl,n2,v2,rfl,T.oks_iff.mp o2 u (Qg ej),rfl,fun b hb=>?_⟩;rw [T.ro];exact Qe _ (T.mem_ros.mpr ⟨u,Qg ej,hb⟩)
   .rw [if_neg hC] at h;cases h
  | _=>cases h
def Z9u{CH:Addr}{G:Str}:∀ {l:List D} {bs:List Bool} {i:Nat} {d:D},stBs CH G l=some bs->l[i]?=some d->∃ b,bs[i]?=some b/\blD (fldD CH G d)=some b
 | [],_,_,_,_,h=>by simp at h
 | d::r,bs,i,e,h,hi=>by
  unfold stBs at h
  split at h
  case h_2=>cases h
  case h_1 b l h1 h2=>
   cases h
   cases i with
   | zero=>cases hi;exact ⟨b,rfl,h1⟩
   | succ i=>simpa using Z9u h2 (by simpa using hi)
def Z9v{CH:Addr}{G:Str}:∀ {l:List D} {bs:List Bool},stBs CH G l=some bs->bs.length=l.length
 | [],_,h=>by cases h;rfl
 | d::r,bs,h=>by
  unfold stBs at h
  split at h
  case h_2=>cases h
  case h_1 b l h1 h2=>cases h;simp [Z9v h2]
abbrev spSt(C CH:Addr)(F G:Str):Sp:=fun vs H Q _=>∃ (a dx b:Addr) (fs:List (Str×V)) (kvs:List (Key×V)) (bs:List Bool),vs=[.ref a]/\H a=some (.ins C dx fs)/\fs.lookup F=some (.ref b)/\H b=some (.dK kvs)/\kvs.length<=1000/\bs.length=kvs.length /\
 (∀ (i:Nat) k x c,kvs[i]?=some (k,x)->bs[i]?=some c->∃ y dy gs,x=.ref y/\H y=some (.ins CH dy gs)/\gs.lookup G=some (.bl c)) /\
 ∀ H' l,(∀ a,H a≠none->H' a=H a)->H l=none->H' l=some (.lst (Z0e bs (kvs.map (·.2))))->Q (.ref l) H'
def blD_t{d:Option D}{b:Bool}(h:blD d=some b):d=some (.at (.bl b)):=by
 unfold blD at h
 split at h
 .cases h;rfl
 .cases h
def at_bl{u:T}{b:Bool}(h:u.er=.at (.bl b)):u.val=.bl b:=by
 cases u with
 | nd _ _ _=>cases h
 | «at» v=>cases v <;> simp_all [T.er,cl,T.val]
def st_t{C CH:Addr}{F G:Str}{t:T}{H:Hp}{hs:List D}{bs:List Bool}(h:stOf C CH F G t.er=some (hs,bs))(ok:t.ok H)(hz:hs.length<=1000):∃ (a dx b:Addr) (fs:List (Str×V)) (kvs:List (Key×V)) (ch:List T),t.val=.ref a/\H a=some (.ins C dx fs)/\fs.lookup F=some (.ref b)/\H b=some (.dK kvs)/\kvs.length<=1000/\bs.length=kvs.length /\
  (∀ (i:Nat) k x c,kvs[i]?=some (k,x)->bs[i]?=some c->∃ y dy gs,x=.ref y/\H y=some (.ins CH dy gs)/\gs.lookup G=some (.bl c))/\kvs.map (·.2)=ch.map T.val/\T.ers ch=hs/\T.oks H ch/\∀ a∈T.ros ch,a∈t.ro:=by
 unfold stOf at h
 split at h
 case h_2=>cases h
 case h_1 m ks l hf=>
  split at h
  case h_2=>cases h
  case h_1 bs' hb=>
   simp only [Je.injEq,Prod.mk.injEq] at h;obtain ⟨rfl,rfl⟩:=h;obtain ⟨a,dx,fs,u,u1,u2,u3,u4,u5,_,u6⟩:=Z92 hf ok;obtain ⟨b,ch,rfl,rfl⟩:=Zg4 u4;obtain ⟨n1,n2,n3⟩:=u5.1;have hl:=Z9v hb;rw [T.ers_eq,Qx] at hl hz;have hk:(ks.zip (ch.map T.val)).length=ch.length:=by rw [List.length_zip,n1];simp
   refine ⟨a,dx,b,fs,_,ch,u1,u2,u3,n3,by rw [hk];exact hz,by rw [hk];exact hl,fun i k x c h1 h2=>?_,Zaz n1,rfl,u5.2,fun y hy=>u6 y (by rw [T.ro];exact Qe _ hy)⟩;obtain ⟨z1,z2⟩:=zip_get h1;rw [Qc] at z2
   cases ei:ch[i]? with
   | none=>rw [ei] at z2;cases z2
   | some c1=>
    rw [ei] at z2;cases z2;obtain ⟨b',b1,b2⟩:=Z9u hb (i:=i) (d:=c1.er) (by rw [T.ers_eq,Qc,ei];rfl);rw [h2] at b1;cases b1;obtain ⟨y,dy,gs,v,v1,v2,v3,v4,_⟩:=Z92 (blD_t b2) (T.oks_iff.mp u5.2 c1 (Qg ei));exact ⟨y,dy,gs,v1,v2,by rw [v3,at_bl v4]⟩
end
section
mutual
variable {X:Cx}{R:RC}{ix:List Nat}{H:Hp}{σ:L2.St}
def Zb9{t:Nat}{kvs:List (Key×V)}{g:TG}{tt:TT}{te:TE}{Q:VK}{H1:Hp}(P:Addr->Nat->List V->L2.St->Hp->Prop)(h0:∀ D,H1 D=none->P D 0 [] (List.replicate t none++σ) (upd H1 D (.lst [])))
  (hs:∀ D i k x ys τ H,H1 D=none->kvs[i]?=some (k,x)->P D i ys τ H->g x τ H fun τ2 H2=>tt τ2 H2 fun b H3=>
   if b=true then te τ2 H3 fun y H4=>H4 D=some (.lst ys)/\ys.length < sizeLine/\P D (i + 1) (ys++[y]) τ2 (upd H4 D (.lst (ys++[y]))) else P D (i + 1) ys τ2 H3)
  (hd:∀ D ys τ H,H1 D=none->P D kvs.length ys τ H->Q (.ref D) H):Z2a (Itv kvs) t g tt te σ H1 Q:=by
 intro D hD;refine ⟨fun i m ys τ H=>m=kvs.length - i/\i<=kvs.length/\P D i ys τ H,⟨kvs.length,by simp,Ge _,h0 D hD⟩,?_⟩;rintro i m ys τ H ⟨rfl,hi,p⟩;by_cases hlt:i < kvs.length
 .refine .inr ⟨hlt,P D (i + 1),fun zs τ' H' p'=>⟨kvs.length - (i + 1),by omega,rfl,hlt,p'⟩,fun x H' y=>?_⟩
  obtain ⟨e,k,y⟩:=y;subst e;exact hs D i k x ys τ _ hD y p
 .have e:i=kvs.length:=by omega
  subst e;exact .inl ⟨Qq _,hd D ys τ H hD p⟩
def Zfz{K:Qa}{C CH:Addr}{F G:Str}{vs:List V}{Q:VK}{E:XK}{N:List Str}(hN:vs.length=1->L2.start N vs=vs.map some)(h:spSt C CH F G vs H Q E):tRet (tCompV K 1 (Z2G C (Z1q 0) F) (Z1l 0) (tB (Z2G CH (Z1q 0) G)) (Z1q 0)) { nx:=fun _ H'=>Q .non H',rt:=Q } (L2.start N vs) H:=by
 obtain ⟨a,dx,b,fs,kvs,bs,rfl,h1,h2,h3,hz,hl,hy,q⟩:=h;rw [hN rfl];refine ⟨.ref a,rfl,a,dx,fs,.ref b,rfl,h1,h2,.inr (.inr (.inl ⟨rfl,.inl ⟨_,h3⟩⟩)),b,kvs,rfl,rfl,h3,fun p hp=>?_⟩;have hbp:b≠p:=by rintro rfl;rw [h3] at hp;cases hp
 refine Zb9 (fun D i ys τ H'=>ys=Z0e (bs.take i) ((kvs.map (·.2)).take i)/\H'=upd (del (upd H p (.ext fun h=>h.IsValuesView p b)) b) D (.lst ys)/\∃ v0,τ=[v0,some (.ref a)]) (fun D hD=>⟨by simp [Z0e],rfl,none,rfl⟩) ?_ ?_
 .rintro D i k x ys τ H' hD hi ⟨rfl,rfl,v0,rfl⟩
  obtain ⟨c,hc⟩:∃ c,bs[i]?=some c:=⟨bs[i]'(by rw [hl];exact (Qd.mp hi).1),Qk _⟩;obtain ⟨y,dy,gs,rfl,y1,y2⟩:=hy i k x c hi hc
  have hyD:y≠D:=by
   rintro rfl
   have:del (upd H p (.ext fun h=>h.IsValuesView p b)) b y=some (.ins CH dy gs):=by
    rw [Z1P (by rintro rfl;rw [h3] at y1;cases y1),Zb (by rintro rfl;rw [hp] at y1;cases y1)];exact y1
   rw [this] at hD;cases hD
  have hn:((kvs.map (·.2)).take (i + 1))=(kvs.map (·.2)).take i++[.ref y]:=by
   rw [Nr,Qc,hi];rfl
  have hb:bs.take (i + 1)=bs.take i++[c]:=by rw [Nr,hc];rfl
  have hi':=(Qd.mp hi).1;have hs:=Z8q (b:=c) (x:=V.ref y) (bs:=bs.take i) (xs:=(kvs.map (·.2)).take i) (by simp;omega)
  rw [<- hn,<- hb] at hs;refine ⟨.ref y,rfl,y,dy,gs,.bl c,rfl,?_,y2,c,rfl,?_⟩
  .rw [Zb hyD,Z1P (by rintro rfl;rw [h3] at y1;cases y1),Zb (by rintro rfl;rw [hp] at y1;cases y1)];exact y1
  .cases c with
   | true=>
    rw [if_pos rfl];refine ⟨.ref y,rfl,Zj,?_,?_,?_,some (.ref y),rfl⟩
    .have:=Z7V (bs:=bs.take i) (xs:=(kvs.map (·.2)).take i)
     simp only [Nf,Qx] at this
     have:sizeLine=16777216:=rfl
     omega
    .rw [hs];simp
    .funext z
     by_cases hz:z=D
     .subst hz;rw [Zj,Zj]
     .rw [Zb hz,Zb hz,Zb hz]
   | false=>
    rw [if_neg Ql];exact ⟨by rw [hs];simp,rfl,some (.ref y),rfl⟩
 .rintro D ys τ H' hD ⟨rfl,rfl,v0,rfl⟩ hb
  have hDb:D≠b:=by rintro rfl;rw [Zj] at hb;cases hb
  refine q _ D (fun z hz=>?_) ?_ ?_
  .by_cases e:z=b
   .subst e;rw [Zj];exact h3.symm
   .have hzD:z≠D:=by
     rintro rfl;rw [Z1P e] at hD;by_cases e2:z=p
     .subst e2;exact hz hp
     .rw [Zb e2] at hD;exact hz hD
    rw [Zb e,Zb hzD,Z1P e,Zb (by rintro rfl;exact hz hp)]
  .rw [Z1P hDb] at hD
   by_cases e2:D=p
   .subst e2;exact hp
   .rwa [Zb e2] at hD
  .rw [Zb hDb,Zj]
   congr 2
   rw [Wb (by omega),Wb (by simp)]
abbrev fSt(C CH:Addr)(F G:Str):Fn:=fun ds=>match ds with
 | [d]=>(match stOf C CH F G d with
  | some (hs,bs)=>if hs.length<=1000 then .ok (.val (.nd (.lst true) ((Z0e bs hs).map fun _=>hole))) [d] else .no
  | none=>.no)
 | _=>.no
def Zhg{C CH:Addr}{F G:Str}{ad:Str->Addr}{vs:List V}{Q:VK}{E:XK}(h:spR ad [false] (fSt C CH F G) vs H Q E):spSt C CH F G vs H Q E:=by
 obtain ⟨l,B,hv,en,h⟩:=h;obtain ⟨t,rfl⟩:=len1 en.len.symm;simp only [T.ers,fSt] at h
 cases e:stOf C CH F G t.er with
 | none=>rw [e] at h;exact h.elim
 | some y=>
  obtain ⟨hs,bs⟩:=y;rw [e] at h;dsimp only at h;by_cases hz:hs.length<=1000
  .rw [if_pos hz] at h
   obtain ⟨a,dx,b,fs,kvs,ch,t1,t2,t3,t4,t5,t6,t7,t8,t9,t10,t11⟩:=st_t e en.ok.1 hz;refine ⟨a,dx,b,fs,kvs,bs,by rw [<- hv,Qj,t1];rfl,t2,t3,t4,t5,t6,t7,fun H' x k1 k2 k3=>?_⟩;rw [t8] at k3;refine h H' [t] (.val (.nd x (.lst true) ((Z0e bs (ch.map T.val)).map T.at))) (.ref x) rfl ?_ rfl ?_
   .simp only [RT.er,T.er,T.ers_eq,Jl]
    rw [<- t9,T.ers_eq,Z2k,Z2k,Jl,Jl]
    congr 3
    refine Wu fun u hu=>?_
    have:∃ y,u.val=.ref y:=by
     obtain ⟨i,hi⟩:=Jg.mp hu;have hv2:(kvs.map (·.2))[i]?=some u.val:=by rw [t8,Qc,hi];rfl
     rw [Qc] at hv2
     cases ek:kvs[i]? with
     | none=>rw [ek] at hv2;cases hv2
     | some kx=>
      rw [ek] at hv2;obtain ⟨k',x'⟩:=kx;have hlt:i < bs.length:=by rw [t6];exact (Qd.mp ek).1
      obtain ⟨y,_,_,rfl,_⟩:=t7 i k' x' bs[i] ek (Qk hlt);simp only [Qu,Je.injEq] at hv2;exact ⟨y,hv2.symm⟩
    obtain ⟨y,hy⟩:=this;simp only [Function.comp,hy,T.er,cl,hole]
   .have hat:∀ l:List V,T.owns (l.map T.at)=[]/\T.ros (l.map T.at)=[]/\(l.map T.at).map T.val=l/\T.oks H' (l.map T.at):=by
     intro l
     induction l with
     | nil=>exact ⟨rfl,rfl,rfl,trivial⟩
     | cons v r ih=>exact ⟨by simp [T.owns,T.own,ih.1],by simp [T.ros,T.ro,ih.2.1],by simp [T.val,ih.2.2.1],trivial,ih.2.2.2⟩
    obtain ⟨o1,o2,o3,o4⟩:=hat (Z0e bs (ch.map T.val));refine ⟨rfl,rfl,trivial,⟨⟨by rw [o3];exact k3,o4⟩,trivial⟩,?_,?_,?_,fun z hz _=>k1 z hz⟩
    .simp [Zi,T.owns,RT.tr,T.own,o1,NK.mut]
    .intro z hz
     have:z=x:=by simpa [Zi,T.owns,RT.tr,T.own,o1,NK.mut] using hz
     subst this;exact .inr k2
    .intro z hz
     simp [Zi,T.ros,RT.tr,T.ro,o2,NK.mut] at hz
  .rw [if_neg hz] at h;exact h.elim
abbrev nmD(CH:Addr)(fld:Str):List D->Option (List Str)
 | []=>some []
 | d::r=>match fldD CH fld d,nmD CH fld r with | some (.at (.str x)),some l=>some (x::l) | _,_=>none
abbrev hNm(C CH:Addr)(F G m fld:Str):List D->Option D
 | [d]=>if Zu C m d=true then (match stOf C CH F G d with
  | some (hs,bs)=>if hs.length<=1000 then (match nmD CH fld (Z0e bs hs) with | some l=>some (.nd (.lst true) (l.map fun x=>.at (.str x))) | none=>none) else none
  | none=>none) else none
 | _=>none
def Zai{CH:Addr}{fld:Str}:∀ {l:List D} {xs:List Str},nmD CH fld l=some xs->xs.length=l.length
 | [],_,h=>by cases h;rfl
 | d::r,xs,h=>by
  unfold nmD at h
  split at h
  case h_2=>cases h
  case h_1 x l h1 h2=>cases h;simp [Zai h2]
def Zah{CH:Addr}{fld:Str}:∀ {l:List D} {xs:List Str} {i:Nat} {d:D},nmD CH fld l=some xs->l[i]?=some d->∃ x,xs[i]?=some x/\fldD CH fld d=some (.at (.str x))
 | [],_,_,_,_,h=>by simp at h
 | d::r,xs,i,e,h,hi=>by
  unfold nmD at h
  split at h
  case h_2=>cases h
  case h_1 x l h1 h2=>
   cases h
   cases i with
   | zero=>cases hi;exact ⟨x,rfl,h1⟩
   | succ i=>simpa using Zah h2 (by simpa using hi)
def Zb1{u:T}{x:Str}(h:u.er=.at (.str x)):u.val=.str x:=by
 cases u with
 | nd _ _ _=>cases h
 | «at» v=>cases v <;> simp_all [T.er,cl,T.val]
def ZfV{H':Hp}(l:List V):T.owns (l.map T.at)=[]/\T.ros (l.map T.at)=[]/\(l.map T.at).map T.val=l/\T.oks H' (l.map T.at):=by
 induction l with
 | nil=>exact ⟨rfl,rfl,rfl,trivial⟩
 | cons v r ih=>exact ⟨by simp [T.owns,T.own,ih.1],by simp [T.ros,T.ro,ih.2.1],by simp [T.val,ih.2.2.1],trivial,ih.2.2.2⟩
def ZaP{N:List Str}{scope:Scope}{C CH:Addr}{F G m fld:Str}{k:Nat}{ps:List Str}{tg o elt:Expr}{apos cpos pos:Pos}{fo:EF}{pl:Sem Bool}(D:MetX X.prog X.w X.K X.mg X.base C m k ps (spSt C CH F G))(c:Cls X.K C)(hr:Room k X.A)(hx:Z19 X R.EX)(hc:X.calm=true)(ho:PE X o (lE R ix fo))(S:CompSc X 1 N scope)
  (hg:∀ cl C s H fp,PG (cxC X N scope cl C s H fp) tg (Z1l 0)) (he:∀ cl C s H fp,PE (cxC X N scope cl C s H fp) elt (Z2G CH (Z1q 0) fld))
  (ht:autoParam (eval (.Call (.Attribute o m apos) [] [] cpos) X.env=(do
   let ov <- eval o X.env
   standAt apos.atName
   let (f,first) <- holding [ov] (getMethod ov m pl)
   callWith cpos f first (backTo cpos (starEach [] X.env)) (backToKw cpos (keywordEach [] X.env)))) uA._auto_1)
  (hs:autoParam (∀ x,foldedSetIterable (.Call (.Attribute o m apos) [] [] cpos) X.env x=pure x) uC._auto_1) :
  PE X (.ListComp elt [⟨tg,.Call (.Attribute o m apos) [] [] cpos,[],0⟩] scope pos) (lE R ix (eNw (hNm C CH F G m fld) (Z0 fo Z1))):=
 peM (Z69 hc (Zfd (Z9i D c hr hx ho ht)) S hg (fun _ _ _ _ _=>Z7k) he hs) fun σ H Q q=>by
 refine Zd (fun v H1 h=>?_) (lA_1 (Z0P σ H Q q));obtain ⟨t,ok,rfl,d,hh,q⟩:=gNw1 h;simp only [hNm] at hh;by_cases ho:Zu C m t.er=true
 case neg=>rw [if_neg ho] at hh;cases hh
 case pos=>
  rw [if_pos ho] at hh
  .skip
   split at hh
   case h_2=>cases hh
   case h_1 hs bs e=>
    split at hh
    case isFalse=>cases hh
    case isTrue hz=>
     split at hh
     case h_2=>cases hh
     case h_1 xs en=>
      cases hh;obtain ⟨a,dx,b,fs,kvs,ch,t1,t2,t3,t4,t5,t6,t7,t8,t9,t10,t11⟩:=st_t e ok hz
      have hlk:fs.lookup m=none:=by
       cases t with
       | «at» v=>cases ho
       | nd a' kd ch'=>
        cases kd with
        | ins w C' ns=>
         simp only [T.er,Zu,Ja,decide_eq_true_eq,Wy] at ho;obtain ⟨rfl,hcn⟩:=ho;obtain ⟨⟨_,dx',hH⟩,_⟩:=ok;cases t1;rw [hH] at t2;cases t2;exact lookup_none hcn
        | _=>cases ho
      refine ⟨a,dx,fs,t1,t2,hlk,a,dx,b,fs,kvs,bs,by rw [t1],t2,t3,t4,t5,t6,t7,fun H3 l k1 k2 k3=>?_⟩;rw [t8] at k3;have hxl:=Zai en
      have hel:∀ (i:Nat) x,(Z0e bs (ch.map T.val))[i]?=some x->∃ y dy gs s,xs[i]?=some s/\x=.ref y/\H3 y=some (.ins CH dy gs)/\gs.lookup fld=some (.str s):=by
       intro i x hi;rw [<- Z2k,Qc] at hi
       cases ei:(Z0e bs ch)[i]? with
       | none=>rw [ei] at hi;cases hi
       | some u=>
        rw [ei] at hi;cases hi;obtain ⟨s,s1,s2⟩:=Zah en (i:=i) (d:=u.er) (by rw [<- t9,T.ers_eq,<- Z2k,Qc,ei];rfl)
        have hu:u∈ch:=by
         have:∀ (bs:List Bool) (l:List T),u∈Z0e bs l->u∈l:=by
          intro bs
          induction bs with
          | nil=>intro l h;cases l <;> simp [Z0e] at h
          | cons b bs ih=>
           intro l h
           cases l with
           | nil=>simp [Z0e] at h
           | cons z l=>
            cases b with
            | true=>
             simp only [Z0e,if_true,Jb] at h ⊢;exact h.imp id (ih l)
            | false=>simp only [Z0e,Nm,if_false] at h;exact Qt _ (ih l h)
         exact this bs ch (Qg ei)
        obtain ⟨y,dy,gs,v,v1,v2,v3,v4,_⟩:=Z92 s2 (T.oks_iff.mp t10 u hu);exact ⟨y,dy,gs,s,s1,v1,by rw [k1 y (by rw [v2];simp)];exact v2,by rw [v3,Zb1 v4]⟩
      have hsl:(Z0e bs (ch.map T.val)).length=xs.length:=by rw [hxl,<- t9,T.ers_eq,<- Z2k,<- Z2k];simp
      have hx1:xs.length<=1000:=by
       rw [<- hsl];have:=Z7V (bs:=bs) (xs:=ch.map T.val);have h2:ch.length<=1000:=by rw [<- t9,T.ers_eq] at hz;simpa using hz
       simp only [Qx] at this;omega
      refine ⟨l,rfl,⟨_,.of k3⟩,?_⟩;refine Zb8 (xs:=Z0e bs (ch.map T.val)) (fun D i ys τ H'=>ys=(xs.take i).map V.str/\H'=upd H3 D (.lst ys)/\∃ v0,τ=v0::σ) (fun D hD=>⟨by simp,rfl,none,rfl⟩) ?_ ?_ ?_
      .rintro D i ys τ H' hD hi ⟨rfl,rfl,v0,rfl⟩
       exact .of (by rw [Zb (by rintro rfl;rw [k3] at hD;cases hD)];exact k3)
      .rintro D i x ys τ H' hD hi ⟨rfl,rfl,v0,rfl⟩
       obtain ⟨y,dy,gs,s,s1,rfl,s3,s4⟩:=hel i x hi;have hyD:y≠D:=by rintro rfl;rw [s3] at hD;cases hD
       have htk:xs.take (i + 1)=xs.take i++[s]:=by rw [Nr,s1];rfl
       dsimp only [Z1l,tYes];rw [if_pos rfl];refine ⟨.ref y,rfl,y,dy,gs,.str s,rfl,by rw [Zb hyD];exact s3,s4,Zj,?_,?_,?_,some (.ref y),rfl⟩
       .have:sizeLine=16777216:=rfl
        simp only [Qx,Nf];omega
       .rw [htk];simp
       .funext z
        by_cases hz:z=D
        .subst hz;rw [Zj,Zj]
        .rw [Zb hz,Zb hz,Zb hz]
      .rintro D ys τ H' hD ⟨rfl,rfl,v0,rfl⟩
       have hD1:H1 D=none:=by
        cases e1:H1 D with
        | none=>rfl
        | some o=>rw [k1 D (by rw [e1];simp),e1] at hD;cases hD
       rw [Wb (by omega)];obtain ⟨o1,o2,o3,o4⟩:=ZfV (H':=upd H3 D (.lst (xs.map V.str))) (xs.map V.str);refine q (.nd D (.lst true) ((xs.map V.str).map T.at)) _ ?_ ⟨⟨by rw [o3];exact Zj,o4⟩,?_,?_,?_,?_,fun z hz=>?_⟩
       .simp only [T.er,T.ers_eq,Jl];rfl
       .rw [T.own,o1];simp [NK.mut]
       .intro z hz
        rw [T.own,o1] at hz
        have:z=D:=by simpa [NK.mut] using hz
        subst this;exact hD1
       .intro z hz;rw [T.ro,o2] at hz;simp [NK.mut] at hz
       .intro z hz;rw [T.ro,o2] at hz;simp [NK.mut] at hz
       .rw [Zb (by rintro rfl;exact hz hD1)];exact k1 z hz
end
end
section
mutual
variable {P:Program}{w:World}{K:Qa}{mg:Str->Option Value}{base:Heap}
def okSt{C CH:Addr}{F G m qual:Str}{st:Stmt}{k:Nat}(Fm:AtM K C m qual st ["self"])(S:FnScope ["self"] ["self"] (Z6 st))
  (hb:∀ (f:Addr) (cdv:Value) (A:Around) (outer:List Env) (s:Shared) (H:Hp) (E:XK),Room k (A.deeper (envOfC qual (Z6 st) s.heap.objs.size f cdv)) ->
   PSs (ZJ (CX1 P w) P w K mg base ["self"] qual (Z6 st) f cdv A outer s H E) (Z0g st) (tRet (tCompV K 1 (Z2G C (Z1q 0) F) (Z1l 0) (tB (Z2G CH (Z1q 0) G)) (Z1q 0)))):MetX P w K mg base C m (k + 1) ["self"] (spSt C CH F G):=
 Fm.okX S (fun vs H Q E h=>by obtain ⟨a,dx,b,fs,kvs,bs,rfl,_⟩:=h;rfl) fun f cdv A outer s H vs Q E hr h=>⟨_,hb f cdv A outer s H E hr,Zfz (fun e=>by
  obtain ⟨v,rfl⟩:=len1 e;rfl) h⟩
def Zbw{C:Addr}{F:Str}(σ:L2.St)(H:Hp)(Q Q':VK)(m:∀ x H1,Q x H1->Q' x H1)(h:Z2G C (Z1q 0) F σ H Q):Z2G C (Z1q 0) F σ H Q':=by
 obtain ⟨v,h,a,dx,fs,u,e1,e2,e3,q⟩:=h;exact ⟨v,h,a,dx,fs,u,e1,e2,e3,m _ _ q⟩
def MetX.imp{C:Addr}{m:Str}{k:Nat}{ps:List Str}{sp sp':Sp}(D:MetX P w K mg base C m k ps sp)(h:∀ vs H Q E,sp' vs H Q E->sp vs H Q E):MetX P w K mg base C m k ps sp':=by
 obtain ⟨f,fd,G,rest⟩:=D.ex;exact ⟨f,fd,G.imp h,rest⟩
end
end
section
mutual
variable {X:Cx}{R:RC}{ix:List Nat}{e:Expr}{pos:Pos}
def ZbX{te:TE}(he:PE X e te):PE X (.FormattedValue e 114 none pos) (fun σ H Q=>te σ H fun v H1=>∃ x,v=.str x/\(reprText x).length<=sizeLine/\Q (.str (reprText x)) H1):=by
 intro pins s σ H Q I h;refine wpAny_FormattedValue_repr (thn (he pins s σ H _ I h) fun u s1 ⟨v,H1,I1,r1,q⟩=>?_);obtain ⟨x,rfl,hz,q⟩:=q;obtain ⟨t,rfl⟩:=r1;refine wpAny_pyReprObj_str ?_ hz;exact wpAny_formatField_str ⟨.str (reprText x),H1,I1.tok _,⟨_,rfl⟩,q⟩ ⟨.str (reprText x),H1,(I1.tok _).tok _,⟨_,rfl⟩,q⟩ hz
abbrev hReprS:List D->Option D
 | [.at (.str x)]=>if x.length<=1000/\∀ c∈x.cps.toList,c < 16 ^ 8 then some (.at (.str (reprText x))) else none
 | _=>none
def Zc7{f:EF}(he:PE X e (lE R ix f)):PE X (.FormattedValue e 114 none pos) (lE R ix (eNw hReprS (Z0 f Z1))):=
 peM (ZbX he) fun σ H Q q=>Zd (fun x H1 q=>by
  obtain ⟨t,ok,rfl,d,hh,q⟩:=gNw1 q;unfold hReprS at hh
  split at hh
  case h_2=>cases hh
  case h_1 x e1=>
   simp only [Js.injEq,and_true] at e1
   split at hh
   case isFalse=>cases hh
   case isTrue hz=>
    cases hh;refine ⟨x,Zb1 e1,?_,q (.at (.str (reprText x))) H1 rfl (.atom _)⟩;have h1:=PySem.StrLaws.reprText_len x hz.2
    have:sizeLine=16777216:=rfl
    omega) (lA_1 (Z0P σ H Q q))
end
end
section
mutual
variable {K:Qa}{h:Heap}{mg:Str->Option Value}{x m qual:Str}{C:Addr}
def zb_(X:K.In h)(G:h.Ns mainGlobals mg)(a:autoParam (Gz K mainGlobals x=some none) uF._auto_1):mg x=none:=PySem.W.mg_none_of X G a
def zg_{u:Value}{v:V}(X:K.In h)(G:h.Ns mainGlobals mg)(a:autoParam (Gz K mainGlobals x=some (some u)) uF._auto_1)(r:RelV v u:=by exact ⟨_,rfl⟩):GIs mg x v:=⟨u,Qao X G a,r⟩
def zc_(X:K.In h)(G:h.Ns mainGlobals mg)(a:autoParam (Gz K mainGlobals x=some (some (.ref C))) uF._auto_1):mg x=some (.ref C):=Qao X G a
def zl_(pg:autoParam (Nv K C Str.empty=true) uF._auto_1)(hd:autoParam (Gg K C=true) uF._auto_1)(po:autoParam (Qak K C=true) uF._auto_1)(sa:autoParam (Ji K (.ref C) "__setattr__"=some (some (.builtin "object.__setattr__"))) uF._auto_1):Cls K C:=⟨pg,hd,po,sa⟩
def zn_(a:autoParam (Ji K (.ref C) x=some none) uF._auto_1):Zv K C x:=a
def zx_(X:K.In h)(G:h.Ns mainGlobals mg)(a:autoParam (Gz K mainGlobals x=some (some (.ref C))) uF._auto_1)(q:PySem.W.excIn K C bmV "ValueError.__new__"=true:=by ((try dsimp only);k_exc)):ExC K mg x C:=⟨Qao X G a,q⟩
def ze_{C':Addr}{b:Bool}(a:Jz K (.ref C) (.ref C')=some b:=by ((try dsimp only);kts_exm)):Jz K (.ref C) (.ref C')=some b:=a
variable {st:Stmt}{ps:List Str}{f:Addr}{oc kV dc pm cd ct:Value}{od an:Option Addr}{sl:Array (Option Value)}
abbrev Zvv:Nat->(List Value->Prop)->Prop
 | 0,P=>P []
 | n + 1,P=>∀ a,Zvv n fun us=>P (a::us)
def Zvw:∀ (n:Nat){P:List Value->Prop},Zvv n P->∀ us:List Value,us.length=n->P us
 | 0,_,h,[],_=>h
 | n + 1,_,h,a::us,e=>Zvw n (h a) us (Nat.succ.inj e)
def _root_.uG(a:True:=by exact RM.Zvw _ (by (repeat intro _);rfl)):True:=a
def za_(X:K.In h)(G:h.Ns mainGlobals mg)(a:autoParam (Gz K mainGlobals x=some (some (.ref f))) uF._auto_1)(l:autoParam (K.lookup f=some ⟨oc,od,.func (Wo x x (Z1X st) (Z0g st) (Z6 st) .none kV dc pm an cd ct),sl⟩) uF._auto_1)(c:autoParam (Nu K cd x=true) uF._auto_1)(k:autoParam (Jt K (.ref f)=true) uF._auto_1)
  (b:autoParam (∀ us:List Value,us.length=ps.length->bindArgs (Wo x x (Z1X st) (Z0g st) (Z6 st) .none kV dc pm an cd ct) ⟨us,[]⟩=pure (ps.zip us)) uG._auto_1):At K mg x st ps:=
 ⟨f,_,Z93 l c k,Qao X G a,b⟩
def zm_(a:autoParam (Ji K (.ref C) m=some (some (.ref f))) uF._auto_1)(i:autoParam (Gy K (.ref f)=true) uF._auto_1)(l:autoParam (K.lookup f=some ⟨oc,od,.func (Wo m qual (Z1X st) (Z0g st) (Z6 st) .none kV dc pm an cd ct),sl⟩) uF._auto_1)(c:autoParam (Nu K cd qual=true) uF._auto_1)(k:autoParam (Jt K (.ref f)=true) uF._auto_1)
  (b:autoParam (∀ us:List Value,us.length=ps.length->bindArgs (Wo m qual (Z1X st) (Z0g st) (Z6 st) .none kV dc pm an cd ct) ⟨us,[]⟩=pure (ps.zip us)) uG._auto_1):AtM K C m qual st ps:=
 ⟨f,_,Z93 l c k,⟨a,i,k⟩,b⟩
def zi_(a:autoParam (Ji K (.ref C) "__init__"=some (some (.ref f))) uF._auto_1)(i:autoParam (Gy K (.ref f)=true) uF._auto_1)(l:autoParam (K.lookup f=some ⟨oc,od,.func (Wo "__init__" qual (Z1X st) (Z0g st) (Z6 st) .none kV dc pm an cd ct),sl⟩) uF._auto_1)(c:autoParam (Nu K cd qual=true) uF._auto_1)(k:autoParam (Jt K (.ref f)=true) uF._auto_1)
  (mk:autoParam (PySem.W.makesIn K C=true) uF._auto_1) (kc:autoParam (Jt K (.ref C)=true) uF._auto_1)
  (b:autoParam (∀ us:List Value,us.length=ps.length->bindArgs (Wo "__init__" qual (Z1X st) (Z0g st) (Z6 st) .none kV dc pm an cd ct) ⟨us,[]⟩=pure (ps.zip us)) uG._auto_1):AtI K C qual st ps:=
 ⟨f,_,Z93 l c k,⟨mk,a,i,kc⟩,b⟩
end
end
mutual
def scM{N Q:List Str}{sc:Scope}(kind:autoParam (sc.kind=.function) uA._auto_1)(co:autoParam (sc.isCoroutine=false) uA._auto_1)(gen:autoParam (sc.isGenerator=false) uA._auto_1)(nd:autoParam (N.Nodup) uD._auto_1)(pre:autoParam (N.take Q.length=Q) uA._auto_1)(par:autoParam (∀ x∈Q,sc.names.lookup x=some .local\/sc.names.lookup x=some .cell) uD._auto_1)(nofree:autoParam (∀ y∈sc.names,y.2≠.free) uD._auto_1):FnScope N Q sc:=⟨kind,co,gen,nd,pre,par,nofree⟩
def al1{f:EF}:ALen 1 (Z0 f Z1):=Z34 Z8N
def al2{f g:EF}:ALen 2 (Z0 f (Z0 g Z1)):=Z34 al1
def al3{f g h:EF}:ALen 3 (Z0 f (Z0 g (Z0 h Z1))):=Z34 al2
def al4{f g h i:EF}:ALen 4 (Z0 f (Z0 g (Z0 h (Z0 i Z1)))):=Z34 al3
def al5{f g h i j:EF}:ALen 5 (Z0 f (Z0 g (Z0 h (Z0 i (Z0 j Z1))))):=Z34 al4
private abbrev lkD(a:Addr)(l:Str):D:=.nd (.lnk a l) []
def lk_er{t:T}{a:Addr}{l:Str}(h:t.er=lkD a l)(ok:t.ok H):t=.nd a (.lnk a l) []:=by
 cases t with
 | «at» v=>cases v <;> simp [T.er,cl] at h
 | nd b k ch=>
  simp only [T.er,D.nd.injEq] at h;obtain ⟨rfl,h⟩:=h
  cases ch with
  | cons=>simp [T.ers] at h
  | nil=>
   have e:b=a:=ok.1.1;rw [e]
def NewOk.lnk{H:Hp}{l:List T}{a:Addr}{n:Str}:NewOk H H l (.nd a (.lnk a n) []):=⟨⟨⟨rfl,rfl⟩,trivial⟩,Ng,by simp [T.own,T.owns,NK.mut],by simp [T.ro,T.ros,NK.mut,NK.out],by simp [T.ro,T.ros,NK.mut,NK.out],fun _ _=>rfl⟩
abbrev TkA(K:Qa)(a:Addr)(x:Str)(f:Addr):Prop:=∃ (od:Option Addr) (t:Tok) (n:Nat) (sl:Array (Option Value)),K.lookup a=some ⟨.type "tuple",od,.seq #[.str x t,.ref f] n,sl⟩
def TkA.sqT{K:Qa}{H:Hp}{a f:Addr}{x:Str}(h:TkA K a x f):SqT K H a [.str x,.ref f]:=by
 obtain ⟨od,t,n,sl,h⟩:=h;exact .inr ⟨_,_,n,h,rfl,rfl,(show 2<=sizeLine by decide),.cons ⟨t,rfl⟩ (.cons rfl .nil)⟩
private abbrev TkT:=Str->Option (Addr×Str×Addr×Str)
abbrev TkOk(K:Qa)(tab:TkT):Prop:=∀ l a x f n,tab l=some (a,x,f,n)->TkA K a x f
abbrev hTk(tab:TkT):List D->Option D
 | [.nd (.lnk a l) [],.at (.int i)]=>match tab l with
  | some (b,x,f,n)=>if b=a then (if i=0 then some (.at (.str x)) else if i=1 then some (lkD f n) else none) else none
  | none=>none
 | _=>none
end
section
mutual
variable {X:Cx}{R:RC}{ix:List Nat}{H H':Hp}{σ:L2.St}
def ix_tk{tab:TkT}(ht:TkOk X.K tab):IxR X fun x y H Q=>gNw (hTk tab) [x,y] H Q:=ixM ix_seq fun x y H Q q=>by
 obtain ⟨t,u,ho,hu,rfl,rfl,d,hh,qq⟩:=gNw2 q
 cases t with
 | «at» _=>cases hh
 | nd a' k ch=>cases k with
  | lnk a l=>cases ch with
   | cons _ _=>cases hh
   | nil=>cases u with
    | nd _ _ _=>cases hh
    | «at» w=>cases w with
     | int i=>
      obtain rfl:a'=a:=ho.1.1
      have hh:(match tab l with
       | some (b,x,f,n)=>if b=a' then (if i=0 then some (D.at (.str x)) else if i=1 then some (lkD f n) else none) else none
       | none=>none)=some d:=hh
      cases et:tab l with
      | none=>rw [et] at hh;cases hh
      | some z=>
       obtain ⟨b,x,f,n⟩:=z;rw [et] at hh;dsimp only at hh;by_cases eb:b=a'
       .subst eb
        rw [if_pos rfl] at hh;have s:=(ht _ _ _ _ _ et).sqT (H:=H);by_cases e0:i=0
        .subst e0
         rw [if_pos rfl] at hh;cases hh;exact .inr (.inl ⟨b,_,0,.str x,rfl,rfl,s,rfl,qq (.at (.str x)) H rfl (.atom _)⟩)
        .rw [if_neg e0] at hh
         by_cases e1:i=1
         .subst e1
          rw [if_pos rfl] at hh;cases hh;exact .inr (.inl ⟨b,_,1,.ref f,rfl,rfl,s,rfl,qq (.nd f (.lnk f n) []) H rfl .lnk⟩)
         .rw [if_neg e1] at hh;cases hh
       .rw [if_neg eb] at hh;cases hh
     | _=>cases hh
  | _=>cases hh
def re_tk{tab:TkT}{a b:Expr}{pos:Pos}{fa fb:EF}(ht:TkOk X.K tab)(ha:PE X a (lE R ix fa))(hb:PE X b (lE R ix fb))(hs:PlainIx b):PE X (.Subscript a b pos) (lE R ix (eNw (hTk tab) (Z0 fa (Z0 fb Z1)))):=
 peM (pe_ix (ix_tk ht) ha hb hs) fun σ H Q q=>Z1e (Z0P σ H Q q)
abbrev StaD(P:Program)(w:World)(K:Qa)(o:Addr)(kvs:List (Str×Addr×Str)):Prop:=(o == sysModules)=false/\∃ (ob:Obj) (es:Array DictEntry) (ep:Nat),K.lookup o=some ob/\ob.ExactDict/\ob.data=.dict es ep/\KeysOf (ZL P w) es/\Pairs (ZL P w) es.toList (kvs.map fun p=>((Sum.inr p.1:Key),Value.ref p.2.1))/\(kvs.map (·.1)).Nodup
def StaD.dict{P:Program}{w:World}{K:Qa}{o:Addr}{kvs:List (Str×Addr×Str)}{h:Heap}(S:StaD P w K o kvs)(k:K.In h):h.DictOf (ZL P w) o (kvs.map fun p=>((Sum.inr p.1:Key),Value.ref p.2.1)):=by
 obtain ⟨_,ob,es,ep,h1,h2,h3,h4,h5,h6⟩:=S;refine ⟨ob,es,ep,k _ _ h1,h2,h3,h4,h5,?_⟩;rw [Jl]
 have:(kvs.map ((fun x=>x.1) ∘ fun p=>((Sum.inr p.1:Key),Value.ref p.2.1)))=(kvs.map (·.1)).map Sum.inr:=by rw [Jl];rfl
 rw [this];exact List.Pairwise.map _ (fun a b h e=>h (Sum.inr.inj e)) h6
abbrev kvAt(kvs:List (Str×Addr×Str))(x:Str):Option (Addr×Str):=(kvs.find? fun p=>p.1=x).map (·.2)
def kv_at{kvs:List (Str×Addr×Str)}{x:Str}:valueAt (kvs.map fun p=>((Sum.inr p.1:Key),Value.ref p.2.1)) (Sum.inr x)=(kvAt kvs x).map fun p=>Value.ref p.1:=by
 unfold valueAt kvAt
 induction kvs with
 | nil=>rfl
 | cons p r ih=>
  rw [Qj,Wt,Wt];by_cases e:p.1=x
  .simp [e]
  .have:¬ (Sum.inr p.1:Key)=Sum.inr x:=fun z=>e (Sum.inr.inj z)
   simp only [decide_eq_false e,decide_eq_false this];exact ih
abbrev hKd(kvs:List (Str×Addr×Str)):List D->Option D
 | [.at (.str x)]=>(kvAt kvs x).map fun p=>lkD p.1 p.2
 | _=>none
abbrev hKin(neg:Bool)(kvs:List (Str×Addr×Str)):List D->Option D
 | [.at (.str x)]=>some (.at (.bl ((kvAt kvs x).isSome != neg)))
 | _=>none
def re_kd{kvs:List (Str×Addr×Str)}{o:Addr}{e:Expr}{d:Str}{p pos:Pos}{f:EF}(hm:X.mg d=some (.ref o))(S:StaD X.prog X.w X.K o kvs)(he:PE X e (lE R ix f))(hs:NoSl e)(hg:autoParam (Gl X d) uA._auto_1)(hdb:autoParam ((d == ("__debug__":Str))=false) uB._auto_1) :
  PE X (.Subscript (.Name d p) e pos) (lE R ix (eNw (hKd kvs) (Z0 f Z1))):=by
 intro pins s σ H Q I q;have q1:=lA_1 (Z0P σ H Q q);refine Zav PySem.F.slot_dict_getitem.lookup hs (Z1J I hg hm (thn (he pins _ σ H _ I q1) fun iv s2 ⟨y,H2,I2,ry,q2⟩=>?_) hdb);obtain ⟨t,ho,rfl,dd,hh,qq⟩:=gNw1 q2;unfold hKd at hh
 split at hh
 case h_2=>cases hh
 case h_1 x ex=>
  simp only [Js.injEq,and_true] at ex;obtain rfl:=Z4h ex;obtain ⟨pr,h1,rfl⟩:=Gj.mp hh;have D:=S.dict I2.kIn;refine ⟨D.typeIs,wpAny_getItem_of (k:=Sum.inr x) (Z32 (k:=Sum.inr x) ry) D.mapOf (v:=.ref pr.1) (by rw [kv_at,h1];rfl) ?_⟩;exact ⟨.ref pr.1,H2,I2.tok _,rfl,qq (.nd pr.1 (.lnk pr.1 pr.2) []) H2 rfl .lnk⟩
def pc_kd{neg:Bool}{kvs:List (Str×Addr×Str)}{o:Addr}{e:Expr}{d:Str}{p:Pos}{f:EF}(hm:X.mg d=some (.ref o))(S:StaD X.prog X.w X.K o kvs)(he:PE X e (lE R ix f))(hg:autoParam (Gl X d) uA._auto_1)(hdb:autoParam ((d == ("__debug__":Str))=false) uB._auto_1) :
  PC X (if neg then .NotIn else .In) e (.Name d p) (lE R ix (eNw (hKin neg kvs) (Z0 f Z1))):=by
 intro pins s σ H Q I q;have q1:=lA_1 (Z0P σ H Q q);refine thn (he pins s σ H _ I q1) fun iv s1 ⟨y,H1,I1,ry,q2⟩=>Z1J I1 hg hm ?_ hdb;obtain ⟨t,ho,rfl,dd,hh,qq⟩:=gNw1 q2;unfold hKin at hh
 split at hh
 case h_2=>cases hh
 case h_1 x ex=>
  simp only [Js.injEq,and_true] at ex;obtain rfl:=Z4h ex;cases hh;have D:=S.dict I1.kIn;have e1:(valueAt (kvs.map fun p=>((Sum.inr p.1:Key),Value.ref p.2.1)) (Sum.inr x)).isSome=(kvAt kvs x).isSome:=by rw [kv_at,Gi]
  have fin:∀ b:Bool,(kvAt kvs x).isSome=b->EP X pins σ Q (.bool (b != neg)) { s1 with toks:=s1.toks + 1 }:=fun b eb=>⟨.bl (b != neg),H1,I1.tok _,rfl,by rw [<- eb];exact qq (.at (.bl ((kvAt kvs x).isSome != neg))) H1 rfl (.atom _)⟩
  cases neg with
  | true=>
   refine wpAny_notIn_of (k:=Sum.inr x) (Z32 (k:=Sum.inr x) ry) S.1 D.mapOf ?_;rw [e1];have:=fin _ rfl;simpa using this
  | false=>
   refine wpAny_in_of (k:=Sum.inr x) (Z32 (k:=Sum.inr x) ry) S.1 D.mapOf ?_;rw [e1];have:=fin _ rfl;simpa using this
abbrev eDyn(tab:Str->Option (Addr×Fn))(ms:List Bool)(fe:EF)(f:AF):EF:=fun s=>match fe s with
 | .ex _ _=>.no
 | .ok (.val (.nd (.lnk a l) [])) s1=>(match tab l with
  | some (b,fn)=>if b=a then Zh ms fn f s1 else .no
  | none=>.no)
 | _=>.no
def ZgD{tab:Str->Option (Addr×Fn)}{ms:List Bool}{fe:EF}{f:AF}{Q:VK}(h:lE R ix (eDyn tab ms fe f) σ H Q):lE R ix fe σ H fun v H1=>∃ a l fn,v=.ref a/\tab l=some (a,fn)/\lE R ix (Zh ms fn f) σ H1 Q:=by
 obtain ⟨hd,ts,fr,C,h⟩:=h;refine ⟨hd,ts,fr,C,?_⟩;unfold eDyn at h
 cases ef:fe (ts.map TL.er) with
 | no=>rw [ef] at h;exact h
 | ex E s1=>rw [ef] at h;exact False.elim h
 | ok r s1=>
  rw [ef] at h
  cases r with
  | plc k p=>exact h.elim
  | val d=>
  cases d with
  | «at» v=>exact h.elim
  | nd kd ch=>
  cases kd with
  | lnk a l=>
   cases ch with
   | cons=>exact h.elim
   | nil=>
    dsimp only at h;intro H1 ts1 tv v e1 e2 hv C1;obtain ⟨t,rfl,et,rfl⟩:=Z08.er_val hv e2;obtain rfl:=lk_er et (T.oks_app.mp C1.fok).1.1
    cases e3:tab l with
    | none=>rw [e3] at h;exact h.elim
    | some q=>
     obtain ⟨b,fn⟩:=q;rw [e3] at h;dsimp only at h;by_cases eb:b=a
     .subst eb
      rw [if_pos rfl] at h;subst e1;exact ⟨b,l,fn,rfl,e3,hd,ts1,fr,C1.drop,h⟩
     .rw [if_neg eb] at h;exact h.elim
  | _=>exact h.elim
abbrev DynOk(X:Cx)(R:RC)(tab:Str->Option (Addr×Fn))(k:Nat)(ms:List Bool):Prop:=∀ l a fn,tab l=some (a,fn)->∃ (fd:FuncData) (ps:List Str),FnOk X.prog X.w X.K X.mg X.base (CX1 X.prog X.w) k a fd ps (spR R.ad ms fn)/\Jt X.K (.ref a)=true/\Binds X.K fd ps []
def Zh7{tab:Str->Option (Addr×Fn)}{x:Str}{k:Nat}{ms:List Bool}{p pos:Pos}{e:Expr}{es:List Expr}{fe:EF}{f:AF}(D:DynOk X R tab k ms)(hr:Room k X.A)(hx:Z19 X R.EX)(hn:PE X (.Name x p) (lE R ix fe))(ha:PA X (e::es) (lA R ix f))(hl:ALen ms.length f)
  (he:autoParam (starEach (e::es) X.env=(false,eval e X.env)::starEach es X.env) uA._auto_1) (hpl:autoParam ((backTo pos (starEach es X.env)).any (·.1)=false) uA._auto_1) :
  PE X (.Call (.Name x p) (e::es) [] pos) (lE R ix (eDyn tab ms fe f)):=by
 intro pins s σ H Q I q;refine wpAny_Call_Name_kw (thn (hn pins s σ H _ I (ZgD q)) fun u s1 ⟨v,H1,I1,rv,a,l,fn,ev,et,q1⟩=>?_);subst ev;cases rv;obtain ⟨fd,ps,G,kp,b⟩:=D l a fn et;exact Nj (h₀:=X.base) I.ok.mod.kin kp (thn (ha pos pins s1 σ H1 _ I1 (Z7L σ H1 Q hl q1)) fun us s2 ⟨vs,H2,I2,r,q2⟩=>⟨I2.kIn,Z6e G hr b hx I2 r q2⟩) he hpl
def Zeq{x:Str}{k j:Nat}{ps:List Str}{ms:List Bool}{fn:Fn}{a:Addr}(D:DefX X.prog X.w X.K X.mg X.base x k ps (spR R.ad ms fn))(hm:X.mg x=some (.ref a))(hk:k<=j):∃ (fd:FuncData) (ps:List Str),FnOk X.prog X.w X.K X.mg X.base (CX1 X.prog X.w) j a fd ps (spR R.ad ms fn)/\Jt X.K (.ref a)=true/\Binds X.K fd ps []:=by
 obtain ⟨f,fd,G,m,kp,b,_⟩:=D.ex;rw [hm] at m;cases m;exact ⟨fd,ps,G.mono hk,kp,b⟩
end
end
theorem Z8v:∀ l:List (Str×Tok),Vals ((l.map (·.1)).map V.str) (strValues l)
 | []=>.nil
 | (x,t)::l=>.cons ⟨t,rfl⟩ (Z8v l)
section
mutual
variable {X:Cx}{R:RC}{ix:List Nat}{H:Hp}{σ:L2.St}
def ZdD:MtR X "str.split" (fun x vs H Q=>∃ z y,x=.str z/\vs=[.str y]/\(y.length == 0)=false/\z.length<=sizeLine/\(Txt.split z y).length<=sizeLine/\∀ p,H p=none->Q (.ref p) (upd H p (.lst ((Txt.split z y).map V.str)))):=by
 intro pins s σ H x vs v us Q I rx rv h;obtain ⟨z,y,rfl,rfl,hy,hz,hn,q⟩:=h;obtain ⟨t,rfl⟩:=rx;obtain ⟨u,rfl,ru⟩:=rv.one;obtain ⟨t2,rfl⟩:=ru
 have fin:∀ (l:List (Str×Tok)) (tk:Nat),l.map (·.1)=Txt.split z y->EP X pins σ Q (.ref s.heap.objs.size) { s with heap:=s.heap.push { cls:=.type "list",data:=.seq (strValues l).toArray },toks:=tk }:=fun l tk e=>
  ⟨.ref s.heap.objs.size,_,I.laid (t':=tk) (fun b o eb=>Qi _ eb) (Qq _) (show Z01 X.prog X.w _ _ _ (.lst ((Txt.split z y).map V.str)) from ⟨by rw [Qx];exact hn,strValues l,_,by rw [<- e];exact Z8v l,Qy _ rfl⟩),rfl,q _ (I.hok.fresh (Qq _))⟩
 cases h1:(decide (z.length < y.length) || decide (Builtin.Str.strKind z < Builtin.Str.strKind y)) with
 | true=>
  exact call_meets F.slot_str_split (typeIs_str _ _ _) F.entry_str_split (F.args_str_split_2 _ _) (meets_str_split_cannot_occur z y t t2 h1) (fin [(z,t)] s.toks (if_pos h1).symm)
 | false=>
  cases hf:(Builtin.Str.occurrences z y 0 z.length (z.length + 1)).isEmpty with
  | true=>
   exact call_meets F.slot_str_split (typeIs_str _ _ _) F.entry_str_split (F.args_str_split_2 _ _) (meets_str_split_not_found z y t t2 h1 hy hf) (fin [(z,t)] s.toks ((if_neg (ne_true_of_eq_false h1)).trans (if_pos hf)).symm)
  | false=>
   have e:Txt.split z y=Builtin.Str.partsBetween z (Builtin.Str.occurrences z y 0 z.length (z.length + 1)) y.length:=(if_neg (ne_true_of_eq_false h1)).trans (if_neg (ne_true_of_eq_false hf));refine call_meets F.slot_str_split (typeIs_str _ _ _) F.entry_str_split (F.args_str_split_2 _ _) (meets_str_split_sep z y t t2 h1 hy hf hz (by rw [<- e];exact hn)) ?_;have:=fin (numbered s.toks (Txt.split z y)) (s.toks + (Txt.split z y).length) (numbered_texts _ _);rw [<- strsFrom_eq,e] at this;exact this
abbrev hSplit:List D->Option D
 | [.at (.str z),.at (.str y)]=>if (y.length == 0)=false/\z.length<=sizeLine/\(Txt.split z y).length<=sizeLine then some (.nd (.lst true) ((Txt.split z y).map fun x=>.at (.str x))) else none
 | _=>none
abbrev isStrD:D->Bool
 | .at (.str _)=>true | _=>false
def ZeJ{t:T}(h:isStrD t.er=true):∃ x,t=.at (.str x):=by
 cases t with
 | nd a k l=>cases h
 | «at» v=>cases v with
  | str x=>exact ⟨x,rfl⟩
  | _=>simp [T.er,cl,isStrD] at h
def ZdR{o e:Expr}{apos cpos:Pos}{fo fe:EF}(ho:PE X o (lE R ix fo))(he:PE X e (lE R ix fe))(hbase:autoParam (attributeBase o "split" X.env (eval o X.env)=eval o X.env) uA._auto_1)
  (hfew:autoParam (((backTo cpos (starEach [e] X.env)).all (fun x=>!x.1) && (backToKw cpos (keywordEach [] X.env)).all (fun x=>x.1.isSome) && decide ([e].length + ([]:List Keyword).length + (if ([]:List Keyword).isEmpty then 0 else 1) < 30))=true) uA._auto_1)
  (hline:autoParam ((apos.endLine == cpos.line)=true) uA._auto_1) (hs:autoParam (starEach [e] X.env=(false,eval e X.env)::starEach [] X.env) uA._auto_1) (hplain:autoParam ((backTo cpos (starEach [] X.env)).any (·.1)=false) uA._auto_1) :
  PE X (.Call (.Attribute o "split" apos) [e] [] cpos) (lE R ix (eNw hSplit (Z0 (Zr isStrD fo) (Z0 fe Z1)))):=
 peM (pe_bm PySem.F.plainAttrs_str PySem.F.slot_str_split PySem.F.type_str_split ZdD ho (Zg he ZF hs) hbase hfew hline hs hplain) fun σ H Q q=>by
  have q1:=Z1e (Z0P σ H Q q);refine Zd (fun x H1 q=>?_) (Z2Q q1);obtain ⟨⟨t0,rfl,t2,t3⟩,q⟩:=q;obtain ⟨z,rfl⟩:=ZeJ t3;refine ⟨rfl,Zd (fun y H2 q=>?_) q⟩;obtain ⟨t,u,ht,hu,e1,e2,d,hh,q⟩:=gNw2 q;unfold hSplit at hh
  split at hh
  case h_2=>cases hh
  case h_1 z' y' el=>
   simp only [Js.injEq,and_true] at el;obtain rfl:=Z4h el.1;obtain rfl:=Z4h el.2;cases e1
   split at hh
   case isFalse=>cases hh
   case isTrue hz=>
    cases hh;refine ⟨z,y',rfl,by rw [<- e2];rfl,hz.1,hz.2.1,hz.2.2,fun p hp=>?_⟩;have:=q (.nd p (.lst true) ((Txt.split z y').map fun x=>.at (.str x))) (upd H2 p (.lst ((Txt.split z y').map V.str))) (by simp [T.er,T.ers_eq,Function.comp_def,cl]) (Z6G (o:=.lst ((Txt.split z y').map V.str)) hp (by rw [Jl];exact Zj) (.inl rfl) (fun t ht=>?_) fun b hb=>?_)
    .exact this
    .obtain ⟨w,_,rfl⟩:=Wa.mp ht
     exact ⟨trivial,rfl⟩
    .obtain ⟨t,h1,h2⟩:=T.mem_ros.mp hb
     obtain ⟨w,_,rfl⟩:=Wa.mp h1;simp [T.ro] at h2
end
end
section
mutual
variable {prog:Program}{w:World}{A:Around}{E:Value->Shared->Prop}{s:Shared}
def Z81{z TI TO i1 i2 l2:Addr}{k1 k2 c:Nat}{x:Str}{tk:Tok}{ys:Array Value}{y a b:Value}{Q:Value->Shared->Prop}(D:ZipApart z TI TO i1 i2 l2 l2)
  (hz:IsZip s.heap z TI TO .none) (hTI:IsPair s.heap TI (.ref i1) (.ref i2)) (hTO:IsPair s.heap TO a b)
  (h1:s.heap.IsStrIter i1 "str_ascii_iterator" x tk k1) (h2:s.heap.IsListIter i2 l2 k2) (hl2:s.heap.IsList l2 ys) (hx:x.cps[k1]?=some c) (hy:ys[k2]?=some y)
  (hQ:∀ h',IsZip h' z TI TO (rawInt s.heap.objs.size)->IsPair h' TO (.str ⟨#[c]⟩ s.toks) y->h'.IsStrIter i1 "str_ascii_iterator" x tk (k1 + 1)->h'.IsListIter i2 l2 (k2 + 1)->IsPair h' s.heap.objs.size (.str ⟨#[c]⟩ s.toks) y->h'.objs.size=s.heap.objs.size + 1 ->
   (∀ c o,c≠z->c≠TO->c≠i1->c≠i2->s.heap.get? c=some o->h'.get? c=some o)->Q (.ref s.heap.objs.size) { s with heap:=h',toks:=s.toks + 1 }) :
  wpAny (model prog w) A (Builtin.«zip.__next__» ⟨[.ref z],[]⟩) (fun fin s'=>∃ v,fin=.done (.ret v)/\Q v s') E s:=by
 show wpAny _ _ (field (.ref z) 2 >>= _) _ _ _;refine wpAny_bind (wpAny_field hz rfl (x:=.bool false) rfl ?_);show wpAny _ _ (field (.ref z) 3 >>= _) _ _ _;refine wpAny_bind (wpAny_field hz rfl (x:=.ref TI) rfl ?_);refine wpAny_bind (wpAny_seqItems hTI rfl ?_);show wpAny _ _ (Builtin.SmallTypes.ownedTupleIsFree (.ref z) >>= _) _ _ _;refine wpAny_bind ?_;unfold Builtin.SmallTypes.ownedTupleIsFree;refine wpAny_bind (wpAny_field hz rfl (x:=.none) rfl (wpAny_pure ?_));simp only [if_true];refine wpAny_bind (wpAny_rule ?_);refine wpAny_bind (wpAny_field hz rfl (x:=.ref TO) rfl ?_);refine wpAny_bind (wpAny_setField_rec hz (by simp) fun h₁ hz₁ hs₁=>?_);replace hz₁:IsZip h₁ z TI TO .ellipsis:=hz₁;refine wpAny_bind ?_;simp only [List.zipIdx_cons,List.zipIdx_nil,List.forIn_cons,List.forIn_nil];refine wpAny_bind (wpAny_bind (wpAny_onRaise ?_));show wpAny _ _ (Builtin.SmallTypes.nextOf (.ref i1) >>= _) _ _ _;refine wpAny_bind (wpAny_nextOf_ascii_item (h1.extBut hs₁.extBut D.i1z) hx fun h₂ h1₂ hs₂=>wpAny_pure ?_);have hTO₂:IsPair h₂ TO a b:=hs₂.extBut _ _ D.TOi1 (hs₁.extBut _ _ D.TOz hTO);refine wpAny_bind (wpAny_seqItems hTO₂ rfl ?_);refine wpAny_bind (wpAny_updateSeq_pair hTO₂ fun h₃ hTO₃ hs₃=>?_);replace hTO₃:IsPair h₃ TO (.str ⟨#[c]⟩ s.toks) b:=hTO₃;refine wpAny_bind (wpAny_letGo (wpAny_pure ?_));refine wpAny_bind (wpAny_bind (wpAny_onRaise ?_));show wpAny _ _ (Builtin.SmallTypes.nextOf (.ref i2) >>= _) _ _ _
 refine wpAny_bind (wpAny_nextOf_list_item (((h2.extBut hs₁.extBut D.i2z).extBut hs₂.extBut D.i12.symm).extBut hs₃.extBut D.TOi2.symm)
  (((hl2.extBut hs₁.extBut D.l2z).extBut hs₂.extBut D.l2i1).extBut hs₃.extBut D.l2TO) hy fun h₄ h2₄ hs₄=>wpAny_pure ?_)
 have hTO₄:IsPair h₄ TO (.str ⟨#[c]⟩ s.toks) b:=hs₄.extBut _ _ D.TOi2 hTO₃;refine wpAny_bind (wpAny_seqItems hTO₄ rfl ?_);refine wpAny_bind (wpAny_updateSeq_pair hTO₄ fun h₅ hTO₅ hs₅=>?_);replace hTO₅:IsPair h₅ TO (.str ⟨#[c]⟩ s.toks) y:=hTO₅;refine wpAny_bind (wpAny_letGo (wpAny_pure (wpAny_pure ?_)));refine wpAny_bind (wpAny_seqItems hTO₅ rfl ?_);refine wpAny_bind (wpAny_newTuple ?_);have hsz:h₅.objs.size=s.heap.objs.size:=by rw [hs₅.1,hs₄.1,hs₃.1,hs₂.1,hs₁.1]
 have hz₅:IsZip h₅ z TI TO .ellipsis:=hs₅.extBut _ _ D.TOz.symm (hs₄.extBut _ _ D.i2z.symm (hs₃.extBut _ _ D.TOz.symm (hs₂.extBut _ _ D.i1z.symm hz₁)))
 have hk₅:∀ c o,c≠z->c≠TO->c≠i1->c≠i2->s.heap.get? c=some o->h₅.get? c=some o:=fun c o c1 c2 c3 c4 e=>
  hs₅.extBut _ _ c2 (hs₄.extBut _ _ c4 (hs₃.extBut _ _ c2 (hs₂.extBut _ _ c3 (hs₁.extBut _ _ c1 e))))
 have h1₅:h₅.IsStrIter i1 "str_ascii_iterator" x tk (k1 + 1):=((h1₂.extBut hs₃.extBut D.TOi1.symm).extBut hs₄.extBut D.i12).extBut hs₅.extBut D.TOi1.symm;have h2₅:h₅.IsListIter i2 l2 (k2 + 1):=h2₄.extBut hs₅.extBut D.TOi2.symm;have hzlt:z < h₅.objs.size:=Qz hz₅;show wpAny _ _ (Builtin.SmallTypes.ownedTupleHandOut (.ref z) (.ref h₅.objs.size) >>= _) _ _ _;refine wpAny_bind ?_;unfold Builtin.SmallTypes.ownedTupleHandOut;have hz₆:IsZip (h₅.push { cls:=.type "tuple",data:=.seq #[.str ⟨#[c]⟩ s.toks,y] }) z TI TO .ellipsis:=Qi _ hz₅;refine wpAny_bind (wpAny_setField_rec hz₆ (by simp) fun h₇ hz₇ hs₇=>?_);replace hz₇:IsZip h₇ z TI TO (rawInt h₅.objs.size):=hz₇;refine wpAny_setField_rec hz₇ (by simp) fun h₈ hz₈ hs₈=>?_;replace hz₈:IsZip h₈ z TI TO (rawInt h₅.objs.size):=hz₈;have up:∀ c o,c≠z->h₅.get? c=some o->h₈.get? c=some o:=fun c o c1 e=>hs₈.extBut _ _ c1 (hs₇.extBut _ _ c1 (Qi _ e));have hT₈:IsPair h₈ h₅.objs.size (.str ⟨#[c]⟩ s.toks) y:=hs₈.extBut _ _ (Nat.ne_of_gt hzlt) (hs₇.extBut _ _ (Nat.ne_of_gt hzlt) (Qy _ rfl));have hz8:h₈.objs.size=h₅.objs.size + 1:=by rw [hs₈.1,hs₇.1,Wj]
 rw [hsz] at hz₈ hT₈ hz8;refine wpAny_pure ⟨_,rfl,?_⟩;show Q (.ref h₅.objs.size) _;rw [hsz];exact hQ h₈ hz₈ (up _ _ D.TOz hTO₅) (h1₅.extBut (b:=z) (fun c o c1 e=>up c o c1 e) D.i1z) (h2₅.at fun o e=>up _ o D.i2z e) hT₈ hz8 fun c o c1 c2 c3 c4 e=>up c o c1 (hk₅ c o c1 c2 c3 c4 e)
def Z8M{z TI TO i1 i2:Addr}{k1:Nat}{x:Str}{tk:Tok}{a b:Value}{Q:Fin->Shared->Prop}(hh:A.handled=none)(D:i1≠z)
  (hz:IsZip s.heap z TI TO .none) (hTI:IsPair s.heap TI (.ref i1) (.ref i2)) (hTO:IsPair s.heap TO a b)
  (h1:s.heap.IsStrIter i1 "str_ascii_iterator" x tk k1) (hend:x.cps[k1]?=none)
  (hE:∀ h' e,(∀ c o,c≠z->c≠TO->c≠i1->c≠i2->s.heap.get? c=some o->h'.get? c=some o)->(∃ o,h'.get? e=some o/\o.cls=.type "StopIteration")->E (.ref e) { s with heap:=h' }) :
  wpAny (model prog w) A (Builtin.«zip.__next__» ⟨[.ref z],[]⟩) Q E s:=by
 show wpAny _ _ (field (.ref z) 2 >>= _) _ _ _;refine wpAny_bind (wpAny_field hz rfl (x:=.bool false) rfl ?_);show wpAny _ _ (field (.ref z) 3 >>= _) _ _ _;refine wpAny_bind (wpAny_field hz rfl (x:=.ref TI) rfl ?_);refine wpAny_bind (wpAny_seqItems hTI rfl ?_);show wpAny _ _ (Builtin.SmallTypes.ownedTupleIsFree (.ref z) >>= _) _ _ _;refine wpAny_bind ?_;unfold Builtin.SmallTypes.ownedTupleIsFree;refine wpAny_bind (wpAny_field hz rfl (x:=.none) rfl (wpAny_pure ?_));simp only [if_true];refine wpAny_bind (wpAny_rule ?_);refine wpAny_bind (wpAny_field hz rfl (x:=.ref TO) rfl ?_);refine wpAny_bind (wpAny_setField_rec hz (by simp) fun h₁ hz₁ hs₁=>?_);replace hz₁:IsZip h₁ z TI TO .ellipsis:=hz₁;refine wpAny_bind ?_;simp only [List.zipIdx_cons,List.zipIdx_nil,List.forIn_cons,List.forIn_nil];refine wpAny_bind (wpAny_bind (wpAny_onRaise ?_));show wpAny _ _ (Builtin.SmallTypes.nextOf (.ref i1) >>= _) _ _ _;refine wpAny_bind (wpAny_nextOf_ascii_end hh (h1.extBut hs₁.extBut D) hend fun h₂ e hs₂ he=>?_);obtain ⟨oe,hoe,hce⟩:=he;have hz₂:IsZip h₂ z TI TO .ellipsis:=hs₂ _ _ D.symm hz₁;have hez:e≠z:=fun x=>by subst x;rw [hz₂] at hoe;cases hoe;simp at hce
 refine wpAny_setField_rec hz₂ (by simp) fun h₃ _ hs₃=>hE h₃ e (fun c o c1 _ c3 _ x=>hs₃.extBut _ _ c1 (hs₂ _ _ c3 (hs₁.extBut _ _ c1 x))) ⟨oe,hs₃.extBut _ _ hez hoe,hce⟩
private abbrev zT1(h:Heap)(x:Str)(tk:Tok):Heap:=h.push { cls:=.type "str_ascii_iterator",data:=.fields #[.str x tk,.int 0 0] }
private abbrev zT2(h:Heap)(x:Str)(tk:Tok)(l2:Addr):Heap:=(zT1 h x tk).push { cls:=.type "list_iterator",data:=.fields #[.ref l2,.int 0 0] }
private abbrev zT3(h:Heap)(x:Str)(tk:Tok)(l2:Addr):Heap:=(zT2 h x tk l2).push { cls:=.type "tuple",data:=.seq #[.ref h.objs.size,.ref (zT1 h x tk).objs.size] }
private abbrev zT4(h:Heap)(x:Str)(tk:Tok)(l2:Addr):Heap:=(zT3 h x tk l2).push { cls:=.type "tuple",data:=.seq #[.none,.none] }
private abbrev zT5(h:Heap)(x:Str)(tk:Tok)(l2:Addr):Heap:=(zT4 h x tk l2).push { cls:=.type "zip",data:=.fields #[.none,.bool false,.bool false,.ref (zT2 h x tk l2).objs.size,.ref (zT3 h x tk l2).objs.size] }
def Z7M(x:Str)(tk:Tok)(ha:x.cps.all (· < 128)=true)(l2:Addr)(ys:Array Value) :
  Meets (Builtin.«zip.__new__» ⟨[.type "zip",.str x tk,.ref l2],[]⟩) (fun _ R s=>s.heap.IsList l2 ys/\R (.ok (.ret (.ref (zT4 s.heap x tk l2).objs.size))) { s with heap:=zT5 s.heap x tk l2 }):=
 .of_wp fun prog w A R s h=>by
  obtain ⟨hp,g,d,tk',os⟩:=s;obtain ⟨hl2,h⟩:=h;have hsub:=sub_zip;have hL2:Heap.IsList (Shared.heap ⟨hp.push { cls:=.type "str_ascii_iterator",data:=.fields #[.str x tk,.int 0 0] },g,d,tk',os⟩) l2 ys:=Heap.IsList.push hl2 _
  wp_walk using wpAny_pyIter_ascii ha,wpAny_pyIter_list hL2
  exact ⟨_,rfl,h⟩
end
end
section
mutual
variable {prog:Program}{w:World}{A:Around}{E:Value->Shared->Prop}{s:Shared}
def Z6I{z TI TO i1 i2 l2:Addr}{k1 k2 c:Nat}{x:Str}{tk:Tok}{ys:Array Value}{y a b:Value}{Q:Option Value->Shared->Prop}(D:ZipApart z TI TO i1 i2 l2 l2)
  (hz:IsZip s.heap z TI TO .none) (hTI:IsPair s.heap TI (.ref i1) (.ref i2)) (hTO:IsPair s.heap TO a b)
  (h1:s.heap.IsStrIter i1 "str_ascii_iterator" x tk k1) (h2:s.heap.IsListIter i2 l2 k2) (hl2:s.heap.IsList l2 ys) (hx:x.cps[k1]?=some c) (hy:ys[k2]?=some y)
  (hQ:∀ h',IsZip h' z TI TO (rawInt s.heap.objs.size)->IsPair h' TO (.str ⟨#[c]⟩ s.toks) y->h'.IsStrIter i1 "str_ascii_iterator" x tk (k1 + 1)->h'.IsListIter i2 l2 (k2 + 1)->IsPair h' s.heap.objs.size (.str ⟨#[c]⟩ s.toks) y->h'.objs.size=s.heap.objs.size + 1 ->
   (∀ c o,c≠z->c≠TO->c≠i1->c≠i2->s.heap.get? c=some o->h'.get? c=some o)->Q (some (.ref s.heap.objs.size)) { s with heap:=h',toks:=s.toks + 1 }) :
  wpAny (model prog w) A (pyNext (.ref z)) Q E s:=by
 have hT:s.TypeIs (.ref z) "zip":=⟨_,hz,rfl⟩;unfold pyNext
 exact wpAny_bind (wpAny_attempt (wpAny_callSpecial?_slot (name:=Str.ofString "__next__") hT F.slot_zip_next
  (wpAny_call_entry F.slot_zip_next hT F.entry_zip_next
   (Z81 D hz hTI hTO h1 h2 hl2 hx hy fun h' a1 a2 a3 a4 a5 a6 a7=>wpAny_pure (hQ h' a1 a2 a3 a4 a5 a6 a7)) (F.args_zip_next_1 _))))
def Z7n{z TI TO i1 i2:Addr}{k1:Nat}{x:Str}{tk:Tok}{a b:Value}{Q:Option Value->Shared->Prop}(hh:A.handled=none)(D:i1≠z)
  (hz:IsZip s.heap z TI TO .none) (hTI:IsPair s.heap TI (.ref i1) (.ref i2)) (hTO:IsPair s.heap TO a b)
  (h1:s.heap.IsStrIter i1 "str_ascii_iterator" x tk k1) (hend:x.cps[k1]?=none)
  (hQ:∀ h',(∀ c o,c≠z->c≠TO->c≠i1->c≠i2->s.heap.get? c=some o->h'.get? c=some o)->Q none { s with heap:=h' }):wpAny (model prog w) A (pyNext (.ref z)) Q E s:=by
 have hT:s.TypeIs (.ref z) "zip":=⟨_,hz,rfl⟩;unfold pyNext
 refine wpAny_bind (wpAny_attempt (wpAny_callSpecial?_slot (name:=Str.ofString "__next__") hT F.slot_zip_next
  (wpAny_call_entry F.slot_zip_next hT F.entry_zip_next (Z8M hh D hz hTI hTO h1 hend fun h' e hk he=>?_) (F.args_zip_next_1 _))))
 obtain ⟨o,ho,hc⟩:=he;refine wpAny_bind (wpAny_isInstance (T :="StopIteration") (b:=true) ⟨o,ho,hc⟩ isSubtype_stop ?_);exact wpAny_pure (hQ _ hk)
def Zb4{x:Str}{tk:Tok}{l2:Addr}{ys:Array Value}{Q:Value->Shared->Prop}(ha:x.cps.all (· < 128)=true)(hl2:s.heap.IsList l2 ys)
  (h:∀ h',IsZip h' (s.heap.objs.size + 4) (s.heap.objs.size + 2) (s.heap.objs.size + 3) .none->IsPair h' (s.heap.objs.size + 2) (.ref s.heap.objs.size) (.ref (s.heap.objs.size + 1)) ->
   IsPair h' (s.heap.objs.size + 3) .none .none->h'.IsStrIter s.heap.objs.size "str_ascii_iterator" x tk 0->h'.IsListIter (s.heap.objs.size + 1) l2 0->h'.objs.size=s.heap.objs.size + 5 ->
   (∀ c o,s.heap.get? c=some o->h'.get? c=some o)->Q (.ref (s.heap.objs.size + 4)) { s with heap:=h' }) :
  wpAny (model prog w) A (call (.type "zip") [.str x tk,.ref l2]) Q E s:=by
 refine callType_new F.called_zip (by decide) (F.typeCall_zip_2 _ _) (F.newCall_zip_2 _ _) (fun obj=>F.args_object_init_3 obj _ _) F.entry_zip_new
  (Z7M x tk ha l2 ys) ⟨hl2,?_⟩
 have z1:(zT1 s.heap x tk).objs.size=s.heap.objs.size + 1:=Wj ..;have z2:(zT2 s.heap x tk l2).objs.size=s.heap.objs.size + 2:=by rw [Wj,z1]
 have z3:(zT3 s.heap x tk l2).objs.size=s.heap.objs.size + 3:=by rw [Wj,z2]
 have z4:(zT4 s.heap x tk l2).objs.size=s.heap.objs.size + 4:=by rw [Wj,z3]
 have z5:(zT5 s.heap x tk l2).objs.size=s.heap.objs.size + 5:=by rw [Wj,z4]
 have g5:(zT5 s.heap x tk l2).get? (zT4 s.heap x tk l2).objs.size=some _:=Qy _ rfl;have g4:(zT5 s.heap x tk l2).get? (zT3 s.heap x tk l2).objs.size=some _:=Qi _ (Qy _ rfl);have g3:(zT5 s.heap x tk l2).get? (zT2 s.heap x tk l2).objs.size=some _:=Qi _ (Qi _ (Qy _ rfl));have g2:(zT5 s.heap x tk l2).get? (zT1 s.heap x tk).objs.size=some _:=Qi _ (Qi _ (Qi _ (Qy _ rfl)));have g1:(zT5 s.heap x tk l2).get? s.heap.objs.size=some _:=Qi _ (Qi _ (Qi _ (Qi _ (Qy _ rfl))));show _/\_;rw [z2,z3,z4] at g5;rw [z1,z2] at g3;rw [z3] at g4;rw [z1] at g2;rw [z4]
 exact ⟨⟨_,g5,rfl⟩,h _ g5 g3 g4 ⟨_,g1,rfl,rfl⟩ ⟨_,g2,rfl,rfl⟩ z5 fun c o x=>
  Qi _ (Qi _ (Qi _ (Qi _ (Qi _ x))))⟩
end
end
section
mutual
variable {X:Cx}{pins:List (Addr×Obj)}{σ:L2.St}{H:Hp}{s:Shared}{h':Heap}
def ZbB{t':Nat}{ch:List Addr}{a:Addr}{o:HO}(I:Inv X pins σ H s)(k:∀ b u,b∉ch->s.heap.get? b=some u->h'.get? b=some u)(hc:∀ b∈ch,Z1d X pins H b)(hp:s.heap.objs.size<=a)(new:Z01 X.prog X.w (upd H a o) h' a o) :
  Inv X pins σ (upd H a o) { s with heap:=h',toks:=t' }:=by
 have hn:H a=none:=I.hok.fresh hp;have nit:∀ b u,H b=some u->b∉ch:=fun b u q z=>by rw [(hc b z).1] at q;cases q
 have na:∀ b u,s.heap.get? b=some u->b≠a:=fun b u q=>Jc (Qv (Qz q) hp)
 refine I.step (g':=s.gens) (d':=s.drawn) (ch:=ch) (fun b hb=>?_) (fun b o _ _ hc e _=>k b o hc e) (fun b o _ _ hc e _=>⟨o.slots,k b o hc e⟩) (fun b o _ q n=>by rw [Zb (na b o q)];exact n)
  (fun b o hc e=>⟨o,k b o hc e⟩) (fun b xs q=>by rw [Zb (Z0b q hn)];exact q) (fun b u xs q=>by rw [Zb (Z0b q hn)];exact q) (fun b ps q=>⟨#[],by rw [Zb (Z0b q hn),q];simp⟩) (fun m hm=>?_) (fun b u q=>?_) I.bare
 .have he:=hc b hb
  exact ⟨he.2.2.2.1,he.2.1,he.2.2.2.2.1,he.2.2.2.2.2⟩
 .obtain ⟨o,es,ep,ho,r⟩:=hm
  exact ⟨o,es,ep,k _ o (fun z=>(hc _ z).2.1 rfl) ho,r⟩
 .by_cases hb:b=a
  .subst hb;rw [Zj] at q;cases q;exact new
  .rw [Zb hb] at q
   refine (I.hok b u q).stay (fun c v hc r=>?_) (fun c r=>by rw [Zb (Z0b r hn)];exact r) fun c xs r=>by rw [Zb (Z0b r hn)];exact r
   rcases hc with z | z
   .rw [z] at r ⊢;exact k b v (nit b u q) r
   .exact k c v (nit c _ z) r
def ZaJ{t':Nat}{ch:List Addr}(I:Inv X pins σ H s)(k:∀ b u,b∉ch->s.heap.get? b=some u->h'.get? b=some u)(hc:∀ b∈ch,Z1d X pins H b):Inv X pins σ H { s with heap:=h',toks:=t' }:=by
 have nit:∀ b u,H b=some u->b∉ch:=fun b u q z=>by rw [(hc b z).1] at q;cases q
 refine I.step (g':=s.gens) (d':=s.drawn) (ch:=ch) (fun b hb=>?_) (fun b o _ _ hc e _=>k b o hc e) (fun b o _ _ hc e _=>⟨o.slots,k b o hc e⟩) (fun b o _ q n=>n)
  (fun b o hc e=>⟨o,k b o hc e⟩) (fun b xs q=>q) (fun b u xs q=>q) (fun b ps q=>⟨#[],by rw [q];simp⟩) (fun m hm=>?_) (fun b u q=>?_) I.bare
 .have he:=hc b hb
  exact ⟨he.2.2.2.1,he.2.1,he.2.2.2.2.1,he.2.2.2.2.2⟩
 .obtain ⟨o,es,ep,ho,r⟩:=hm
  exact ⟨o,es,ep,k _ o (fun z=>(hc _ z).2.1 rfl) ho,r⟩
 .refine (I.hok b u q).stay (fun c v hc r=>?_) (fun c r=>r) fun c xs r=>r
  rcases hc with z | z
  .rw [z] at r ⊢;exact k b v (nit b u q) r
  .exact k c v (nit c _ z) r
end
end
mutual
abbrev Itz(K:Qa)(x:Str)(a:Addr):It:=
  ⟨fun i H=>(∃ c,x.cps[i]?=some c)/\∃ xs y,SqL K H a xs/\xs[i]?=some y,
   fun i H v H'=>∃ b c y,v=.ref b/\H b=none/\H'=upd H b (.tup [.str ⟨#[c]⟩,y])/\x.cps[i]?=some c/\∀ xs,SqL K H a xs->xs[i]?=some y,
   fun i _=>x.cps[i]?=none⟩
structure ZApart(z TI TO i1 i2:Addr):Prop where
 TIz:TI≠z
 TOz:TO≠z
 i1z:i1≠z
 i2z:i2≠z
 TITO:TI≠TO
 TIi1:TI≠i1
 TIi2:TI≠i2
 TOi1:TO≠i1
 TOi2:TO≠i2
 i12:i1≠i2
def Zcp{P:Program}{w:World}{K:Qa}{elts:List Expr}{x1:Nat}{pos:Pos}{x:Str}{t:Tok}{a z TI TO i1 i2:Addr}(D:ZApart z TI TO i1 i2):Turn P w K (.Tuple elts x1 pos) (Itz K x a) [z,TO,i1,i2,TI] z
  (fun i h=>IsZip h z TI TO .none/\IsPair h TI (.ref i1) (.ref i2)/\(∃ a b,IsPair h TO a b)/\h.IsStrIter i1 "str_ascii_iterator" x t i/\h.IsListIter i2 a i) where
 mem:=by simp
 obj:=fun i h st b hb=>by
  obtain ⟨hz,hTI,⟨a0,b0,hTO⟩,h1,h2⟩:=st
  have nf:∀ {d:Data},(∃ vs,d=.fields vs)\/(∃ vs n,d=.seq vs n)->∀ v,d≠.cell v:=fun h v e=>by
   rcases h with ⟨vs,h⟩ | ⟨vs,n,h⟩ <;> (rw [h] at e;cases e)
  have hb':b=z\/b=TO\/b=i1\/b=i2\/b=TI:=by simpa using hb
  rcases hb' with rfl | rfl | rfl | rfl | rfl
  .exact ⟨_,hz,nf (.inl ⟨_,rfl⟩)⟩
  .exact ⟨_,hTO,nf (.inr ⟨_,_,rfl⟩)⟩
  .obtain ⟨o,e,c,d⟩:=h1;exact ⟨o,e,nf (.inl ⟨_,d⟩)⟩
  .obtain ⟨o,e,c,d⟩:=h2;exact ⟨o,e,nf (.inl ⟨_,d⟩)⟩
  .exact ⟨_,hTI,nf (.inr ⟨_,_,rfl⟩)⟩
 keep:=fun i h h' st k=>by
  obtain ⟨hz,hTI,⟨a0,b0,hTO⟩,h1,h2⟩:=st;refine ⟨k z (by simp) _ hz,k TI (by simp) _ hTI,⟨a0,b0,k TO (by simp) _ hTO⟩,?_,h2.at fun o q=>k i2 (by simp) o q⟩;obtain ⟨o,e,r⟩:=h1;exact ⟨o,k i1 (by simp) o e,r⟩
 item:=by
  intro X hP hw hK hc i pins s σ H E I hf st hg;subst hP hw hK;obtain ⟨hz,hTI,⟨a0,b0,hTO⟩,h1,h2⟩:=st;obtain ⟨⟨c,hcs⟩,xs,y,hq,hy⟩:=hg;obtain ⟨its,rv,p,hzz⟩:=I.list hq;obtain ⟨u,hu,ru⟩:=rv.get hy;obtain ⟨ol,hol,hcl,nl,hdl⟩:=p.isList;have naz:a≠z:=fun e=>by subst e;rw [hz] at hol;cases hol;simp at hcl
  have naTO:a≠TO:=fun e=>by subst e;rw [hTO] at hol;cases hol;simp at hcl
  have na1:a≠i1:=fun e=>by subst e;obtain ⟨o,e1,c1,_⟩:=h1;rw [e1] at hol;cases hol;rw [c1] at hcl;simp at hcl
  have na2:a≠i2:=fun e=>by subst e;obtain ⟨o,e1,c1,_⟩:=h2;rw [e1] at hol;cases hol;rw [c1] at hcl;simp at hcl
  have D':ZipApart z TI TO i1 i2 a a:=⟨D.TIz,D.TOz,D.i1z,D.i2z,D.TITO,D.TIi1,D.TIi2,D.TOi1,D.TOi2,D.i12,naz,naTO,na1,na2,naz,naTO,na1,na2⟩;refine Z6I D' hz hTI hTO h1 h2 p.isList hcs (y:=u) (by simpa using hu) fun h' a1 a2 a3 a4 a5 a6 a7=>?_;refine ⟨_,rfl,wpAny_letOwnedTupleGo_zip a1 fun g hz2 hs2=>?_⟩;replace hs2:Heap.SameBut z h' g:=hs2;have lt:∀ {b o},s.heap.get? b=some o->b < s.heap.objs.size:=fun e=>Qz e;have hzl:z < s.heap.objs.size:=lt hz;have gT:g.get? s.heap.objs.size=some { cls:=.type "tuple",data:=.seq #[.str ⟨#[c]⟩ s.toks,u] }:=(hs2.2 _ (Nat.ne_of_gt hzl)).trans a5
  have I1:Inv X pins σ (upd H s.heap.objs.size (.tup [.str ⟨#[c]⟩,y])) { s with heap:=g,toks:=s.toks + 1 }:=ZbB I (ch:=[z,TO,i1,i2]) (fun b o hb e=>by
   have:b≠z/\b≠TO/\b≠i1/\b≠i2:=by simpa using hb
   exact (hs2.2 b this.1).trans (a7 b o this.1 this.2.1 this.2.2.1 this.2.2.2 e)) (fun b hb=>hf b (by
   have:b=z\/b=TO\/b=i1\/b=i2:=by simpa using hb
   rcases this with rfl | rfl | rfl | rfl <;> simp)) (Qq _) (show Z01 X.prog X.w _ g _ (.tup [.str ⟨#[c]⟩,y]) from ⟨two_sz,[.str ⟨#[c]⟩ s.toks,u],.cons ⟨_,rfl⟩ (.cons ru .nil),⟨_,gT,rfl,_,rfl⟩⟩)
  refine ⟨.ref s.heap.objs.size,_,I1,rfl,⟨_,c,y,rfl,I.hok.fresh (Qq _),rfl,hcs,fun ys hys=>by rw [I.list_inj hys hq];exact hy⟩,⟨hz2,hs2.extBut _ _ D.TIz (a7 _ _ D.TIz D.TITO D.TIi1 D.TIi2 hTI),⟨_,_,hs2.extBut _ _ D.TOz a2⟩,a3.extBut hs2.extBut D.i1z,a4.extBut hs2.extBut D.i2z⟩,fun b hb=>?_⟩
  have nb:b≠s.heap.objs.size:=by
   have hb':b=z\/b=TO\/b=i1\/b=i2\/b=TI:=by simpa using hb
   rcases hb' with rfl | rfl | rfl | rfl | rfl
   .exact Jc hzl
   .exact Jc (lt hTO)
   .obtain ⟨o,e,_⟩:=h1;exact Jc (lt e)
   .obtain ⟨o,e,_⟩:=h2;exact Jc (lt e)
   .exact Jc (lt hTI)
  rw [Zb nb];exact (hf b hb).1
 done:=by
  intro X hP hw hK hc i pins s σ H E I hf st hg;subst hP hw hK;obtain ⟨hz,hTI,⟨a0,b0,hTO⟩,h1,h2⟩:=st
  exact Z7n (I.ok.hd hc) D.i1z hz hTI hTO h1 hg fun h' eb=>⟨rfl,ZaJ (t':=s.toks) I (ch:=[z,TO,i1,i2]) (fun b o hb e=>by
   have:b≠z/\b≠TO/\b≠i1/\b≠i2:=by simpa using hb
   exact eb b o this.1 this.2.1 this.2.2.1 this.2.2.2 e) (fun b hb=>hf b (by
   have:b=z\/b=TO\/b=i1\/b=i2:=by simpa using hb
   rcases this with rfl | rfl | rfl | rfl <;> simp))⟩
 self:=fun _ _ _ _ _ st h=>wpAny_pyIter_zip st.1 h
end
section
mutual
variable {X:Cx}
abbrev Z3A(x:Str):Bool:=x.cps.all (· < 128)
abbrev iZip(K:Qa)(tx tl:TE):TI:=fun σ H R=>tx σ H fun v H1=>tl σ H1 fun y H2=>∃ x a,v=.str x/\Z3A x=true/\y=.ref a/\(∃ xs,SqL K H2 a xs)/\R (Itz K x a) H2
def Zfe{e l:Expr}{tx tl:TE}{elts:List Expr}{x1:Nat}{tpos p pos:Pos}(hg:Gl X "zip")(hm:X.mg "zip"=none)(he:PE X e tx)(hl:PE X l tl)
  (hs1:autoParam (starEach [e,l] X.env=(false,eval e X.env)::starEach [l] X.env) uA._auto_1) (hs:autoParam (starEach [l] X.env=(false,eval l X.env)::starEach [] X.env) uA._auto_1) (hpl:autoParam ((backTo pos (starEach [l] X.env)).any (·.1)=false) uA._auto_1) :
  PI X (.Tuple elts x1 tpos) (.Call (.Name "zip" p) [e,l] [] pos) (iZip X.K tx tl):=by
 intro pins s σ H R I h
 refine wpAny_Call_Name_kw (Z4k I hg hm boot_zip (PyProof.Rows.callWith_type1 (thn (Zg he (Zg hl ZF hs) hs1 pos pins s σ H (fun vs H1=>match vs with | [v,y]=>∃ x a,v=.str x/\Z3A x=true/\y=.ref a/\(∃ xs,SqL X.K H1 a xs)/\R (Itz X.K x a) H1 | _=>False) I h) fun us s1 ⟨vs,H1,I1,r1,q1⟩=>?_) hs1 hpl))
 cases r1 with
 | nil=>exact q1.elim
 | cons r rr=>
  cases rr with
  | nil=>exact q1.elim
  | cons r2 rr=>
   cases rr with
   | cons _ _=>exact q1.elim
   | nil=>
    obtain ⟨x,a,ex,hx,ea,⟨xs,hq⟩,q⟩:=q1;subst ex ea;obtain ⟨t,rfl⟩:=r;cases r2;obtain ⟨its,rv,pl,hz⟩:=I1.list hq;refine Zb4 hx pl.isList fun h' a1 a2 a3 a4 a5 a6 hk=>wpAny_pyIter_zip a1 ?_;generalize hn:s1.heap.objs.size=n at a1 a2 a3 a4 a5 a6;have D:ZApart (n + 4) (n + 2) (n + 3) n (n + 1):=by constructor <;> (show @Ne Nat _ _;omega)
    have I2:Inv X pins σ H1 { s1 with heap:=h' }:=I1.kept (t':=s1.toks) hk;refine ⟨n + 4,[n + 4,n + 3,n,n + 1,n + 2],_,_,H1,rfl,I2,Zcp (x:=x) (t:=t) (a:=a) D,⟨a1,a2,⟨_,_,a3⟩,a4,a5⟩,fun b hb=>?_,q⟩
    have hb':n<=b:=by
     have:@Eq Nat b (n + 4)\/@Eq Nat b (n + 3)\/@Eq Nat b n\/@Eq Nat b (n + 1)\/@Eq Nat b (n + 2):=by simpa using hb
     show @LE.le Nat _ n b;omega
    exact I1.fpOk (by rw [hn];exact hb') (I1.hok.fresh (by rw [hn];exact hb'))
end
end
mutual
abbrev itZ(x:Str)(n k:Nat)(p:List Nat)(i:Nat)(s:Sd):Option (Option DV):=match x.cps[i]? with
 | none=>some none
 | some c=>match itP false n k p i s with
  | some (some (.val d))=>some (some (.val (.nd .tup [.at (.str ⟨#[c]⟩),d])))
  | _=>none
abbrev zArgs:List DV->Option (Str×Nat×List Nat)
 | [.val (.at (.str x)),.plc k p]=>some (x,k,p)
 | _=>none
def Zb0{rs:List DV}{x:Str}{k:Nat}{p:List Nat}(h:zArgs rs=some (x,k,p)):rs=[.val (.at (.str x)),.plc k p]:=by
 unfold zArgs at h
 split at h
 .cases h;rfl
 .cases h
abbrev zGo(c:Nat->BF)(e:Nat->EF)(x:Str)(k:Nat)(p:List Nat)(s1:Sd):ER DV:=match Zt s1 (.plc k p) with
 | some (.nd (.lst _) _)=>Z3H s1.length (Z16 (itZ x s1.length k p) (s1.length + 1) (c (s1.length + 1)) (e (s1.length + 1)) (x.cps.size + 1) 0 [] (s1++[.bor k p,.non,.non]))
 | _=>.no
abbrev Z4g(f:AF)(c:Nat->BF)(e:Nat->EF):EF:=fun s=>match f s with
 | .ok rs s1=>(match zArgs rs with
  | some (x,k,p)=>if Z3A x=true then zGo c e x k p s1 else .no
  | none=>.no)
 | .ex C s1=>.ex C s1
 | .no=>.no
end
section
mutual
variable {K:Qa}{R:RC}{ix:List Nat}{hd:List (Nat×Addr)}{X:Cx}{H H':Hp}{σ:L2.St}{ts:Ts}{fr:List T}
def Zgr{x:Str}{n k:Nat}{p:List Nat}{a:Addr}(i:Nat)(H:Hp)(σ:L2.St)(ts:Ts)(C:Cf R ix (hd++[(n,a)]) H σ ts fr):(itZ x n k p i (ts.map TL.er)=some none->(Itz K x a).stop i H)/\∀ r,itZ x n k p i (ts.map TL.er)=some (some r)->(Itz K x a).go i H/\∀ v H',(Itz K x a).yld i H v H'->∃ tv,tv.er=r/\Z08 ts v tv/\Cf R ix (hd++[(n,a)]) H' σ ts (tv.tr++fr):=by
 obtain ⟨h1,h2⟩:=Z7G (K:=K) (k:=k) (p:=p) i H σ ts C;unfold itZ
 cases ec:x.cps[i]? with
 | none=>exact ⟨fun _=>ec,fun r z=>by cases z⟩
 | some c=>
  dsimp only
  cases ei:itP false n k p i (ts.map TL.er) with
  | none=>exact ⟨(fun z=>by cases z),(fun r z=>by cases z)⟩
  | some y=>cases y with
   | none=>exact ⟨(fun z=>by cases z),(fun r z=>by cases z)⟩
   | some r=>cases r with
    | plc _ _=>exact ⟨(fun z=>by cases z),(fun r z=>by cases z)⟩
    | val d=>
     refine ⟨(fun z=>by cases z),fun r z=>?_⟩;cases z;obtain ⟨g,hy⟩:=h2 _ ei;refine ⟨⟨⟨c,ec⟩,g⟩,?_⟩;rintro _ _ ⟨b,c',y,rfl,hb,rfl,hc',hx⟩;rw [ec] at hc';cases hc';obtain ⟨tv,e1,e2,e3⟩:=hy y H ⟨rfl,hx⟩;obtain ⟨t,rfl,rfl,rfl⟩:=e2.er_val e1;exact ⟨.val (.nd b .tup [.at (.str ⟨#[c]⟩),t]),rfl,rfl,Cf.wrap (ch:=[.at (.str ⟨#[c]⟩),t]) (Cf.at e3 (.str ⟨#[c]⟩)) hb (show upd H b (.tup [.str ⟨#[c]⟩,t.val]) b=_ from Zj)⟩
def ZgB{f:AF}{c:Nat->BF}{e:Nat->EF}(hnd:ix.Nodup)(σ:L2.St)(H:Hp)(Q:VK)(h:lE R ix (Z4g f c e) σ H Q):lA R ix f σ H fun vs H1=>match vs with
  | [v,y]=>∃ x a,v=.str x/\Z3A x=true/\y=.ref a/\(∃ xs,SqL K H1 a xs)/\Z2a (Itz K x a) 2 (gTwo K) (xT2 R ix c) (xE2 R ix e) σ H1 Q
  | _=>False:=by
 obtain ⟨hd,ts,fr,C,h⟩:=h;refine ⟨hd,ts,fr,C,?_⟩;unfold Z4g at h
 cases ef:f (ts.map TL.er) with
 | no=>rw [ef] at h;exact h
 | ex E s1=>rw [ef] at h;exact h
 | ok rs s1=>
  rw [ef] at h;intro H1 ts1 tvs vs e1 e2 hv C1;subst e1;dsimp only at h
  cases ez:zArgs rs with
  | none=>rw [ez] at h;exact h.elim
  | some z=>
  obtain ⟨x,k,p⟩:=z;rw [ez] at h;rw [Zb0 ez] at e2;obtain ⟨tv,tv2,rfl,g1,g2⟩:=map2 e2
  cases hv with
  | cons hv1 hv=>cases hv with
   | cons hv2 hv=>
  cases hv;obtain ⟨t,rfl,e3,rfl⟩:=hv1.er_val g1;obtain rfl:=Z4h e3;obtain ⟨a,rfl,rfl,hp⟩:=hv2.er_plc g2;dsimp only at h;by_cases hx:Z3A x=true
  case neg=>rw [if_neg hx] at h;exact h.elim
  rw [if_pos hx] at h;refine ⟨x,a,rfl,hx,rfl,?_⟩;have C1':Cf R ix hd H1 σ ts1 fr:=C1.drop;have hlen:(ts1.map TL.er).length=ts1.length:=by rw [Qx]
  have hn:∀ j∈ix,j < ts1.length + 1:=fun j z=>Wd (C1'.ixs j z);obtain ⟨w,t,s,h1,h2,h3⟩:=id hp;have hd1:Zt (ts1.map TL.er) (.plc k p)=some s.er:=by simp only [Zt,Qc,h1,Qu,TL.er,T.get_er,h2]
  have sok:=T.get_ok h2 (C1'.ok w t (Qg h1));unfold zGo at h;rw [hd1] at h;have C3:=(Cf.hide C1' hp).enter.enter;rw [show (ts1++[TL.bor k p a]).length=ts1.length + 1 from Jf,show (ts1++[TL.bor k p a]++[TL.non]).length=ts1.length + 1 + 1 from by rw [Jf,Jf];rfl] at C3
  cases s with
  | «at» v=>exact h.elim
  | nd b' kd ch=>
   cases h3
   cases kd with
   | lst m=>
    dsimp only [T.er] at h;rw [hlen] at h;refine ⟨⟨_,sok.1.sqL⟩,?_⟩;refine Z9K (it:=itZ x ts1.length k p) (m:=x.cps.size + 1) hn (fun i H τ ts fr C=>Zgr i H τ ts C) hnd C3 (fun D _=>?_) rfl rfl;have:=Zbu (a:=a) C1'.ixs C1'.hdi h D;simpa [TL.er,T.ers_eq,Qn] using this
   | _=>exact h.elim
def ZdM{N:List Str}{scope:Scope}{e l elt:Expr}{elts:List Expr}{x1:Nat}{tpos p zpos pos:Pos}{ifs:List Expr}{f g:EF}{c:Nat->BF}{ee:Nat->EF}(hc:X.calm=true)(hnd:ix.Nodup)(hgl:Gl X "zip")(hm:X.mg "zip"=none)(he:PE X e (lE R ix f))(hl:PE X l (lE R ix g))(S:CompSc X 2 N scope)
  (hg:∀ cl C s H fp,PG (cxC X N scope cl C s H fp) (.Tuple elts x1 tpos) (gTwo X.K)) (hf:∀ cl C s H fp,PF (cxC X N scope cl C s H fp) ifs (xT2 R ix c)) (hee:∀ cl C s H fp,PE (cxC X N scope cl C s H fp) elt (xE2 R ix ee))
  (hs1:autoParam (starEach [e,l] X.env=(false,eval e X.env)::starEach [l] X.env) uA._auto_1) (hs2:autoParam (starEach [l] X.env=(false,eval l X.env)::starEach [] X.env) uA._auto_1) (hpl:autoParam ((backTo zpos (starEach [l] X.env)).any (·.1)=false) uA._auto_1)
  (hs:autoParam (∀ x,foldedSetIterable (.Call (.Name "zip" p) [e,l] [] zpos) X.env x=pure x) uC._auto_1):PE X (.ListComp elt [⟨.Tuple elts x1 tpos,.Call (.Name "zip" p) [e,l] [] zpos,ifs,0⟩] scope pos) (lE R ix (Z4g (Z0 f (Z0 g Z1)) c ee)):=
 peM (Z69 hc (Zfe hgl hm he hl hs1 hs2 hpl) S hg hf hee hs) fun σ H Q q=>by
  have q1:=Z1e (ZgB (K:=X.K) hnd σ H Q q);refine Zd (fun v H1 q=>Zd (fun y H2 q=>?_) q) q1;obtain ⟨x,a,h1,h2,h3,h4,h5⟩:=q;exact ⟨x,a,h1,h2,h3,h4,h5⟩
end
end
end RM
namespace L2
open PySem PySem.Spec PyProof.Rows
end L2
namespace RM
open PySem PySem.Spec PyProof.Rows L2
mutual
abbrev eMkX(C:Addr)(ms:List Bool)(fn:Fn)(f:AF):EF:=fun s=>match f s with
 | .ok rs s1=>(match takes rs ms s1 with
  | some (sh,l)=>(match fills sh rs l with
   | some ds=>(match fn (.nd (.ins true C []) []::ds) with
    | .ok (.val (.at .non)) (d0::ds')=>.ok (.val d0) (gives rs ms ds' sh)
    | .ex E (_::ds')=>.ex E (gives rs ms ds' sh)
    | _=>.no)
   | none=>.no)
  | none=>.no)
 | .ex C s1=>.ex C s1
 | .no=>.no
abbrev tabN:Str->Option (Addr×Fn):=fun _=>none
abbrev tabC(x:Str)(a:Addr)(fn:Fn)(t:Str->Option (Addr×Fn)):Str->Option (Addr×Fn):=fun l=>if l=x then some (a,fn) else t l
def Zer{X:Cx}{R:RC}{k:Nat}{ms:List Bool}:DynOk X R tabN k ms:=fun _ _ _ h=>by cases h
def Zda{X:Cx}{R:RC}{k:Nat}{ms:List Bool}{x:Str}{a:Addr}{fn:Fn}{t:Str->Option (Addr×Fn)}
  (h:∃ (fd:FuncData) (ps:List Str),FnOk X.prog X.w X.K X.mg X.base (CX1 X.prog X.w) k a fd ps (spR R.ad ms fn)/\Jt X.K (.ref a)=true/\Binds X.K fd ps []) (D:DynOk X R t k ms):DynOk X R (tabC x a fn t) k ms:=fun l b g z=>by
 unfold tabC at z;by_cases e:l=x
 .rw [if_pos e] at z;cases z;exact h
 .rw [if_neg e] at z;exact D l b g z
inductive EntOk(w:World):List DictEntry->List (Str×Addr×Str)->Prop
 | nil:EntOk w [] []
 | cons {x l:Str} {t:Tok} {a:Addr} {es:List DictEntry} {kvs:List (Str×Addr×Str)} (r:EntOk w es kvs):EntOk w (⟨PyData.keyHash w.params x,.str x t,.ref a⟩::es) ((x,a,l)::kvs)
def EntOk.keys{P:Program}{w:World}{es:List DictEntry}{kvs:List (Str×Addr×Str)}(h:EntOk w es kvs):(∀ e∈es,∃ k,(ZL P w).is k e.key=true/\e.hash=(ZL P w).hash k)/\Pairs (ZL P w) es (kvs.map fun p=>((Sum.inr p.1:Key),Value.ref p.2.1)):=by
 induction h with
 | nil=>exact ⟨fun e z=>(by cases z),.nil⟩
 | @cons x l t a es kvs r ih=>
  have i:(ZL P w).is (Sum.inr x) (.str x t)=true:=Z32 (k:=Sum.inr x) ⟨t,rfl⟩;refine ⟨fun e z=>?_,.cons i rfl ih.2⟩;rcases Jb.mp z with rfl | z
  .exact ⟨.inr x,i,rfl⟩
  .exact ih.1 e z
abbrev kOf(e:DictEntry):Str:=match e.key with | .str x _=>x | _=>Str.empty
def EntOk.names{w:World}{es:List DictEntry}{kvs:List (Str×Addr×Str)}(h:EntOk w es kvs):es.map kOf=kvs.map (·.1):=by
 induction h with
 | nil=>rfl
 | cons r ih=>rw [Qj,Qj,ih];rfl
end
section
mutual
variable {K:Qa}
def zs_{P:Program}{w:World}{o:Addr}{es:List DictEntry}{ep:Nat}{kvs:List (Str×Addr×Str)}(l:autoParam (K.lookup o=some ⟨.type "dict",none,.dict es.toArray ep,#[]⟩) uF._auto_1)(h:EntOk w es kvs)(ns:autoParam ((o == sysModules)=false) uA._auto_1)(nd:decide ((es.map kOf).Nodup)=true):StaD P w K o kvs:=
 ⟨ns,_,_,ep,l,⟨rfl,rfl,rfl⟩,rfl,fun e z=>(h.keys (P:=P)).1 e (by simpa using z),(h.keys (P:=P)).2,h.names ▸ of_decide_eq_true nd⟩
def Zhk:TkOk K fun _=>none:=fun _ _ _ _ _ h=>by cases h
def ZfC{k x m:Str}{a f:Addr}{r:TkT}{od:Option Addr}{t:Tok}{n:Nat}{sl:Array (Option Value)}(l:K.lookup a=some ⟨.type "tuple",od,.seq #[.str x t,.ref f] n,sl⟩)(h:TkOk K r):TkOk K fun l=>if l=k then some (a,x,f,m) else r l:=by
 intro l' a' x' f' n' z;dsimp only at z;by_cases e:l'=k
 .rw [if_pos e] at z;cases z;exact ⟨od,t,n,sl,l⟩
 .rw [if_neg e] at z;exact h _ _ _ _ _ z
def zk_{tab:TkT}(h:TkOk K tab):TkOk K tab:=h
end
end
noncomputable def hIntS:List D->Option D
 | [.at (.str x)]=>if x.length<=640 then (PySem.intText? x).map fun n=>.at (.int n) else none
 | _=>none
theorem Zee{X:Cx}:Z0f X (.type "int") (gNw hIntS):=callM Z8P fun vs H Q q=>by
 obtain ⟨l,ok,hv,d,hh,q⟩:=q;unfold hIntS at hh
 split at hh
 case h_1 x e1=>
  obtain ⟨t,rfl,e2⟩:=ers1 e1;obtain rfl:=Z4h e2;by_cases z:x.length<=640
  .rw [if_pos z] at hh
   obtain ⟨n,h1,rfl⟩:=Gj.mp hh;exact ⟨x,n,hv.symm,h1,z,q (.at (.int n)) H rfl (.atom _)⟩
  .rw [if_neg z] at hh;cases hh
 case h_2=>cases hh
section
mutual
variable {C:Int->Int->Bool}{g:Int->Int->V}{i j:Int}{x y:Str}{neg m:Bool}{a:Addr}{l:List D}{ns:List Str}{d:D}{ks:List Key}{rs:List DV}{ds:List D}{s:Sd}{k:Nat}{p:List Nat}{kd:NK}{v:V}
def Zgi:Z0X a x [.nd (.ins m a ns) l]=(idx x ns).map .ch:=if_pos rfl
def ZeG:ZS a x [d,.nd (.ins true a ns) l]=if l.length < 1000 then (match idx x ns with | some j=>some (.set j 0) | none=>some (.add (.ins true a (ns++[x])) 0)) else none:=by
 show (if a=a/\l.length < 1000 then _ else none)=_;by_cases h:l.length < 1000
 .exact (if_pos ⟨rfl,h⟩).trans (if_pos h).symm
 .exact (if_neg fun z=>h z.2).trans (if_neg h).symm
def ZeB:ZX [.nd (.dic m ks) l,.at (.str x)]=(match idk (Sum.inr x:Key) ks with | some j=>some (.ch j) | none=>none):=by
 show (match some (idk (Sum.inr x:Key) ks) with | some (some j)=>some (Sel.ch j) | _=>none)=_
 cases idk (Sum.inr x:Key) ks <;> rfl
end
end
section
mutual
variable {s:Sd}{f g:SF}{e e':EF}{c d:BF}{a b:AF}{v:V}{j k:Nat}{p:List Nat}
def ZcS:Zc f g s=(match f s with | .nx s1=>g s1 | r=>r):=rfl
def Zej:sIf c f g s=(match c s with | .ok true s1=>f s1 | .ok false s1=>g s1 | .ex C s1=>.ex C s1 | .no=>.no):=rfl
def Zg1:sE e s=(match e s with | .ok _ s1=>.nx s1 | .ex C s1=>.ex C s1 | .no=>.no):=rfl
def ZcQ:Z0l e s=(match e s with | .ok r s1=>.rt r s1 | .ex C s1=>.ex C s1 | .no=>.no):=rfl
def Zbh:sRetN s=.rt (.val (.at .non)) s:=rfl
def Zbg:ZV s=.nx s:=rfl
def ZcK{w:Sd->DV->Option Sd}:Z03 e w s=(match e s with | .ok r s1=>(match w s1 r with | some s2=>.nx s2 | none=>.no) | .ex C s1=>.ex C s1 | .no=>.no):=rfl
def ZcM:eIf c e e' s=(match c s with | .ok true s1=>e s1 | .ok false s1=>e' s1 | .ex C s1=>.ex C s1 | .no=>.no):=rfl
def Zg2:bV e s=(match e s with | .ok (.val (.at (.bl b))) s1=>.ok b s1 | .ok _ _=>.no | .ex C s1=>.ex C s1 | .no=>.no):=rfl
def ZcP:bNot c s=(match c s with | .ok b s1=>.ok (!b) s1 | r=>r):=rfl
def ZcJ:bAnd c d s=(match c s with | .ok true s1=>d s1 | r=>r):=rfl
def Zen:bOr c d s=(match c s with | .ok false s1=>d s1 | r=>r):=rfl
def Zg0:eC v s=.ok (.val (.at v)) s:=rfl
def ZcU:Z3 j s=(match s[j]? with
 | some (.own _ d)=>.ok (mkV j [] d) s
 | some (.bor k p)=>(match Zt s (.plc k p) with | some d=>.ok (mkV k p d) s | none=>.no)
 | _=>.no):=rfl
def ZcO:Z1 s=.ok [] s:=rfl
def Zbc:Z0 e a s=(match e s with
 | .ok (.val d) s1=>(match a s1 with | .ok rs s2=>.ok (.val d::rs) s2 | .ex C s2=>.ex C s2 | .no=>.no)
 | .ok (.plc k p) s1=>(match a (s1++[.bor k p]) with
  | .ok rs s2=>(match unh s1.length k p s2 with | some s3=>.ok (.plc k p::rs) s3 | none=>.no)
  | .ex C s2=>(match unx s1.length s2 with | some s3=>.ex C s3 | none=>.no) | .no=>.no)
 | .ex C s1=>.ex C s1
 | .no=>.no):=rfl
def Zem{h:List D->Option D}:eNw h a s=(match a s with
 | .ok rs s1=>(match Z0N s1 rs with | some ds=>(match h ds with | some d=>.ok (.val d) s1 | none=>.no) | none=>.no)
 | .ex C s1=>.ex C s1
 | .no=>.no):=rfl
def Zei{h:List D->Option Sel}:eCh h a s=(match a s with
 | .ok rs s1=>(match Z0N s1 rs with | some ds=>(match h ds with | some c=>pick rs ds s1 c | none=>.no) | none=>.no)
 | .ex C s1=>.ex C s1
 | .no=>.no):=rfl
def Zbd{k:NK}:Z0s k a s=(match a s with
 | .ok rs s1=>(match vals rs with | some l=>if l.length<=sizeLine then .ok (.val (.nd k l)) s1 else .no | none=>.no)
 | .ex C s1=>.ex C s1
 | .no=>.no):=rfl
def Zel{ri:Nat}{h:List D->Option Mu}:eMu ri h a s=(match a s with
 | .ok rs s1=>(match Z0N s1 rs,rs[ri]? with
  | some ds,some (.plc k p)=>(match s1[k]?,ds[ri]?,h ds with
   | some (.own true _),some (.nd kd l),some (.add kd' m)=>if kd.mut then (match rs[m]? with | some (.val x)=>.ok (.val (.at .non)) (wr s1 k p (.nd kd' (l++[x])) fun _=>true) | _=>.no) else .no
   | some (.own true _),some (.nd kd l),some (.set j m)=>if kd.mut/\j < l.length then (match rs[m]? with | some (.val x)=>.ok (.val (.at .non)) (wr s1 k p (.nd kd (l.set j x)) fun i=>i != j) | _=>.no) else .no
   | _,_,_=>.no)
  | _,_=>.no)
 | .ex C s1=>.ex C s1
 | .no=>.no):=rfl
def ZaE{chk:D->Bool}:Zr chk e s=(match e s with
 | .ok r s1=>(match Zt s1 r with | some d=>if chk d then .ok r s1 else .no | none=>.no)
 | .ex C s1=>.ex C s1
 | .no=>.no):=rfl
def Zbb{ms:List Bool}{fn:Fn}:Zh ms fn a s=(match a s with
 | .ok rs s1=>(match takes rs ms s1 with
  | some (sh,l)=>(match fills sh rs l with
   | some ds=>(match fn ds with
    | .ok rv ds'=>retV rs ms (gives rs ms ds' sh) rv
    | .ex C ds'=>.ex C (gives rs ms ds' sh)
    | .no=>.no)
   | none=>.no)
  | none=>.no)
 | .ex C s1=>.ex C s1
 | .no=>.no):=rfl
def Zek{C:Addr}{ms:List Bool}{fn:Fn}:eMk C ms fn a s=(match a s with
 | .ok rs s1=>(match takes rs ms s1 with
  | some (sh,l)=>(match fills sh rs l with
   | some ds=>(match fn (.nd (.ins true C []) []::ds) with
    | .ok (.val (.at .non)) (d0::ds')=>.ok (.val d0) (gives rs ms ds' sh)
    | _=>.no)
   | none=>.no)
  | none=>.no)
 | .ex C s1=>.ex C s1
 | .no=>.no):=rfl
def Zbf{js:List Nat}:sKill js f s=(match f s with
 | .nx s1=>.nx (Z1L js s1)
 | .ct s1=>.ct (Z1L js s1)
 | .bk s1=>.bk (Z1L js s1)
 | r=>r):=rfl
def ZcT{exm:Str->Str->Option Bool}{hs:List (Str×SF)}:sTry exm f hs s=(match f s with | .ex C s1=>tryH exm hs C s1 | r=>r):=rfl
def ZaF{C:Str}:Z4u C a s=(match a s with
 | .ok rs s1=>if rs.length<=1000 then .ex C s1 else .no
 | .ex C' s1=>.ex C' s1
 | .no=>.no):=rfl
def ZcR{n:Nat}{ms:List Bool}{ds:List D}:Zn n ms f ds=(match f (ini n ms ds) with
 | .nx s=>ends n ms ds (.val (.at .non)) s
 | .rt r s=>ends n ms ds r s
 | .ex C s=>(match outs s n ms ds with | some ds'=>.ex C ds' | none=>.no)
 | _=>.no):=rfl
end
end
section
variable {s:Sd}{f:EF}
theorem ZcL:eClr f s=(match f s with
 | .ok (.plc k p) s1=>(match Zt s1 (.plc k p),s1[k]? with
  | some (.nd (.lst true) _),some (.own true _)=>.ok (.val (.at .non)) (wr s1 k p (.nd (.lst true) []) fun _=>false)
  | _,_=>.no)
 | .ok (.val (.nd (.lst true) _)) s1=>.ok (.val (.at .non)) s1
 | .ok _ _=>.no
 | .ex C s1=>.ex C s1
 | .no=>.no):=rfl
end
theorem Zbe{f g:EF}{s:Sd}:eAnd f g s=(match f s with
 | .ok (.val (.at (.bl b))) s1=>if b=true then g s1 else .ok (.val (.at (.bl false))) s1
 | .ok _ _=>.no
 | .ex C s1=>.ex C s1
 | .no=>.no):=rfl
theorem ZcN{C:Addr}{ms:List Bool}{fn:Fn}{a:AF}{s:Sd}:eMkX C ms fn a s=(match a s with
 | .ok rs s1=>(match takes rs ms s1 with
  | some (sh,l)=>(match fills sh rs l with
   | some ds=>(match fn (.nd (.ins true C []) []::ds) with
    | .ok (.val (.at .non)) (d0::ds')=>.ok (.val d0) (gives rs ms ds' sh)
    | .ex E (_::ds')=>.ex E (gives rs ms ds' sh)
    | _=>.no)
   | none=>.no)
  | none=>.no)
 | .ex C s1=>.ex C s1
 | .no=>.no):=rfl
section
mutual
variable {C:Int->Int->Bool}{g:Int->Int->V}{i j:Int}{x y:Str}{neg m:Bool}{a:Addr}{l:List D}{ns:List Str}{d:D}{ks:List Key}{rs:List DV}{ds:List D}{s:Sd}{k:Nat}{p:List Nat}{kd:NK}{v:V}
def Zg3:hI C g [.at (.int i),.at (.int j)]=if C i j then some (.at (g i j)) else none:=rfl
def ZcY:hEq neg [.at (.str x),.at (.str y)]=some (.at (.bl (decide (V.str x=V.str y) != neg))):=rfl
def ZcX:hEq neg [.at (.int i),.at (.int j)]=some (.at (.bl (decide (V.int i=V.int j) != neg))):=rfl
def Zd2:hIsN neg [.at v,.at .non]=some (.at (.bl (decide (v=.non) != neg))):=rfl
def Zbk:hList [.nd (.lst m) l]=if D.imms l then some (.nd (.lst true) l) else none:=rfl
def ZcZ:Z0Y [.at (.int i)]=if i.natAbs.log2 < 1920 then some (.at (.str (toString i))) else none:=rfl
def Zd0:Z0Y [.at (.str x)]=if x.length<=sizeLine then some (.at (.str x)) else none:=rfl
def Zd4:hNeg [.at (.int i)]=some (.at (.int (-i))):=rfl
def Zbn:hStrI [.at (.int i)]=if i.natAbs.log2 < 1920 then some (.at (.str (toString i))) else none:=rfl
def Zd3:hMax [.at (.int i),.at (.int j)]=some (.at (.int (if j > i then j else i))):=rfl
def Zbl:hPutD [d,.nd (.dic true ks) l,.at (.str x)]=if l.length < sizeLine then (match idk (Sum.inr x) ks with | some j=>some (.set j 0) | none=>some (.add (.dic true (ks++[Sum.inr x])) 0)) else none:=rfl
def ZcV:hApp [.nd (.lst true) l,d]=if l.length < sizeLine then some (.add (.lst true) 1) else none:=rfl
def ZcW:hDIn neg [.at (.str x),.nd (.dic m ks) l]=some (.at (.bl ((idk (Sum.inr x) ks).isSome != neg))):=rfl
def Zd1:hInS neg [.at (.str x),.at (.str y)]=some (.at (.bl (if neg then !(!(Builtin.Str.occurrences y x 0 y.length 1).isEmpty) else !(Builtin.Str.occurrences y x 0 y.length 1).isEmpty))):=rfl
def Zbi:Z2c m [.at (.str x),.at (.int i)]=if x.length<=sizeLine then some (.at (.str (if m then Txt.slice x (some i) none else Txt.slice x none (some i)))) else none:=rfl
def ZaG:hCount [.nd (.lst true) l,.at (.str x)]=(match Z12 l with | some vs=>some (.at (.int ((vs.countP fun y=>eqV y (.str x):Nat):Int))) | none=>none):=rfl
def Zeo:hIn neg [.at (.str x),.nd (.lst m) l]=(match Z12 l with | some vs=>some (.at (.bl (if neg then !inV (.str x) vs else inV (.str x) vs))) | none=>none):=rfl
def Zbm:hPutL [d,.nd (.lst true) l,.at (.int i)]=(ixN l.length i).map fun j=>.set j 0:=rfl
def Zbj:hIntS [.at (.str x)]=if x.length<=640 then (PySem.intText? x).map fun n=>.at (.int n) else none:=rfl
def Zd8:pick (.val d::rs) (.nd kd l::ds) s (.ch k)=(match l[k]? with | some c=>.ok (.val c) s | none=>.no):=rfl
def Zd7{n:Nat}:pick (.plc n p::rs) (.nd kd l::ds) s (.ch k)=(match l[k]? with | some c=>.ok (mkV n (p++[k]) c) s | none=>.no):=rfl
def Zd5:pick rs ds s (.ar k)=(match rs[k]? with | some r=>.ok r s | none=>.no):=rfl
def Zd6:pick rs ds s (.cs v)=.ok (.val (.at (cl v))) s:=rfl
end
end
end RM
namespace L2
open PySem PySem.Spec PyProof.Rows
end L2
namespace RM
open PySem PySem.Spec PyProof.Rows L2
end RM
namespace L2
open PySem PySem.Spec PyProof.Rows
noncomputable abbrev Cx.inP(X:Cx)(ea:Addr)(pn:List (Addr×Obj)):Cx:={ X with A:=X.A.mark (some (.ref ea)),calm:=false,xe:=fun _ _=>False,pn:=pn }
structure ExW(K:Qa)(C:Addr):Prop where
 ga:Ji K (.ref C) "__getattribute__"=some (some (.builtin "BaseException.__getattribute__"))
 gt:Ji K (.ref C) "__getattr__"=some none
section
mutual
variable {X:Cx}{pins:List (Addr×Obj)}{σ:St}{Hc H:Hp}{sc s:Shared}{g B:Heap}{Z:List Addr}{ea t:Addr}{cls:Value}
def Land.apart(L:Land X pins σ Hc sc H g Z B ea t cls s):H ea=none/\ea∉frs X.stack:=by
 obtain ⟨_,f2,f3,oe,vs,T,oT,ts,he,_,hd,_⟩:=L.fl
 have nf:ea∉frs X.stack:=fun hb=>by
  obtain ⟨_,o,ho,hn⟩:=f3.mem hb;rw [he] at ho;cases ho;exact hn vs hd
 refine ⟨?_,nf⟩
 cases e:H ea with
 | none=>rfl
 | some u=>
  obtain ⟨⟨o',go⟩,hz⟩:=L.tr ea u e;rw [L.hB ea o' go nf hz] at f2;cases f2
def Land.pinE(L:Land X pins σ Hc sc H g Z B ea t cls s)(hstk:X.stack=X.env::X.outer)(hfr:X.env.frame=some X.env.locals) :
  ∃ ox,ox.cls=cls/\ox.dict=none/\PySem.W.notCls ox=true/\Inv (X.inP ea (X.pn++[(ea,ox)])) pins σ H s:=by
 obtain ⟨hH,nf⟩:=L.apart;obtain ⟨_,_,_,oe,vs,T,oT,ts,he,hc,hd,_⟩:=L.fl;have I:=L.inv;refine ⟨oe,hc.1,L.dn _ he,by unfold PySem.W.notCls;rw [hd],?_⟩
 refine ⟨⟨I.ok.mod,I.ok.kind,I.ok.glob,I.ok.blt,I.ok.above,I.ok.inj,I.ok.has,I.ok.cab,(fun z=>by cases z),I.ok.frames,I.ok.stk,I.ok.exf,I.ok.bs,I.ok.bsz,I.ok.noex,I.ok.exfs,I.ok.funs,I.ok.frf⟩,
  I.os,I.bare,I.base,I.loc,I.cell,I.free,I.freeC,fun p hp=>?_,I.hok,I.len⟩
 have e5:frs X.stack=X.env.locals::frs X.outer:=by rw [hstk];unfold frs;rw [Jp,hfr]
 rw [e5] at nf
 have k:p∈X.pn++pins\/p=(ea,oe):=by
  simp only [Qf,Jj] at hp ⊢;rcases hp with (z | z) | z
  .exact .inl (.inl z)
  .exact .inr z
  .exact .inl (.inr z)
 rcases k with k | rfl
 .exact I.pin p k
 .refine ⟨he,hH,fun z=>nf ?_,fun z=>nf (Qt _ z),fun v z=>by rw [hd] at z;cases z⟩
  have z:ea=X.env.locals:=z;exact z ▸ Qs
def Zb5:Manifest.canonical "BaseException.__getattribute__" ="object.__getattribute__":=by decide +kernel
def zw_{K:Qa}{C:Addr}(a:autoParam (Ji K (.ref C) "__getattribute__"=some (some (.builtin "BaseException.__getattribute__"))) uF._auto_1)(b:autoParam (Ji K (.ref C) "__getattr__"=some none) uF._auto_1):ExW K C:=⟨a,b⟩
def Zdf{K:Qa}{prog:Program}{w:World}{A:Around}{E:Value->Shared->Prop}{x C f:Addr}{ox:Obj}{m:Str}{pl:Sem Bool}{Q:Value×List Value->Shared->Prop}{s:Shared}(X:K.In s.heap)(I:PySem.W.InstAt s.heap x ox C none)(W:ExW K C)
  (hf:Ji K (.ref C) m=some (some (.ref f))) (ht:PySem.W.typeIn K (.ref f)=some (.type "function")) (hd:ox.dict=none) (h:Q (.ref f,[.ref x]) s):wpAny (model prog w) A (getMethod (.ref x) m pl) Q E s:=by
 have hcan:=Zb5;unfold getMethod specialOf;refine wpAny_bind (wpAny_bind (I.type.here ((Nt X W.ga).here ?_)));dsimp only;rw [hcan,if_neg (by decide)];refine wpAny_bind (wpAny_bind (I.type.here ((Nt X W.gt).here ?_)));refine wpAny_bind (wpAny_bind (I.type.here ((Nt X hf).here (wpAny_bind ((PySem.W.looks_typeIn X ht).here ?_)))));rw [if_neg (by decide +kernel)];refine wpAny_bind (wpAny_loadPart I.at_ ?_);rw [hd];exact wpAny_bind (wpAny_rule (wpAny_pure h))
def Z66{M:Model}{A:Around}{E:Value->Shared->Prop}{i:Nat}{x:Str}{pos:Pos}{Q:Unit->Shared->Prop}(I:Inv X pins σ H s)(hN:X.N.Nodup)(hi:X.N[i]?=some x)(hk:X.env.kindOf x=some .local)
  (h:∀ s',Inv X pins (σ.set i none) H s'->Q () s'):wpAny M A (do bindName X.env x .none;unbindBehindTheSuite X.env x pos) Q E s:=by
 obtain ⟨m,hn,hl⟩:=id I.loc;have hcls:(X.env.scope.kind == .class || (X.env.scope.kind == .module && X.env.locals != X.env.globals))=false:=by rw [I.ok.kind];rfl
 have hiσ:i < σ.length:=by rw [I.len];exact (Qd.mp hi).1
 have cne:=I.cne;refine wpAny_nameGoes_keeps hk hn hcls fun h' v hn' hs=>h _ ?_;obtain ⟨oL,_,_,hoL,_⟩:=id hn;refine ⟨I.ok,I.os,I.bare,⟨fun b o e n hb hx=>?_,fun b o e n hb hx=>?_,I.base.free,fun b o e hx=>?_,I.base.tups,I.base.frzs,I.base.tbls⟩,⟨_,hn',fun j y v' e1 e2 e3=>?_⟩,fun y c e=>?_,I.free,I.freeC,fun p hp=>?_,fun b ob e=>?_,by simpa using I.len⟩
 .exact (hs.2 b (Jc (Qv (Qz e) I.ok.above))).trans (I.base.keep b o e n hb hx)
 .obtain ⟨sl,e1⟩:=I.base.slot b o e n hb hx
  exact ⟨sl,(hs.2 b (Jc (Qv (Qz e) I.ok.above))).trans e1⟩
 .obtain ⟨o',e1⟩:=I.base.there b o e hx
  exact ⟨o',(hs.2 b (Jc (Qv (Qz e) I.ok.above))).trans e1⟩
 .by_cases hj:j=i
  .subst hj
   rw [Wv hiσ] at e2;cases e2
  .rw [Gq (Ne.symm hj)] at e2
   obtain ⟨u',r',q⟩:=hl j y v' e1 e2 e3;refine ⟨u',r',?_⟩;rcases q with ⟨k,e⟩ | ⟨k,c,e,z⟩
   .refine .inl ⟨k,?_⟩
    have:y≠x:=fun e=>hj (Z6H hN e1 (e ▸ hi))
    simp [this,e]
   .exact .inr ⟨k,c,e,z.sameBut hs (cne y c e)⟩
 .obtain ⟨w',z⟩:=I.cell y c e
  exact ⟨w',z.sameBut hs (cne y c e)⟩
 .obtain ⟨e,n,ne,nf,d⟩:=I.pin p hp
  exact ⟨(hs.2 p.1 ne).trans e,n,ne,nf,d⟩
 .refine (I.hok b ob e).stay (fun c w' hc q=>(hs.2 c ?_).trans q) (fun _ q=>q) fun _ _ q=>q
  rintro rfl;rcases hc with rfl | hc
  .rw [I.free] at e;cases e
  .rw [I.free] at hc;cases hc
def Inv.unP{pn:List (Addr×Obj)}(I:Inv (X.inP ea (X.pn++pn)) pins σ H s)(ok:X.Ok):Inv X pins σ H s:=
 ⟨ok,I.os,I.bare,I.base,I.loc,I.cell,I.free,I.freeC,fun p hp=>I.pin p ((Qf.mp hp).elim (fun z=>Qh _ (Qh _ z)) fun z=>Qe _ z),I.hok,I.len⟩
end
end
structure MetW(P:Program)(w:World)(K:Qa)(mg:Str->Option Value)(base:Heap)(C:Addr)(m:Str)(tx:Str):Prop where
 ex:∃ (f:Addr) (fd:FuncData),(∀ (A:Around) (outer:List Env) (s:Shared) (H:Hp) (u:Value) (v:V) (Q:VK),A.depth < recursionLimit->Env0 P w K mg base A outer s H->RelV v u->Q (.str tx) H->codeAny (model P w) A (.call (.ref f) ⟨[u],[]⟩) (CR (CX1 P w) outer P w H s Q E0) s)/\Meth K C m f
theorem ZfT{P:Program}{w:World}{K:Qa}{mg:Str->Option Value}{base:Heap}{C:Addr}{m qual tx:Str}{st:Stmt}{N:List Str}{j:Nat}{p1 p2:Pos}(F:AtM K C m qual st ["self"])(S:FnScope N ["self"] (Z6 st))(hb:Z0g st=[.Return (some (.Constant (.str tx) j p1)) p2]):MetW P w K mg base C m tx:=by
 obtain ⟨f,fd,F,hm,b⟩:=F.ex;refine ⟨f,fd,fun A outer s H u v Q hr e0 rv hq=>?_,hm⟩;obtain ⟨oc,od,kV,doc,pm,an,cdv,ct,osl,rfl,lk,hcd⟩:=F.ex;rw [hb] at lk b;have r:Vals [v] [u]:=.cons rv .nil;have KX:K.In s.heap:=e0.mod.kin.keeps fun b o e=>(e0.bs b o e).1;have lim:s.heap.NoLimit:=e0.mod.nolimit.keeps fun b o e=>(e0.bs b o e).1
 have hkind:∀ y∈(["self"]:List Str).zip [u],(Z6 st).names.lookup y.1=some .local\/((Z6 st).names.lookup y.1=some .cell/\((cellsFrom (s.heap.objs.size + 1) (Z6 st).names []).lookup y.1).isSome=true):=fun ⟨n,v⟩ hy=>by
  rcases S.par n (List.of_mem_zip hy).1 with q | q
  .exact .inl q
  .exact .inr ⟨q,Gh _ _ _ (.inl q)⟩
 refine codeAny_call_function hr (KX _ _ lk) rfl S.co S.gen rfl (PySem.W.codeRec_of KX hcd) (Binds.all b s [u] KX rfl _ _ _ _ ?_);refine wpAny_newFunctionEnv_cells S.kind hkind fun env he s1 x=>?_;subst he;refine ⟨lim.keeps x.toInCall.keep,codeAny_func ?_⟩;have e1:Env0 P w K mg base { A with handled:=none } outer s H:=⟨e0.frames,e0.mod,e0.bs,e0.bsz,e0.funs,e0.frf,e0.hok,e0.bare⟩;have I:=Z8h (CX:=CX1 P w) (E:=E0) S rfl e1 rfl r x;generalize hX:ZJ (CX1 P w) P w K mg base N qual (Z6 st) f cdv { A with handled:=none } outer s H E0=X0 at I
 have J:Inv { X0 with A:=A.deeper (envOfC qual (Z6 st) s.heap.objs.size f cdv),calm:=false,xe:=fun _ _=>False } [] (start N [v]) H s1:=
  ⟨⟨I.ok.mod,I.ok.kind,I.ok.glob,I.ok.blt,I.ok.above,I.ok.inj,I.ok.has,I.ok.cab,(fun z=>by cases z),(by subst hX;exact Around.frames_deeper e0.frames),I.ok.stk,I.ok.exf,I.ok.bs,I.ok.bsz,I.ok.noex,I.ok.exfs,I.ok.funs,I.ok.frf⟩,
   I.os,I.bare,I.base,I.loc,I.cell,I.free,I.freeC,I.pin,I.hok,I.len⟩
 subst hX;refine wpAny_mono (Z20 (Z3b Zo) [] s1 (start N [v]) H { nx:=fun _ _=>False,rt:=Q } J hq) (fun fl s' hs=>?_) fun _ _ z=>z.elim
 cases fl with
 | ret u=>
  obtain ⟨v,σ',H',J,rv,q⟩:=hs;exact ⟨v,H',J.os,J.bare,J.base,J.hok,rv,q⟩
 | next=>obtain ⟨_,_,_,q⟩:=hs;exact q.elim
 | brk=>obtain ⟨_,_,_,q⟩:=hs;exact q.elim
 | cont=>obtain ⟨_,_,_,q⟩:=hs;exact q.elim
section
mutual
variable {X:Cx}
abbrev tExw(i:Nat)(ea:Addr)(tx:Str):TE:=fun σ H Q=>σ[i]?=some (some (.ref ea))/\Q (.str tx) H
def ZgS{pl:Sem Bool}{n m tx:Str}{p2 apos cpos:Pos}{i:Nat}{ea CE:Addr}{ox:Obj}(hv:PE X (.Name n p2) (Z1q i))(hp:(ea,ox)∈X.pn)(hc:ox.cls=.ref CE)(hd:ox.dict=none)(hn:PySem.W.notCls ox=true)
  (W:ExW X.K CE) (M:MetW X.prog X.w X.K X.mg X.base CE m tx) (hr:X.A.depth < recursionLimit)
  (ht:autoParam (eval (.Call (.Attribute (.Name n p2) m apos) [] [] cpos) X.env=(do
   let ov <- eval (.Name n p2) X.env
   standAt apos.atName
   let (f,first) <- holding [ov] (getMethod ov m pl)
   callWith cpos f first (backTo cpos (starEach [] X.env)) (backToKw cpos (keywordEach [] X.env)))) uA._auto_1) :
  PE X (.Call (.Attribute (.Name n p2) m apos) [] [] cpos) (tExw i ea tx):=by
 obtain ⟨f,fd,F,hm⟩:=M.ex;intro pins s σ H Q I h;refine Gk (pl:=pl) (thn (hv pins s σ H (fun x H1=>x=.ref ea/\Q (.str tx) H1) I ⟨_,h.1,rfl,h.2⟩) fun u s1 ⟨x,H1,I1,rx,ex,q⟩=>?_) ht;subst ex;obtain rfl:u=Value.ref ea:=rx;have pe:=(I1.pin (ea,ox) (Qh _ hp)).1;refine Zdf (ox:=ox) I1.kIn ⟨pe,hc,hn,by rw [hd];trivial⟩ W hm.at_ (beq_iff_eq.mp hm.fn) hd ?_;refine Gw (first:=[.ref ea]) I1.kIn hm.kp ?_;refine wpAny_call (codeAny_mono (F X.A X.stack s1 H1 _ (.ref ea) Q hr I1.env0 rfl q) fun r s' hq=>?_)
 cases r with
 | error e=>exact pass1 pins σ H1 s1 e s' I1 hq
 | ok fl=>
  cases fl with
  | ret u=>exact I1.after hq
  | next=>exact False.elim hq
  | brk=>exact False.elim hq
  | cont=>exact False.elim hq
abbrev hAs(K:Qa)(CE C:Addr)(i j:Nat)(tx:Str)(ts:TS):Value->TS:=fun cls D σ H=>cls=.ref CE/\Jz K (.ref CE) (.ref C)=some true/\∀ ea,H ea=none ->
 ts { nx:=fun σ' H'=>D.nx (σ'.set i none) H',rt:=D.rt,bk:=fun σ' H'=>D.bk (σ'.set i none) H',ct:=fun σ' H'=>D.ct (σ'.set i none) H' } ((σ.set i (some (.ref ea))).set j (some (.str tx))) H
def ph_as{x n wn m tx:Str}{C CE:Addr}{np hpos p1 p2 apos cpos pos:Pos}{b1:Stmt}{suite:List Stmt}{ts:TS}{i j:Nat}{pl:Sem Bool}(hstk:X.stack=X.env::X.outer)(hfr:X.env.frame=some X.env.locals)(hm:X.mg x=some (.ref C))
  (hN:X.N.Nodup) (hi:X.N[i]?=some n) (hj:X.N[j]?=some wn)
  (hk:X.env.kindOf n=some .local) (hjk:X.env.kindOf wn=some .local) (hl:X.env.scope.names.lookup n=some .local) (hjl:X.env.scope.names.lookup wn=some .local)
  (W:ExW X.K CE) (M:MetW X.prog X.w X.K X.mg X.base CE m tx) (hr:X.A.depth < recursionLimit) (hsu:∀ ea pn,PSs (X.inP ea pn) (b1::suite) ts)
  (ht:autoParam (eval (.Call (.Attribute (.Name n p2) m apos) [] [] cpos) X.env=(do
   let ov <- eval (.Name n p2) X.env
   standAt apos.atName
   let (f,first) <- holding [ov] (getMethod ov m pl)
   callWith cpos f first (backTo cpos (starEach [] X.env)) (backToKw cpos (keywordEach [] X.env)))) uA._auto_1)
  (hs:autoParam (swapsWith (.Call (.Attribute (.Name n p2) m apos) [] [] cpos) (some (.Name wn p1)) pos.line X.env=pure false) uA._auto_1)
  (hg:autoParam (Gl X x) uA._auto_1) (hdb:autoParam ((x == ("__debug__":Str))=false) uB._auto_1) (hdn:autoParam ((n == ("__debug__":Str))=false) uB._auto_1) (hcd:autoParam ((n == ("__classdict__":Str))=false) uB._auto_1) :
  PHs X [.ExceptHandler (some (.Name x np)) (some n) (.Assign [.Name wn p1] (.Call (.Attribute (.Name n p2) m apos) [] [] cpos) pos::b1::suite) hpos] (hAs X.K CE C i j tx ts):=by
 intro pins σ Hc sc H g Z B ea t cls s D L q;obtain ⟨rfl,eb,q⟩:=q;have I:=L.inv;obtain ⟨ob,hob,hcl⟩:=L.fl.there;refine wpAny_handleBy_cons (codeAny_handlers_test (Z1J (X:=X.inH ea) (I.inH ea) hg hm ?_ hdb)) (by intro z;cases z)
 have LT:PySem.W.Looks (model X.prog X.w) s.heap (typeOf (.ref ea)) (.ref CE):=by
  rw [<- hcl];exact (PySem.W.Looks.ld hob).andThen .now
 refine (PySem.W.exm_one I.kIn LT eb).here ?_;refine codeAny_handlers_suite_as ?_;refine wpAny_mono (Z2Z Z46 (lands_againW (Q:=fun _ s1=>∃ h',s1={ s with heap:=h' }/\Wq B X.stack ea (.ref CE) (.ref t) h'/\s.heap.UpToSlots h') L.fl fun h' fl' up=>⟨h',rfl,fl',up⟩)) (fun _ s1 z=>?_) fun _ _ z=>z;obtain ⟨⟨h',rfl,fl',up⟩,kk⟩:=z;have L':=L.step fl' up kk;have hH:=L'.apart.1;obtain ⟨ox,o1,o2,o3,I2⟩:=L'.pinE hstk hfr;refine Z6N (X:=X.inP ea (X.pn++[(ea,ox)])) I2 hN hi (.inl hk) (v:=.ref ea) rfl (fun s2 I3=>?_) (.inr hl);have hv:PE (X.inP ea (X.pn++[(ea,ox)])) (.Name n p2) (Z1q i):=Zc0 hi (.inl hl) hdn hcd;refine wpAny_mono (Z2V (Zh2 (X:=X.inP ea (X.pn++[(ea,ox)])) (i:=j) hN hj (.inl hjk) (ZgS (X:=X.inP ea (X.pn++[(ea,ox)])) (pl:=pl) hv (Qe _ (Jj.mpr rfl)) o1 o2 o3 W M hr ht) hs (.inr hjl)) (hsu ea _) pins s2 _ H _ I3 ⟨by rw [Wv (by rw [I.len];exact (Qd.mp hi).1)],q ea hH⟩) (fun f s3 z=>?_) fun _ _ z=>False.elim z
 cases f with
 | next=>obtain ⟨σ',H',J,q⟩:=z;exact Z66 (J.unP I.ok) hN hi hk fun s4 J4=>⟨_,H',J4,q⟩
 | brk=>obtain ⟨σ',H',J,q⟩:=z;exact Z66 (J.unP I.ok) hN hi hk fun s4 J4=>⟨_,H',J4,q⟩
 | cont=>obtain ⟨σ',H',J,q⟩:=z;exact Z66 (J.unP I.ok) hN hi hk fun s4 J4=>⟨_,H',J4,q⟩
 | ret u=>obtain ⟨v,σ',H',J,r,q⟩:=z;exact Z66 (J.unP I.ok) hN hi hk fun s4 J4=>⟨v,_,H',J4,r,q⟩
end
end
end L2
namespace RM
open PySem PySem.Spec PyProof.Rows L2
mutual
def un2{j:Nat}(s:DL):Z0j j (Z0j j s)=Z0j j s:=by
 cases s with
 | bor k q=>
  by_cases h:k=j
  .simp [Z0j,h]
  .simp [Z0j,h]
 | non=>rfl
 | own w t=>rfl
abbrev asSd(i j:Nat)(tx:Str)(s:Sd):Sd:=((Z33 i s).map (Z0j j)).set j (.own true (.at (.str tx)))
abbrev sTryAs(i j:Nat)(tx CE:Str)(b f:SF):SF:=fun s=>match b s with
 | .ex E s1=>if E=CE then (match f (asSd i j tx s1) with | .rt r s2=>.rt r s2 | _=>.no) else .no
 | r=>r
def Zdd{i j:Nat}{tx CE:Str}{b f:SF}{s:Sd}:sTryAs i j tx CE b f s=(match b s with
 | .ex E s1=>if E=CE then (match f (asSd i j tx s1) with | .rt r s2=>.rt r s2 | _=>.no) else .no
 | r=>r):=id rfl
end
section
mutual
variable {R:RC}{ix:List Nat}{hd:List (Nat×Addr)}{X:Cx}{H H':Hp}{σ:L2.St}{ts:Ts}{fr:List T}
def as_cf{i i' j j':Nat}{tx:Str}{ea:Addr}(C:Cf R ix hd H σ ts fr)(hi:ix[i]?=some i')(hj:ix[j]?=some j')(nd:ix.Nodup):∃ ts5,ts5.map TL.er=asSd i' j' tx (ts.map TL.er)/\Cf R ix hd H ((σ.set i (some (.ref ea))).set j (some (.str tx))) ts5 fr:=by
 have C1:Cf R ix hd H σ ts ([T.nd ea (.lnk ea "") []]++fr):=Cf.new (m:=[]) (fr:=fr) C (NewOk.lnk (l:=[])) (by simp [T.ros]);have C2:=Cf.slot (y:=.own true (T.nd ea (.lnk ea "") [])) C1 hi nd rfl (.inl ⟨_,rfl,rfl⟩);have C3:=C2.Z33 hi;have C4:=Cf.slot (y:=.own true (.at (.str tx))) (m:=[T.at (.str tx)]) (Cf.at C3 (.str tx)) hj nd rfl (.inl ⟨_,rfl,rfl⟩);refine ⟨_,?_,C4⟩
 have e2:TL.er ∘ Zf j' ∘ Zf i' ∘ Zf i'=Z0j j' ∘ Z0j i' ∘ TL.er:=funext fun s=>by
  show (Zf j' (Zf i' (Zf i' s))).er=_;rw [Z1V,Z1V,Z1V,un2];rfl
 unfold asSd RM.Z33;simp only [Wk,Jl,List.set_set];rw [e2];rfl
def as_ok{K:Qa}{i i' j j':Nat}{tx CE C:Str}{f:SF}{D:Ends}(hx:Jz K (.ref (R.ad CE)) (.ref (R.ad C))=some true)(Cc:Cf R ix hd H σ ts fr)(hi:ix[i]?=some i')(hj:ix[j]?=some j')(nd:ix.Nodup)
  (h:match f (asSd i' j' tx (ts.map TL.er)) with | .rt r s'=>∀ H' σ' ts' tv v,ts'.map TL.er=s'->tv.er=r->Z08 ts' v tv->Cf R ix hd H' σ' ts' (tv.tr++fr)->D.rt v H' | _=>False):hAs K (R.ad CE) (R.ad C) i j tx (lS R ix f) (.ref (R.ad CE)) D σ H:=by
 refine ⟨rfl,hx,fun ea _=>?_⟩;obtain ⟨ts5,e5,C5⟩:=as_cf (tx:=tx) (ea:=ea) Cc hi hj nd;refine ⟨hd,ts5,fr,C5,?_⟩;rw [e5]
 cases ef:f (asSd i' j' tx (ts.map TL.er)) with
 | rt r s2=>rw [ef] at h;exact h
 | nx _=>rw [ef] at h;exact h.elim
 | bk _=>rw [ef] at h;exact h.elim
 | ct _=>rw [ef] at h;exact h.elim
 | ex _ _=>rw [ef] at h;exact h.elim
 | no=>rw [ef] at h;exact h.elim
def ZdU{i i' j j':Nat}{tx CE C:Str}{body:List Stmt}{h0:ExceptHandler}{pos:Pos}{b f:SF}(hstk:X.stack=X.env::X.outer)(hfr:X.env.frame=some X.env.locals)(hx:Jz X.K (.ref (R.ad CE)) (.ref (R.ad C))=some true)(hi:ix[i]?=some i')(hj:ix[j]?=some j')(nd:ix.Nodup)
  (hb:∀ (pn:List (Addr×Obj)) (xe:Value->Shared->Prop) (EX:L2.St->XK),Z19 (X.tr pn xe) EX->PSs (X.tr pn xe) body (lS { R with EX:=EX } ix b)) (hh:PHs X [h0] (hAs X.K (R.ad CE) (R.ad C) i j tx (lS R ix f))):PS X (.Try body [h0] [] [] pos) (lS R ix (sTryAs i' j' tx CE b f)):=by
 refine psM (Zc4 (tb:=fun EX=>lS { R with EX:=EX } ix b) hstk hfr hb hh) fun D σ H h=>?_;obtain ⟨hd,ts,fr,C,h⟩:=h;refine ⟨hd,ts,fr,C.ex,?_⟩;unfold sTryAs at h
 cases eb:b (ts.map TL.er) with
 | nx s'=>rw [eb] at h;intro H' σ' ts' e C';exact h H' σ' ts' e C'.unex
 | rt r s'=>rw [eb] at h;intro H' σ' ts' tv v e e2 hv C';exact h H' σ' ts' tv v e e2 hv C'.unex
 | bk s'=>rw [eb] at h;intro H' σ' ts' e C';exact h H' σ' ts' e C'.unex
 | ct s'=>rw [eb] at h;intro H' σ' ts' e C';exact h H' σ' ts' e C'.unex
 | no=>rw [eb] at h;exact h
 | ex E s'=>
  rw [eb] at h;intro H' σ' ts' e C';subst e;dsimp only at h;by_cases hE:E=CE
  .subst hE
   rw [if_pos rfl] at h;refine as_ok hx C'.unex hi hj nd ?_
   cases ef:f (asSd i' j' tx (ts'.map TL.er)) with
   | rt r s2=>rw [ef] at h;exact h
   | nx _=>rw [ef] at h;exact h
   | bk _=>rw [ef] at h;exact h
   | ct _=>rw [ef] at h;exact h
   | ex _ _=>rw [ef] at h;exact h
   | no=>rw [ef] at h;exact h
  .rw [if_neg hE] at h;exact h.elim
end
end
mutual
abbrev popI(s1:Sd)(k:Nat)(p:List Nat)(i:Int):Option D->Option DL->ER DV
 | some (.nd (.lst true) l),some (.own true _)=>(match strsD l with
  | some ys=>if 0<=i/\i < 2 ^ 63 then (match ys[i.toNat]? with
   | some y=>.ok (.val (.at (.str y))) (wr s1 k p (.nd (.lst true) ((ys.eraseIdx i.toNat).map fun y=>.at (.str y))) fun _=>false)
   | none=>.no) else .no
  | none=>.no)
 | _,_=>.no
abbrev popGo(s1:Sd):List DV->ER DV
 | [.plc k p,.val (.at (.int i))]=>popI s1 k p i (Zt s1 (.plc k p)) s1[k]?
 | _=>.no
abbrev ePopI(f:AF):EF:=fun s=>match f s with
 | .ok rs s1=>popGo s1 rs
 | .ex C s1=>.ex C s1
 | .no=>.no
def Zex{f:AF}{s:Sd}:ePopI f s=(match f s with
 | .ok rs s1=>popGo s1 rs
 | .ex C s1=>.ex C s1
 | .no=>.no):=id rfl
end
section
mutual
variable {R:RC}{ix:List Nat}{hd:List (Nat×Addr)}{X:Cx}{H H1:Hp}{σ:L2.St}{ts:Ts}{fr:List T}
def ZeP{f:AF}(σ:L2.St)(H:Hp)(Q:VK)(q:lE R ix (ePopI f) σ H Q):lA R ix f σ H fun vs H1=>∃ a,∃ ys:List Str,∃ i y,vs=[.ref a,.int i]/\H1 a=some (.lst (ys.map V.str))/\0<=i/\i < 2 ^ 63/\ys[i.toNat]?=some y/\Q (.str y) (upd H1 a (.lst ((ys.eraseIdx i.toNat).map V.str))):=by
 obtain ⟨hd,ts,fr,C,q⟩:=q;refine ⟨hd,ts,fr,C,?_⟩;unfold ePopI at q
 cases ef:f (ts.map TL.er) with
 | no=>rw [ef] at q;exact q
 | ex E s1=>rw [ef] at q;exact q
 | ok rs s1=>
  rw [ef] at q;intro H1 ts1 tvs vs e1 e2 hv C1;subst e1
  cases hv with
  | nil=>subst e2;exact q.elim
  | @cons v tv vs' tvs' hv1 hr=>
   cases hr with
   | nil=>subst e2;cases tv <;> exact q.elim
   | @cons v2 tv2 vs2 tvs2 hv2 hr2=>
    cases hr2 with
    | @cons v3 tv3 vs3 tvs3 hv3 hr3=>subst e2;cases tv <;> (try exact q.elim) <;> cases tv2 <;> (try exact q.elim) <;> rename_i t <;> cases t <;> (try exact q.elim) <;> rename_i u <;> cases u <;> exact q.elim
    | nil=>
     subst e2
     cases tv with
     | val t=>exact q.elim
     | plc k p a=>
      cases tv2 with
      | plc _ _ _=>exact q.elim
      | val t2=>
       cases t2 with
       | nd _ _ _=>exact q.elim
       | «at» u=>
        cases u with
        | int i=>
         obtain ⟨rfl,w,t,s,h1,h2,h3⟩:=hv1;cases hv2;have hd1:Zt (ts1.map TL.er) (.plc k p)=some s.er:=by simp only [Zt,Qc,h1,Qu,TL.er,T.get_er,h2]
         have q':(match popI (ts1.map TL.er) k p i (Zt (ts1.map TL.er) (.plc k p)) (ts1.map TL.er)[k]? with
          | .ok r s'=>∀ H' ts' tv v,ts'.map TL.er=s'->tv.er=r->Z08 ts' v tv->Cf R ix hd H' σ ts' (tv.tr++fr)->Q v H'
          | .ex C s'=>∀ H' ts',ts'.map TL.er=s'->Cf R ix hd H' σ ts' fr->R.EX σ (.ref (R.ad C)) none H'
          | .no=>False):=q
         rw [hd1,Qc,h1] at q'
         cases s with
         | «at» v=>exact q'.elim
         | nd b kd ch=>
          cases h3
          cases kd with
          | lst m=>cases m with
           | false=>exact q'.elim
           | true=>cases w with
            | false=>exact q'.elim
            | true=>
             simp only [Qu,TL.er,T.er,popI] at q'
             cases es:strsD (T.ers ch) with
             | none=>rw [es] at q';exact q'.elim
             | some ys=>
              rw [es] at q';dsimp only at q';by_cases hj:0<=i/\i < 2 ^ 63
              case neg=>rw [if_neg hj] at q';exact q'.elim
              rw [if_pos hj] at q'
              cases ey:ys[i.toNat]? with
              | none=>rw [ey] at q';exact q'.elim
              | some y=>
              rw [ey] at q';dsimp only at q';have ech:=Zau es;subst ech;have C2:Cf R ix hd H1 σ ts1 fr:=C1.drops;have sok:=T.get_ok h2 (C2.ok true t (Qg h1));have hv:(ys.map fun y=>T.at (.str y)).map T.val=ys.map V.str:=by rw [Jl];rfl
              refine ⟨a,ys,i,y,rfl,by rw [<- hv];exact sok.1,hj.1,hj.2,ey,?_⟩
              have W:=set_list (cs:=(ys.eraseIdx i.toNat).map fun y=>T.at (.str y)) C2 h1 h2 (fun c hc=>by
               obtain ⟨y,_,rfl⟩:=Wa.mp hc;exact ⟨rfl,trivial,fun b hb=>by simp [T.ro] at hb⟩)
              have hv2:((ys.eraseIdx i.toNat).map fun y=>T.at (.str y)).map T.val=(ys.eraseIdx i.toNat).map V.str:=by rw [Jl];rfl
              rw [hv2] at W;refine q' _ _ (.val (.at (.str y))) (.str y) ?_ rfl rfl (W.at (.str y));rw [wr_er h1]
              have:(T.nd a (.lst true) ((ys.eraseIdx i.toNat).map fun y=>T.at (.str y))).er=.nd (.lst true) ((ys.eraseIdx i.toNat).map fun y=>.at (.str y)):=by simp [T.er,T.ers_eq,cl]
              rw [this]
          | _=>exact q'.elim
        | _=>exact q.elim
def Zfn{o e:Expr}{apos cpos:Pos}{fo fe:EF}(ho:PE X o (lE R ix fo))(he:PE X e (lE R ix fe))(hbase:autoParam (attributeBase o "pop" X.env (eval o X.env)=eval o X.env) uA._auto_1)
  (hfew:autoParam (((backTo cpos (starEach [e] X.env)).all (fun x=>!x.1) && (backToKw cpos (keywordEach [] X.env)).all (fun x=>x.1.isSome) && decide ([e].length + ([]:List Keyword).length + (if ([]:List Keyword).isEmpty then 0 else 1) < 30))=true) uA._auto_1)
  (hline:autoParam ((apos.endLine == cpos.line)=true) uA._auto_1) (hs:autoParam (starEach [e] X.env=(false,eval e X.env)::starEach [] X.env) uA._auto_1) (hplain:autoParam ((backTo cpos (starEach [] X.env)).any (·.1)=false) uA._auto_1) :
  PE X (.Call (.Attribute o "pop" apos) [e] [] cpos) (lE R ix (ePopI (Z0 (Zr Z2d fo) (Z0 fe Z1)))):=
 peM (pe_bm PySem.F.plainAttrs_list PySem.F.slot_list_pop PySem.F.type_list_pop ZdC ho (Zg he ZF hs) hbase hfew hline hs hplain) fun σ H Q q=>by
  have q1:=Z1e (ZeP σ H Q q);refine Zd (fun x H1 q=>?_) (Z2Q q1);obtain ⟨⟨t0,rfl,t2,t3⟩,q⟩:=q
  obtain ⟨a,k,ch,rfl,hD⟩:∃ a m ch,t0=.nd a (.lst m) ch/\SqL X.K H1 a (ch.map T.val):=by
   cases t0 with
   | «at» v=>simp [T.er,Z2d] at t3
   | nd a k ch=>cases k with
    | lst m=>exact ⟨a,m,ch,rfl,t2.1.sqL⟩
    | _=>simp [T.er,Z2d] at t3
  refine ⟨.inl ⟨rfl,_,hD⟩,Zd (fun y H2 q=>?_) q⟩;obtain ⟨a',ys,i,z,hvs,hH,h0,h1,hy,q⟩:=q;simp only [Js.injEq,and_true] at hvs;have hl:i.toNat < ys.length:=(Qd.mp hy).1;refine ⟨a',ys.map V.str,i,i.toNat,.str z,hvs.1,by rw [hvs.2],hH,by omega,h1,?_,by rw [Qc,hy];rfl,by rw [<- ZbK];exact q⟩;unfold seqIndex?;rw [if_neg (show ¬ i < 0 by omega),Qx,if_pos (by simp only [Ja,decide_eq_true_eq];omega)]
end
end
mutual
open Classical in
abbrev samP(n:Nat)(c:Str)(d1:D)(s2:Sd):Option D->ER DV
 | some d=>(match Z1r d1,Z1r d with
  | some t1,some t2=>if t1=Dt.lst [.str c,t2]/\t1.dep<=n then .ok (.val (.at (.bl true))) s2 else .no
  | _,_=>.no)
 | none=>.no
abbrev samP1(n:Nat)(c:Str)(d1:D):ER DV->ER DV
 | .ok (.plc k p) s2=>samP n c d1 s2 (Zt s2 (.plc k p))
 | _=>.no
abbrev eSamP(n:Nat)(c:Str)(f1 fp:EF):EF:=fun s=>match f1 s with
 | .ok (.val d1) s1=>samP1 n c d1 (fp s1)
 | .ex C s1=>.ex C s1
 | _=>.no
def Zey{n:Nat}{c:Str}{f1 fp:EF}{s:Sd}:eSamP n c f1 fp s=(match f1 s with
 | .ok (.val d1) s1=>samP1 n c d1 (fp s1)
 | .ex C s1=>.ex C s1
 | _=>.no):=id rfl
end
section
mutual
variable {R:RC}{ix:List Nat}{hd:List (Nat×Addr)}{X:Cx}{H H1:Hp}{σ:L2.St}{ts:Ts}{fr:List T}
def ZeQ{n:Nat}{c:Str}{f1 fp:EF}{sp:Sp}{E:XK}(hsp:∀ vs H Q,(∃ (x y:V) (d:Dt),vs=[x,y]/\Z0T H d x/\Z0T H d y/\d.dep<=n/\∀ H',Z11 H H'->Q (.bl true) H')->sp vs H Q E)(σ:L2.St)(H:Hp)(Q:VK)(q:lE R ix (eSamP n c f1 fp) σ H Q) :
  tCall sp [] E (Z2e (lE R ix f1) (Z2e (tLst (Z2e (tC (.str c)) (Z2e (lE R ix fp) tNil))) tNil)) σ H Q:=by
 obtain ⟨hd,ts,fr,C,q⟩:=q;refine ⟨hd,ts,fr,C,?_⟩;unfold eSamP at q
 cases ef:f1 (ts.map TL.er) with
 | no=>rw [ef] at q;exact q.elim
 | ex E s1=>rw [ef] at q;exact q
 | ok r s1=>
  rw [ef] at q
  cases r with
  | plc _ _=>exact q.elim
  | val d1=>
  dsimp only at q;intro H1 ts1 tv1 v1 e1 e2 hv1 C1;subst e1
  cases tv1 with
  | plc _ _ _=>cases e2
  | val t1=>
  obtain rfl:t1.er=d1:=by simpa [TV.er] using e2
  cases hv1;show lE R ix fp σ H1 _;refine ⟨hd,ts1,t1::fr,C1,?_⟩
  cases efp:fp (ts1.map TL.er) with
  | no=>rw [efp] at q;exact q.elim
  | ex E s2=>rw [efp] at q;exact q.elim
  | ok r2 s2=>
   rw [efp] at q
   cases r2 with
   | val _=>exact q.elim
   | plc k p=>
   intro H2 ts2 tv2 v2 e3 e4 hv2 C2;subst e3;refine ⟨(show 2<=sizeLine by decide),fun x2 hx2=>?_⟩;obtain ⟨a,rfl,rfl,hp⟩:=hv2.er_plc e4;obtain ⟨w,t,s,h1,h2,h3⟩:=hp;have C2:Cf R ix hd H2 σ ts2 (t1::fr):=C2;have hd1:Zt (ts2.map TL.er) (.plc k p)=some s.er:=by simp only [Zt,Qc,h1,Qu,TL.er,T.get_er,h2]
   simp only [samP1,hd1,samP] at q
   cases ed:Z1r t1.er with
   | none=>rw [ed] at q;exact q.elim
   | some d=>
   cases ed2:Z1r s.er with
   | none=>rw [ed,ed2] at q;exact q.elim
   | some d2=>
   rw [ed,ed2] at q;dsimp only at q;by_cases hn:d=Dt.lst [.str c,d2]/\d.dep<=n
   case neg=>rw [if_neg hn] at q;exact q.elim
   rw [if_pos hn] at q;obtain ⟨rfl,hn⟩:=hn
   have sm:Z11 H2 (upd H2 x2 (.lst [.str c,.ref a])):=fun b o e=>by
    rw [Zb]
    .exact e
    .rintro rfl;rw [hx2] at e;cases e
   have sok:s.ok H2:=T.get_ok h2 (C2.ok w t (Qg h1));have r2:Z0T H2 d2 (.ref a):=by rw [<- h3];exact Z5M sok ed2
   refine hsp _ _ _ ⟨_,_,.lst [.str c,d2],rfl,(Z5M C2.fok.1 ed).same sm,⟨x2,_,rfl,Zj,(show 2 < sizeLine by decide),rfl,r2.same sm,trivial⟩,hn,fun H' sm'=>?_⟩
   have keep:∀ b,H2 b≠none->H' b=H2 b:=fun b hb=>by
    cases e:H2 b with
    | none=>exact absurd e hb
    | some o=>exact sm' b o (sm b o e)
   exact q H' ts2 (.val (.at (.bl _))) _ rfl rfl rfl (Cf.new (m:=[]) C2.drop ⟨trivial,by simp [T.own],by simp [T.own],by simp [T.ro],by simp [T.ro],keep⟩ (l:=[]) (by simp [T.ros]))
def Zfo{n k:Nat}{c x:Str}{f1 fp:EF}{sp:Sp}{ps:List Str}{e1 ep:Expr}{p pos p2 p3:Pos}{j:Nat}{E:XK}(D:DefX X.prog X.w X.K X.mg X.base x k ps sp)(hr:Room k X.A)(hx:Z3z (CX1 X.prog X.w) X E)
  (hsp:∀ vs H Q,(∃ (x y:V) (d:Dt),vs=[x,y]/\Z0T H d x/\Z0T H d y/\d.dep<=n/\∀ H',Z11 H H'->Q (.bl true) H')->sp vs H Q E)
  (h1:PE X e1 (lE R ix f1)) (hp:PE X ep (lE R ix fp)) (s1:autoParam (starEach [e1,.List [.Constant (.str c) j p3,ep] p2] X.env=(false,eval e1 X.env)::starEach [.List [.Constant (.str c) j p3,ep] p2] X.env) uA._auto_1) (s2:autoParam (starEach [ep] X.env=(false,eval ep X.env)::starEach [] X.env) uA._auto_1)
  (hg:autoParam (Gl X x) uA._auto_1) (hdb:autoParam ((x == ("__debug__":Str))=false) uB._auto_1):PE X (.Call (.Name x p) [e1,.List [.Constant (.str c) j p3,ep] p2] [] pos) (lE R ix (eSamP n c f1 fp)):=
 peM (ZgT D hr hx (Zg h1 (Zg (ZbY (Zg Zo (Zg hp ZF s2))) ZF) s1) hg hdb s1) fun σ H Q q=>ZeQ hsp σ H Q q
end
end
mutual
abbrev augC1(j:Nat)(x:Str)(c:Int)(s:Sd):ER DV->SR
 | .ok (.val (.at (.int v))) _=>sE (eMu 1 hPutD (Z0 (eC (.int (v + c))) (Z0 (Z3 j) (Z0 (eC (.str x)) Z1)))) s
 | _=>.no
abbrev sAugC(j:Nat)(x:Str)(c:Int):SF:=fun s=>augC1 j x c s (eCh ZX (Z0 (Z3 j) (Z0 (eC (.str x)) Z1)) s)
def Zes{j:Nat}{x:Str}{c:Int}{s:Sd}:sAugC j x c s=augC1 j x c s (eCh ZX (Z0 (Z3 j) (Z0 (eC (.str x)) Z1)) s):=id rfl
end
section
variable {X:Cx}{R:RC}{ix:List Nat}{H H':Hp}{σ:L2.St}
theorem Zfs{i j q q2:Nat}{x n:Str}{c:Int}{pos tpos p p3 p4:Pos}(hu:X.A.units + 1 < cLine)(hv:PE X (.Name n p) (Z1q i))(hix:ix[i]?=some j)
  (ha:∀ ov iv new,augStore (.Constant (.str x) q p3) ov iv new=(do holding [new,ov,iv] (setItem ov iv new);release [new,ov,iv] [];pure .next):=by intros;rfl) (hc:PE X (.Constant (.int c) q2 p4) (tC (.int c)):=by exact Z9) :
  PS X (.AugAssign (.Subscript (.Name n p) (.Constant (.str x) q p3) tpos) .Add (.Constant (.int c) q2 p4) pos) (lS R ix (sAugC j x c)):=by
 refine psM (Zfg hu hv Zo hc (Zgn) ha) fun D σ H h=>?_;obtain ⟨hd,ts,fr,C,h⟩:=h;unfold sAugC at h
 cases ef:eCh ZX (Z0 (Z3 j) (Z0 (eC (.str x)) Z1)) (ts.map TL.er) with
 | no=>rw [ef] at h;exact h.elim
 | ex E s1=>rw [ef] at h;exact h.elim
 | ok r s1=>
  rw [ef] at h
  cases r with
  | plc _ _=>exact h.elim
  | val d=>cases d with
   | nd _ _=>exact h.elim
   | «at» u=>cases u with
    | int v=>
     have g1:lE R ix (eCh ZX (Z0 (Z3 j) (Z0 (eC (.str x)) Z1))) σ H fun y _=>y=.int v:=⟨hd,ts,fr,C,by
      rw [ef];intro H' ts' tv y e1 e2 hv C';obtain ⟨t,rfl,e3,rfl⟩:=hv.er_val e2;rw [Z0O e3 rfl];rfl⟩
     have g2:=Z5A hix _ _ _ (Zd (fun x H1 q=>lE_C rfl _ _ _ q) (Z1e (lA_ch σ H _ g1)));have g3:lS R ix (sE (eMu 1 hPutD (Z0 (eC (.int (v + c))) (Z0 (Z3 j) (Z0 (eC (.str x)) Z1))))) D σ H:=⟨hd,ts,fr,C,h⟩;have g4:=lE_C rfl _ _ _ (Zd (fun v H1 q=>Z5A hix _ _ _ (Zd (fun x H2 q=>lE_C rfl _ _ _ q) q)) (lA_3 (lA_mu σ H (fun _ H1=>D.nx σ H1) (lS_e D σ H g3))));obtain ⟨x1,e1,q1⟩:=g2;obtain ⟨x2,e2,q2⟩:=g4;rw [e1] at e2;cases e2;have q1:gCh ZX [x1,.str x] H fun y _=>y=.int v:=q1;have q2:gMu 1 hPutD [.int (v + c),x1,.str x] H fun H1=>D.nx σ H1:=q2;obtain ⟨t,u,ht,hu',rfl,hux,cc,w,hh,hs',rfl⟩:=gCh2 q1;obtain ⟨l,ok,hvl,a,kd,ch,op,hl,hm,hh2,qq⟩:=q2
     obtain ⟨tv,r,rfl,e3⟩:∃ t' r,l=t'::r/\r.map T.val=[t.val,.str x]:=by
      cases l with
      | nil=>cases hvl
      | cons t r=>exact ⟨t,r,rfl,(Js.inj hvl).2⟩
     obtain ⟨td,tk,rfl,etd,etk⟩:=map2 e3;cases hl;obtain ⟨H4,p1,p2⟩:=Zc5 (Q:=fun H1=>D.nx σ H1) (v:=tv) (k:=tk) ok.2.2.1 rfl ok.2.1 hh2 (by cases op <;> exact qq)
     rw [etk,(Js.inj hvl).1] at p1;simp only [ZX] at hh
     split at hh
     case h_1 jj e=>
      cases hh;obtain ⟨a2,k2,ch2,rfl,g⟩:=Z4H ht hu' e;have ew:(some jj).bind (fun j=>(ch2.map T.val)[j]?)=some (.int v):=by simpa [selT] using hs'
      rw [ew,hux] at g;obtain rfl:a=a2:=V.ref.inj etd;exact ⟨.ref a,e1,a,.int v,rfl,g,v,c,rfl,rfl,H4,p1,p2⟩
     case h_2=>cases hh
    | _=>exact h.elim
end
mutual
abbrev spW(C:Addr)(f:Str):Sp:=fun vs H Q _=>∃ a dx fs l xs v,vs=[.ref a,v]/\H a=some (.ins C dx fs)/\fs.lookup f=some (.ref l)/\H l=some (.lst xs)/\xs.length < sizeLine/\Q .non (upd H l (.lst (xs++[v])))
abbrev hApp3:List D->Option Mu
 | [_,_,.nd (.lst true) l]=>if l.length < sizeLine then some (.add (.lst true) 1) else none
 | _=>none
abbrev eVia(C:Addr)(m f:Str)(j:Nat)(fe:EF):EF:=eMu 2 hApp3 (Z0 (Zr (Zu C m) (Z3 j)) (Z0 fe (Z0 (eCh (Z0X C f) (Z0 (Z3 j) Z1)) Z1)))
def Zgf{C:Addr}{m f:Str}{j:Nat}{fe:EF}{s:Sd}:eVia C m f j fe s=eMu 2 hApp3 (Z0 (Zr (Zu C m) (Z3 j)) (Z0 fe (Z0 (eCh (Z0X C f) (Z0 (Z3 j) Z1)) Z1))) s:=rfl
def Z4L{C:Addr}{n:Str}{w:Bool}{ns:List Str}{l:List D}:Zu C n (.nd (.ins w C ns) l)=!ns.contains n:=by
 show (decide (C=C) && !ns.contains n)=_;rw [decide_eq_true rfl,Bool.true_and]
def ZeA{x y:D}{l:List D}:hApp3 [x,y,.nd (.lst true) l]=if l.length < sizeLine then some (.add (.lst true) 1) else none:=rfl
end
section
variable {X:Cx}{R:RC}{ix:List Nat}{H H':Hp}{σ:L2.St}
theorem Zc8{C:Addr}{m fld n:Str}{i j k:Nat}{ps:List Str}{e:Expr}{p pos apos:Pos}{fe:EF}{pl:Sem Bool}(D:MetX X.prog X.w X.K X.mg X.base C m k ps (spW C fld))(c:Cls X.K C)(hr:Room k X.A)(hv:PE X (.Name n p) (Z1q i))(hix:ix[i]?=some j)(he:PE X e (lE R ix fe))
  (hst:autoParam (starEach [e] X.env=(false,eval e X.env)::starEach [] X.env) uA._auto_1) (hpl:autoParam ((backTo pos (starEach [] X.env)).any (·.1)=false) uA._auto_1)
  (ht:autoParam (eval (.Call (.Attribute (.Name n p) m apos) [e] [] pos) X.env=(do
   let ov <- eval (.Name n p) X.env
   standAt apos.atName
   let (f,first) <- holding [ov] (getMethod ov m pl)
   callWith pos f first (backTo pos (starEach [e] X.env)) (backToKw pos (keywordEach [] X.env)))) uA._auto_1) :
  PE X (.Call (.Attribute (.Name n p) m apos) [e] [] pos) (lE R ix (eVia C m fld j fe)):=
 peM (Zal (EX:=fun _=>E0) D c hr (fun pins σ H s e s' I h=>(Z8a h).elim) hv (Zg he ZF hst) hst hpl ht) fun σ H Q q=>by
  obtain ⟨x,e1,⟨t,rfl,t2,t3⟩,q⟩:=Z5A hix _ _ _ (Z2Q (lA_3 (lA_mu σ H Q q)))
  cases t with
  | «at» v=>cases t3
  | nd a kd ch=>cases kd with
   | ins w C' ns=>
    simp only [T.er,Zu,Ja,decide_eq_true_eq,Wy] at t3;obtain ⟨rfl,hc⟩:=t3;obtain ⟨_,dx,hH⟩:=t2.1;refine ⟨_,e1,a,dx,_,rfl,hH,lookup_none hc,Zd (fun v H2 q=>?_) q⟩;obtain ⟨x2,e2,a2,dx2,fs,y,rfl,h1,h2,l,ok,hvl,a3,kd3,ch3,op,hl,hm,hh,qq⟩:=Z5A hix _ _ _ (ZbH _ _ _ q);rw [e1] at e2;obtain rfl:a=a2:=V.ref.inj (Je.inj (Je.inj e2))
    obtain ⟨t0,r,rfl,r2⟩:∃ t0 r,l=t0::r/\r.map T.val=[v,y]:=by
     cases l with
     | nil=>cases hvl
     | cons t r=>exact ⟨t,r,rfl,(Js.inj hvl).2⟩
    obtain ⟨tv,tl,rfl,rfl,rfl⟩:=map2 r2;cases hl;simp only [T.ers,T.er] at hh
    cases kd3 with
    | lst w=>cases w with
     | false=>cases hh
     | true=>
      by_cases hz:(T.ers ch3).length < sizeLine
      case neg=>cases (if_neg hz).symm.trans hh
      case pos=>
       cases (if_pos hz).symm.trans hh;obtain ⟨x3,hx,qq⟩:=qq;cases hx;exact ⟨a,dx2,fs,a3,ch3.map T.val,tv.val,rfl,h1,h2,ok.2.2.1.1,by rw [Z1I] at hz;simpa using hz,qq _ rfl⟩
    | _=>cases hh
   | _=>cases t3
end
mutual
structure CS(n:Nat)(S:D->Sd):Prop where
 z:∀ o,(S o)[0]?=some (.bor n [])
 k:∀ o,(S o)[n]?=some (.own true o)
 w:∀ o d,wr (S o) n [] d (fun _=>true)=S d
def put_s{n:Nat}{s s':Sd}{C:Addr}{f:Str}{g:EF}{d:D}{ns:List Str}{l:List D}(z:s[0]?=some (.bor n []))(k:s[n]?=some (.own true (.nd (.ins true C ns) l)))(w:wr s n [] (.nd (.ins true C (ns++[f])) (l++[d])) (fun _=>true)=s')
  (hg:g s=.ok (.val d) s) (h4:l.length < 1000) (h5:idx f ns=none):sE (eMu 1 (ZS C f) (Z0 g (Z0 (Z3 0) Z1))) s=.nx s':=by
 have e:ZS C f [d,.nd (.ins true C ns) l]=some (.add (.ins true C (ns++[f])) 0):=(if_pos ⟨rfl,h4⟩).trans (by rw [h5]);have u:unh s.length n [] (s++[.bor n []])=some s:=by simp [unh]
 have dr:Zt s (.plc n [])=some (.nd (.ins true C ns) l):=by simp only [Zt,k,D.get]
 simp only [sE,eMu,Z0,hg,Z3,z,dr,mkV,D.imm,NK.mut,Z1,u,Z0N,Zt,k,D.get,e,w,Ni,Wh,Bool.not_true,Bool.false_and,Nm,if_true,if_false]
def Z00{n:Nat}{S:D->Sd}(c:CS n S){C:Addr}{f:Str}{g:EF}{d:D}{ns:List Str}{l:List D}(hg:g (S (.nd (.ins true C ns) l))=.ok (.val d) (S (.nd (.ins true C ns) l)))
  (h4:autoParam (Nat.blt l.length 1000=true) uA._auto_1) (h5:autoParam (idx f ns=none) uB._auto_1):sE (eMu 1 (ZS C f) (Z0 g (Z0 (Z3 0) Z1))) (S (.nd (.ins true C ns) l))=.nx (S (.nd (.ins true C (ns++[f])) (l++[d]))):=
 put_s (c.z _) (c.k _) (c.w _ _) hg (Nat.le_of_ble_eq_true h4) h5
def Z9b{C:Addr}{fn:Fn}{d:D}{s:Sd}(h:fn [.nd (.ins true C []) []]=.ok (.val (.at .non)) [d]):eMk C [] fn Z1 s=.ok (.val d) s:=by
 show (match fn [.nd (.ins true C []) []] with | .ok (.val (.at .non)) (d0::ds')=>ER.ok (DV.val d0) (gives [] [] ds' s) | _=>.no:ER DV)=_
 rw [h];rfl
def Z0p{f g:SF}{s s1:Sd}{r:SR}(h:f s=.nx s1)(k:g s1=r):Zc f g s=r:=by
 exact (congrArg (fun x=>match x with | .nx s1=>g s1 | r=>r) h).trans k
def Z4s{n:Nat}{ms:List Bool}{b:SF}{ds:List D}{s:Sd}{r:FR}(h:b (ini n ms ds)=.nx s)(k:ends n ms ds (.val (.at .non)) s=r):Zn n ms b ds=r:=by
 exact (congrArg (fun x=>match x with | .nx s=>ends n ms ds (.val (.at .non)) s | .rt r s=>ends n ms ds r s | .ex C s=>(match outs s n ms ds with | some ds'=>.ex C ds' | none=>.no) | _=>.no) h).trans k
end
end RM
namespace L2
open PySem PySem.Spec PyProof.Rows RM
section
variable {P:Program}{w:World}{K:Qa}{mg:Str->Option Value}{base:Heap}
theorem okW{C:Addr}{m qual fld sf row:Str}{st:Stmt}(F:AtM K C m qual st [sf,row])(S:FnScope [sf,row] [sf,row] (Z6 st))(c:Cls K C)(n:Zv K C fld)
  (hb:∀ (f:Addr) (cdv:Value) (A:Around) (outer:List Env) (s:Shared) (H:Hp) (E:XK),PSs (ZJ (CX1 P w) P w K mg base [sf,row] qual (Z6 st) f cdv A outer s H E) (Z0g st) (tDrop (tBM K "list" rAppend (Z2G C (Z1q 0) fld) (Z2e (Z1q 1) tNil)))):MetX P w K mg base C m 1 [sf,row] (spW C fld):=
 F.okX (k:=0) S (fun vs H Q E h=>by obtain ⟨_,_,_,_,_,_,rfl,_⟩:=h;rfl) fun f cdv A outer s H vs Q E hr h=>by
  obtain ⟨a,dx,fs,l,xs,v,rfl,h1,h2,h3,h4,q⟩:=h;exact ⟨_,hb f cdv A outer s H E,.ref a,rfl,a,dx,fs,.ref l,rfl,h1,h2,.inl ⟨rfl,_,.of h3⟩,v,rfl,l,xs,v,rfl,rfl,h3,h4,q⟩
end
end L2
open PySem PySem.Spec PyProof.Rows L2
namespace Pf
open PySem PySem.Spec PyProof.Rows L2 RM
mutual
abbrev top(i:Nat):Stmt:=PySem.Challenge.pw_papercircle_k17_how_many_houses.main.body.getD i (.Pass ⟨0,0,0,0⟩)
private abbrev Z3P:Stmt:=inClass (top 31) 0
private abbrev Z3r:Stmt:=inClass (top 42) 0
private abbrev Z3s:Stmt:=inClass (top 46) 0
private abbrev Z8o:Stmt:=top 37
private abbrev Z6s:Stmt:=top 38
private abbrev Z5g:Stmt:=top 58
private abbrev Z3p:Stmt:=inClass (top 60) 0
private abbrev Z8m:Stmt:=top 92
private abbrev Z4z:Stmt:=top 93
private abbrev Z5Q:Stmt:=top 94
private abbrev Z3Q:Stmt:=top 95
private abbrev Z4v:Stmt:=inClass (top 33) 5
private abbrev Z3d:Stmt:=inClass (top 42) 1
private abbrev Z23:Stmt:=inClass (top 42) 6
private abbrev Z2M:Stmt:=inClass (top 42) 2
private abbrev Z3c:Stmt:=inClass (top 33) 0
private abbrev Z3N:Stmt:=inClass (top 41) 0
private abbrev Z5P:Stmt:=inClass (top 42) 3
private abbrev Z2L:Stmt:=inClass (top 60) 8
private abbrev Z2K:Stmt:=inClass (top 60) 9
private abbrev Z4x:Stmt:=inClass (top 60) 10
private abbrev Z5c:Stmt:=inClass (top 60) 1
private abbrev Z4y:Stmt:=inClass (top 42) 4
private abbrev Z5d:Stmt:=inClass (top 60) 18
private abbrev Z2E:Stmt:=inClass (top 60) 22
private abbrev Z8n:Stmt:=top 65
private abbrev Z6t:Stmt:=top 39
private abbrev Z8p:Stmt:=top 87
private abbrev Z4V:Stmt:=top 88
private abbrev Z9q:Stmt:=top 89
private abbrev Z5T:Stmt:=top 90
private abbrev Z4a:Stmt:=top 96
private abbrev Z5R:Stmt:=top 97
private abbrev Z3q:Stmt:=inClass (top 41) 3
private abbrev Z5e:Stmt:=inClass (top 41) 4
private abbrev Z3O:Stmt:=inClass (top 42) 5
private abbrev Z4w:Stmt:=inClass (top 60) 3
private abbrev Z5f:Stmt:=top 98
private abbrev Z5S:Stmt:=top 99
private abbrev Z3t:Stmt:=top 100
private abbrev s_law:Stmt:=top 101
private abbrev Z3o:Stmt:=inClass (top 26) 0
end
local macro_rules | `(tactic|walk_at $s:str)=>do
 let t:=s.getString
 if !t.startsWith "." then Lean.Macro.throwUnsupported
 let mut r:Array (Lean.TSyntax `tactic):=#[];let i (x:String):=Lean.mkIdent x.toName
 for w in (t.drop 1).toString.splitOn " " do
  let p:=w.splitOn ",";let h:=p.headD ""
  if h=="" then r:=r.push (<- `(tactic|exact Z2 (pv $(Lean.Syntax.mkNumLit (p.getD 1 ""))) (j:=$(Lean.Syntax.mkNumLit (p.getD 1 ""))) rfl))
  else if h.startsWith ";" then r:=r.push (<- `(tactic|exact Zk (i:=$(Lean.Syntax.mkNumLit (h.drop 1).toString)) $(i (p.getD 1 "" ++ ".nd")) rfl (Or.inl rfl) rfl (by decide)))
  else
   let mut a:Array (Lean.TSyntax `term):=#[]
   for x in p.drop 1 do
    a:=a.push (<- if x=="" then `(?_) else if x=="!f" then `(fun _ _=>rfl) else if x=="!r" then `(by rfl) else `($(i x)))
   r:=r.push (<- `(tactic|refine $(i h) $a*))
 `(tactic|($[$r]*))
mutual
set_option genInjectivity false in
structure Adr where
 Ziw:Addr
 Zix:Addr
 ZiA:Addr
 ZiB:Addr
 ZiC:Addr
 ZiD:Addr
 Ziy:Addr
 Ziz:Addr
 ZiE:Addr
 Zjw:Addr
 ZjH:Addr
 ZiL:Addr
 ZjQ:Addr
 ZjI:Addr
 ZjL:Addr
 ZjJ:Addr
 Zjy:Addr
 ZjB:Addr
 ZjG:Addr
 ZjS:Addr
 ZjR:Addr
 ZjF:Addr
 ZjM:Addr
 ZjK:Addr
 ZjO:Addr
 ZjD:Addr
 ZjA:Addr
 Zjz:Addr
 ZjE:Addr
 ZjN:Addr
 ZjC:Addr
 ZjP:Addr
abbrev adr(A:Adr):Str->Addr:=fun x=>if x ="CircleError" then A.Ziy else if x ="CircleFull" then A.Ziz else if x ="UnknownHouse" then A.ZiE else 0
abbrev Z39(A:Adr):List (Str×Addr×Str):=[("join",A.ZjH,"join"),("wish",A.ZjQ,"wish"),("leave",A.ZjI,"leave"),("price",A.ZjL,"price"),("lose",A.ZjJ,"lose"),("bill",A.Zjy,"bill"),("deal",A.ZjB,"deal"),("houses",A.ZjG,"houses"),("without",A.ZjS,"without"),("wished",A.ZjR,"wished"),("holds",A.ZjF,"holds"),("read",A.ZjM,"read"),("owes",A.ZjK,"owes"),("unsent",A.ZjO,"unsent"),("due",A.ZjD,"due"),("cost",A.ZjA,"cost"),("bills",A.Zjz,"bills"),("folder",A.ZjE,"folder"),("trail",A.ZjN,"trail"),("dealt",A.ZjC,"dealt"),("why",A.ZjP,"why")]
abbrev Z1c(A:Adr):TkT:=fun l=>if l ="join" then some (A.ZjH,"wwnn",A.ZiL,"do_join") else none
structure Txt(w:World)(K:Qa)(mg:Str->Option Value)(A:Adr):Prop where
 Zil:mg "all"=none
 Zim:mg "bool"=none
 Zin:mg "int"=none
 Zio:mg "isinstance"=none
 Zip:mg "len"=none
 Ziq:mg "list"=none
 Zir:mg "min"=none
 Zis:mg "range"=none
 Zit:mg "str"=none
 Ziu:mg "tuple"=none
 Ziv:mg "zip"=none
 ZiP:GIs mg "DEEDS_MOST" (V.int 400)
 ZiQ:GIs mg "FIGURES" (V.str "0123456789")
 ZiR:GIs mg "FIGURES_MOST" (V.int 9)
 ZiS:GIs mg "HOUSES_MOST" (V.int 20)
 ZiT:GIs mg "JOINED_MOST" (V.int 60)
 ZiU:GIs mg "KINDS_MOST" (V.int 4)
 ZiV:GIs mg "LETTERS" (V.str "abcdefghijklmnopqrstuvwxyz")
 ZiW:GIs mg "NAME_MOST" (V.int 12)
 ZiX:GIs mg "OLDEST" (V.int 8)
 ZiY:mg "Account"=some (.ref A.Ziw)
 ZiF:Cls K A.Ziw
 Zj6:Zv K A.Ziw "dues"
 Zj7:Zv K A.Ziw "open_dues"
 Zj8:Zv K A.Ziw "open_losses"
 Zj9:Zv K A.Ziw "owed"
 Zja:Zv K A.Ziw "sent"
 ZiZ:mg "Circle"=some (.ref A.Zix)
 ZiG:Cls K A.Zix
 Zjb:Zv K A.Zix "deeds"
 Zjc:Zv K A.Zix "kinds"
 Zjd:Zv K A.Zix "members"
 Zje:Zv K A.Zix "past_weeks"
 Zjf:Zv K A.Zix "prices"
 Zjg:Zv K A.Zix "shelf"
 Zjh:Zv K A.Zix "week"
 Zj0:mg "House"=some (.ref A.ZiA)
 ZiH:Cls K A.ZiA
 Zji:Zv K A.ZiA "account"
 Zjj:Zv K A.ZiA "held"
 Zjk:Zv K A.ZiA "kind"
 Zjl:Zv K A.ZiA "least"
 Zjm:Zv K A.ZiA "most"
 Zjn:Zv K A.ZiA "name"
 Zjo:Zv K A.ZiA "papers"
 Zjp:Zv K A.ZiA "stands"
 Zj1:mg "Houses"=some (.ref A.ZiB)
 ZiI:Cls K A.ZiB
 Zjq:Zv K A.ZiB "joined"
 Zj2:mg "Prices"=some (.ref A.ZiC)
 ZiJ:Cls K A.ZiC
 Zjr:Zv K A.ZiC "told"
 Zj3:mg "Shelf"=some (.ref A.ZiD)
 ZiK:Cls K A.ZiD
 Zjs:Zv K A.ZiD "gone"
 Zjt:Zv K A.ZiD "made"
 Zju:Zv K A.ZiD "many"
 Zjv:Zv K A.ZiD "numbers"
 ZjU:ExC K mg "CircleError" A.Ziy
 ZjV:ExC K mg "CircleFull" A.Ziz
 ZjW:ExC K mg "UnknownHouse" A.ZiE
 Zj5:mg "ORDERS"=some (.ref A.Zjw)
 Zjx:∀ P:Program,StaD P w K A.Zjw (Z39 A)
 Z1c:TkOk K (Z1c A)
 Zj4:mg "do_join"=some (.ref A.ZiL)
 ZiM:Jz K (.ref A.Ziz) (.ref A.Ziy)=some true
 ZiN:Jz K (.ref A.Ziz) (.ref A.Ziz)=some true
 ZiO:Jz K (.ref A.ZiE) (.ref A.ZiE)=some true
 ZjT:ExW K A.Ziz
 ZhH:AtM K A.Ziz "word" "CircleFull.word" Z3o ["self"]
 Zi1:AtI K A.ZiD "Shelf.__init__" Z3P ["self","many"]
 ZhT:AtI K A.ZiB "Houses.__init__" Z3r ["self"]
 Zi0:AtI K A.ZiC "Prices.__init__" Z3s ["self"]
 Zih:At K mg "made_of" Z8o ["text","signs","most"]
 Zif:At K mg "good_name" Z6s ["text"]
 Zic:At K mg "check_kinds" Z5g ["kinds"]
 ZhI:AtI K A.Zix "Circle.__init__" Z3p ["self","kinds"]
 Zi2:At K mg "_law_at" Z8m ["_law_script","_law_k"]
 Zi4:At K mg "_law_figures" Z4z ["_law_script","_law_k","_law_base","_law_many"]
 Zi3:At K mg "_law_crowd" Z5Q ["_law_cell","_law_many"]
 Zi7:At K mg "_law_names" Z3Q ["_law_cell","_law_many"]
 ZhG:AtM K A.Ziw "owes" "Account.owes" Z4v ["self"]
 ZhV:AtM K A.ZiB "check_new" "Houses.check_new" Z3d ["self","name"]
 ZhZ:AtM K A.ZiB "standing" "Houses.standing" Z23 ["self"]
 ZhW:AtM K A.ZiB "check_room" "Houses.check_room" Z2M ["self"]
 ZhF:AtI K A.Ziw "Account.__init__" Z3c ["self"]
 ZhQ:AtI K A.ZiA "House.__init__" Z3N ["self","name","kind","least","most"]
 ZhU:AtM K A.ZiB "add" "Houses.add" Z5P ["self","name","kind","least","most"]
 ZhK:AtM K A.Zix "check_wish" "Circle.check_wish" Z2L ["self","kind","least","most"]
 ZhJ:AtM K A.Zix "check_book" "Circle.check_book" Z2K ["self"]
 ZhP:AtM K A.Zix "write" "Circle.write" Z4x ["self","row"]
 ZhM:AtM K A.Zix "join" "Circle.join" Z5c ["self","house","kind","least","most"]
 ZhX:AtM K A.ZiB "named" "Houses.named" Z4y ["self","name"]
 ZhO:AtM K A.Zix "owes" "Circle.owes" Z5d ["self","house"]
 ZhL:AtM K A.Zix "houses" "Circle.houses" Z2E ["self"]
 Zid:At K mg "do_join" Z8n ["circle","parts"]
 Zii:At K mg "number_of" Z6t ["text"]
 Zij:At K mg "part_of" Z8p ["sign","word"]
 Zik:At K mg "parts_of" Z4V ["form","words"]
 Zie:At K mg "do_row" Z9q ["circle","row"]
 Zib:At K mg "answer_row" Z5T ["circle","row"]
 Zi8:At K mg "_law_same" Z4a ["_law_found","_law_due"]
 Zi5:At K mg "_law_joins" Z5R ["_law_circle","_law_m","_law_name"]
 ZhR:AtM K A.ZiA "give_back" "House.give_back" Z3q ["self"]
 ZhS:AtM K A.ZiA "leave" "House.leave" Z5e ["self"]
 ZhY:AtM K A.ZiB "present" "Houses.present" Z3O ["self","name"]
 ZhN:AtM K A.Zix "leave" "Circle.leave" Z4w ["self","house"]
 Zi6:At K mg "_law_leaves" Z5f ["_law_circle","_law_m","_law_place"]
 Zia:At K mg "_law_turns" Z5S ["_law_circle","_law_m","_law_names_here","_law_script"]
 Zi9:At K mg "_law_to_the_end" Z3t ["_law_circle","_law_m","_law_names_here"]
 Zig:At K mg "law" s_law ["_law_script"]
abbrev exmT:Str->Str->Option Bool:=fun C x=>if C ="CircleFull"/\x ="CircleError" then some true else if C ="CircleFull"/\x ="CircleFull" then some true else if C ="UnknownHouse"/\x ="UnknownHouse" then some true else none
def Z91{C x a b:Str}{v r:Option Bool}{w:Bool}{p:Prop}(h:(if C=a/\x=b then v else r)=some w)(h1:C=a->x=b->v=some w->p)(h2:r=some w->p):p:=by
 by_cases z:C=a/\x=b
 .rw [if_pos z] at h;exact h1 z.1 z.2 h
 .rw [if_neg z] at h;exact h2 h
def Zbr{w:World}{K:Qa}{mg:Str->Option Value}{A:Adr}(T:Txt w K mg A):∀ C x b,exmT C x=some b->Jz K (.ref (adr A C)) (.ref (adr A x))=some b:=by
 intro C x b h;refine Z91 h (fun e1 e2 e3=>by cases e3;rw [e1,e2];exact T.ZiM) fun h=>?_;refine Z91 h (fun e1 e2 e3=>by cases e3;rw [e1,e2];exact T.ZiN) fun h=>?_;refine Z91 h (fun e1 e2 e3=>by cases e3;rw [e1,e2];exact T.ZiO) fun h=>?_;cases h
private abbrev ZaH:List Str:=(["dues","owed","open_dues","open_losses","sent"]:List Str)
def Z74:idx "dues" ([]:List Str)=none:=by decide
def Z75:idx "owed" (["dues"]:List Str)=none:=by decide
def Z4M:idx "open_dues" (["dues","owed"]:List Str)=none:=by decide
def Z48:idx "open_losses" (["dues","owed","open_dues"]:List Str)=none:=by decide
def Z76:idx "sent" (["dues","owed","open_dues","open_losses"]:List Str)=none:=by decide
private abbrev Z0z:List Str:=(["kinds","week","members","shelf","prices","past_weeks","deeds"]:List Str)
def Z73:idx "kinds" Z0z=some 0:=by decide
def Z78:idx "kinds" ([]:List Str)=none:=by decide
def Z7H:idx "week" (["kinds"]:List Str)=none:=by decide
def Z6g:idx "members" Z0z=some 2:=by decide
def Z6h:idx "members" (["kinds","week"]:List Str)=none:=by decide
def Z79:idx "shelf" (["kinds","week","members"]:List Str)=none:=by decide
def Z6C:idx "prices" (["kinds","week","members","shelf"]:List Str)=none:=by decide
def Z4N:idx "past_weeks" (["kinds","week","members","shelf","prices"]:List Str)=none:=by decide
def Z72:idx "deeds" Z0z=some 6:=by decide
def Z77:idx "deeds" (["kinds","week","members","shelf","prices","past_weeks"]:List Str)=none:=by decide
def Z7C:Z0z.contains "join"=false:=by decide
def Z6Y:Z0z.contains "leave"=false:=by decide
def Z4J:Z0z.contains "check_wish"=false:=by decide
def Z4I:Z0z.contains "check_book"=false:=by decide
def Z6Z:Z0z.contains "write"=false:=by decide
def Z7D:Z0z.contains "owes"=false:=by decide
def Z6A:Z0z.contains "houses"=false:=by decide
private abbrev Z2h:List Str:=(["name","kind","least","most","stands","held","papers","account"]:List Str)
def Z59:idx "name" Z2h=some 0:=by decide
def Z8B:idx "name" ([]:List Str)=none:=by decide
def Z8z:idx "kind" (["name"]:List Str)=none:=by decide
def Z7I:idx "least" (["name","kind"]:List Str)=none:=by decide
def Z8A:idx "most" (["name","kind","least"]:List Str)=none:=by decide
def Z3X:idx "stands" Z2h=some 4:=by decide
def Z7b:idx "stands" (["name","kind","least","most"]:List Str)=none:=by decide
def Z8x:idx "held" Z2h=some 5:=by decide
def Z8y:idx "held" (["name","kind","least","most","stands"]:List Str)=none:=by decide
def Z7a:idx "papers" (["name","kind","least","most","stands","held"]:List Str)=none:=by decide
def Z6D:idx "account" (["name","kind","least","most","stands","held","papers"]:List Str)=none:=by decide
def Z5w:Z2h.contains "give_back"=false:=by decide
def Z7E:Z2h.contains "leave"=false:=by decide
private abbrev Z1a:List Str:=(["joined"]:List Str)
def Z3I:idx "joined" Z1a=some 0:=by decide
def Z6E:idx "joined" ([]:List Str)=none:=by decide
def Z5i:Z1a.contains "check_new"=false:=by decide
def Z4K:Z1a.contains "check_room"=false:=by decide
def Z8w:Z1a.contains "add"=false:=by decide
def Z70:Z1a.contains "named"=false:=by decide
def Z6f:Z1a.contains "present"=false:=by decide
def Z38:Z1a.contains "standing"=false:=by decide
private abbrev Zbv:List Str:=(["told"]:List Str)
def Z7J:idx "told" ([]:List Str)=none:=by decide
private abbrev Zdg:List Str:=(["many","made","numbers","gone"]:List Str)
def Z8E:idx "many" ([]:List Str)=none:=by decide
def Z8D:idx "made" (["many"]:List Str)=none:=by decide
def Z6F:idx "numbers" (["many","made"]:List Str)=none:=by decide
def Z8C:idx "gone" (["many","made","numbers"]:List Str)=none:=by decide
def Zgk:idk (.inr "kind") ([.inr "kind",.inr "stand",.inr "joined"]:List Key)=some 0:=by decide
def Zgl:idk (.inr "stand") ([.inr "kind",.inr "stand",.inr "joined"]:List Key)=some 1:=by decide
def Zgm:idk (.inr "joined") ([.inr "kind",.inr "stand",.inr "joined"]:List Key)=some 2:=by decide
def Z3U:exmT "CircleFull" "CircleFull"=some true:=by decide
def Z30:exmT "UnknownHouse" "UnknownHouse"=some true:=by decide
end
section
mutual
variable {P:Program}{w:World}{K:Qa}{mg:Str->Option Value}{base:Heap}{A:Adr}
def Z5U:FnScope ["self"] ["self"] (Z6 Z3o):=scM
def Z6m:FnScope ["self","many"] ["self","many"] (Z6 Z3P):=scM
abbrev Z3D(K:Qa)(A:Adr):SF:=
  (Zc (sE (eMu 1 (ZS A.ZiD "many") (Z0 (Z3 1) (Z0 (Z3 0) Z1))))
  (Zc (sE (eMu 1 (ZS A.ZiD "made") (Z0 (Z0s (.lst true) Z1) (Z0 (Z3 0) Z1))))
  (Zc (sE (eMu 1 (ZS A.ZiD "numbers") (Z0 (Z0s (.dit true []) Z1) (Z0 (Z3 0) Z1))))
  (sE (eMu 1 (ZS A.ZiD "gone") (Z0 (Z0s (.dic true []) Z1) (Z0 (Z3 0) Z1)))))))
abbrev Z1v(K:Qa)(A:Adr):Fn:=Zn 2 [true,false] (Z3D K A)
def Z6k(T:Txt w K mg A):InitX P w K mg base A.ZiD 1 ["self","many"] (spR (adr A) [true,false] (Z1v K A)):=
 okI (k:=0) T.Zi1 Z6m rfl (by decide) fun f cdv A' outer s H E R hr hx hE ha=>by
  have hu:=ZG hr;walk_at ".Z5,, ZQ,T.ZiK,T.Zju,, ,0 ,1 Z5,, ZQ,T.ZiK,T.Zjt,, ,0 Z2C, Za Z5,, ZQ,T.ZiK,T.Zjv,, ,0 Zfp Z7, ZQ,T.ZiK,T.Zjs,, ,0 Z6d"
def Z5X:FnScope ["self"] ["self"] (Z6 Z3r):=scM
abbrev Z3l(K:Qa)(A:Adr):SF:=
  (sE (eMu 1 (ZS A.ZiB "joined") (Z0 (Z0s (.dic true []) Z1) (Z0 (Z3 0) Z1))))
abbrev Z21(K:Qa)(A:Adr):Fn:=Zn 1 [true] (Z3l K A)
def Z5E(T:Txt w K mg A):InitX P w K mg base A.ZiB 1 ["self"] (spR (adr A) [true] (Z21 K A)):=
 okI (k:=0) T.ZhT Z5X rfl (by decide) fun f cdv A' outer s H E R hr hx hE ha=>by
  have hu:=ZG hr;walk_at ".Z7, ZQ,T.ZiI,T.Zjq,, ,0 Z6d"
def Z5Z:FnScope ["self"] ["self"] (Z6 Z3s):=scM
abbrev Z3m(K:Qa)(A:Adr):SF:=
  (sE (eMu 1 (ZS A.ZiC "told") (Z0 (Z0s (.dic true []) Z1) (Z0 (Z3 0) Z1))))
abbrev Z22(K:Qa)(A:Adr):Fn:=Zn 1 [true] (Z3m K A)
def Z5G(T:Txt w K mg A):InitX P w K mg base A.ZiC 1 ["self"] (spR (adr A) [true] (Z22 K A)):=
 okI (k:=0) T.Zi0 Z5Z rfl (by decide) fun f cdv A' outer s H E R hr hx hE ha=>by
  have hu:=ZG hr;walk_at ".Z7, ZQ,T.ZiJ,T.Zjr,, ,0 Z6d"
def Z7s:FnScope ["text","signs","most","sign"] ["text","signs","most"] (Z6 Z8o):=scM
abbrev Z2x(K:Qa)(A:Adr):SF:=
  (sKill [3] (sIf (bV (eNw (hInS true) (Z0 (Z3 3) (Z0 (Z3 1) Z1)))) sNo ZV))
abbrev Z84(K:Qa)(A:Adr):SF:=
  (Zc (sIf (bOr (bV (eNw hLt (Z0 (eNw (hLen K) (Z0 (Z3 0) Z1)) (Z0 (eC (.int (1))) Z1)))) (bV (eNw hGt (Z0 (eNw (hLen K) (Z0 (Z3 0) Z1)) (Z0 (Z3 2) Z1))))) sNo ZV)
  (Zc (sForS (Z3 0) (Zm 3)
  (Z2x K A))
  (Z0l (eC (.bl true)))))
abbrev Z37(K:Qa)(A:Adr):Fn:=Zn 4 [false,false,false] (Z84 K A)
def Z7g(T:Txt w K mg A):DefX P w K mg base "made_of" 1 ["text","signs","most"] (spR (adr A) [false,false,false] (Z37 K A)):=
 okD (k:=0) T.Zih Z7s rfl (by decide) fun f cdv A' outer s H E R hr hx hE ha=>by
  have hu:=ZG hr;walk_at ".Z5,, Z02,,, PW.pt, rw_or,,";refine ZW on_lt ?_ ?_ (Zw _);walk_at ".Z15,Z0r,!r,T.Zip,boot_len, Z4,, ,0 Za Z8,Z9 Z4t,";refine ZW on_gt ?_ ?_ (Zw _);walk_at ".Z15,Z0r,!r,T.Zip,boot_len, Z4,, ,0 Za ,2 Z7, Z0v Zx Z5,, Zfv,Z0K,rfl,,, ,0 ;3,Z7s";refine Z2Y (js:=[3]) (by decide) ?_;walk_at ".Z7, Z02,,, ZW,Zf2,,,rfl ,3 ,1 Z7, Z0v Zx Z7, ZR, Z8,Z2A"
def Z9r:FnScope ["text"] ["text"] (Z6 Z6s):=scM
abbrev Z6n(K:Qa)(A:Adr):SF:=
  (Z0l (Zh [false,false,false] (Z37 K A) (Z0 (Z3 0) (Z0 (eC (V.str "abcdefghijklmnopqrstuvwxyz")) (Z0 (eC (V.int 12)) Z1)))))
abbrev Z27(K:Qa)(A:Adr):Fn:=Zn 1 [false] (Z6n K A)
def Z5I(T:Txt w K mg A):DefX P w K mg base "good_name" 2 ["text"] (spR (adr A) [false] (Z27 K A)):=
 okD (k:=1) T.Zif Z9r rfl (by decide) fun f cdv A' outer s H E R hr hx hE ha=>by
  have hu:=ZG hr;walk_at ".Z7, ZR,";refine Z07 (ms:=[false,false,false]) (by rw [ha];exact (Z7g T)) (hr.mono (by omega)) hx ?_ al3;walk_at ".Z4,, ,0 Z4,,";exact Z8 (Z1T T.ZiV);refine Z4 ?_ ?_;exact Z8 (Z1T T.ZiW);exact Za
def Z4B:FnScope ["kinds","kind"] ["kinds"] (Z6 Z5g):=scM
abbrev Z2i(K:Qa)(A:Adr):SF:=
  (sKill [1] (sIf (bOr (bNot (bV (Zh [false] (Z27 K A) (Z0 (Z3 1) Z1)))) (bV (eNw hGt (Z0 (eNw hCount (Z0 (Zr Z2d (Z3 0)) (Z0 (Z3 1) Z1))) (Z0 (eC (.int (1))) Z1))))) sNo ZV))
abbrev Z58(K:Qa)(A:Adr):SF:=
  (Zc (sIf (bOr (bV (eNw hLt (Z0 (eNw (hLen K) (Z0 (Z3 0) Z1)) (Z0 (eC (.int (1))) Z1)))) (bV (eNw hGt (Z0 (eNw (hLen K) (Z0 (Z3 0) Z1)) (Z0 (eC (V.int 4)) Z1))))) sNo ZV)
  (sForL (Z3 0) (Zm 1)
  (Z2i K A)))
abbrev Z1E(K:Qa)(A:Adr):Fn:=Zn 2 [false] (Z58 K A)
def Z7P(T:Txt w K mg A):DefX P w K mg base "check_kinds" 3 ["kinds"] (spR (adr A) [false] (Z1E K A)):=
 okD (k:=2) T.Zic Z4B rfl (by decide) fun f cdv A' outer s H E R hr hx hE ha=>by
  have hu:=ZG hr;walk_at ".Z5,, Z02,,, PW.pt, rw_or,,";refine ZW on_lt ?_ ?_ (Zw _);walk_at ".Z15,Z0r,!r,T.Zip,boot_len, Z4,, ,0 Za Z8,Z9 Z4t,";refine ZW on_gt ?_ ?_ (Zw _);walk_at ".Z15,Z0r,!r,T.Zip,boot_len, Z4,, ,0 Za";exact Z8 (Z1T T.ZiU);walk_at ".Z7, Z0v Zx Z7, Zfu,Z0K,rfl,,, ,0 ;1,Z4B";refine Z2Y (js:=[1]) (by decide) ?_;walk_at ".Z7, Z02,,, PW.pt, rw_or,, Z1U, rt_v,";refine Z07 (ms:=[false]) (by rw [ha];exact (Z5I T)) (hr.mono (by omega)) hx ?_ al1;walk_at ".Z4,, ,1 Za Z4t,";refine ZW on_gt ?_ ?_ (Zw _);walk_at ".Zh9,, ,0 ,1 Z8,Z9 Z7, Z0v Zx"
def Z5V:FnScope ["self","kinds"] ["self","kinds"] (Z6 Z3p):=scM
abbrev Z3j(K:Qa)(A:Adr):SF:=
  (Zc (sE (Zh [false] (Z1E K A) (Z0 (Z3 1) Z1)))
  (Zc (sE (eMu 1 (ZS A.Zix "kinds") (Z0 (eNw hList (Z0 (Z3 1) Z1)) (Z0 (Z3 0) Z1))))
  (Zc (sE (eMu 1 (ZS A.Zix "week") (Z0 (eC (.int (0))) (Z0 (Z3 0) Z1))))
  (Zc (sE (eMu 1 (ZS A.Zix "members") (Z0 (eMk A.ZiB [] (Z21 K A) Z1) (Z0 (Z3 0) Z1))))
  (Zc (sE (eMu 1 (ZS A.Zix "shelf") (Z0 (eMk A.ZiD [false] (Z1v K A) (Z0 (eNw (hLen K) (Z0 (Z3 1) Z1)) Z1)) (Z0 (Z3 0) Z1))))
  (Zc (sE (eMu 1 (ZS A.Zix "prices") (Z0 (eMk A.ZiC [] (Z22 K A) Z1) (Z0 (Z3 0) Z1))))
  (Zc (sE (eMu 1 (ZS A.Zix "past_weeks") (Z0 (Z0s (.lst true) Z1) (Z0 (Z3 0) Z1))))
  (sE (eMu 1 (ZS A.Zix "deeds") (Z0 (Z0s (.lst true) Z1) (Z0 (Z3 0) Z1)))))))))))
abbrev Z1h(K:Qa)(A:Adr):Fn:=Zn 2 [true,false] (Z3j K A)
def Z5C(T:Txt w K mg A):InitX P w K mg base A.Zix 4 ["self","kinds"] (spR (adr A) [true,false] (Z1h K A)):=
 okI (k:=3) T.ZhI Z5V rfl (by decide) fun f cdv A' outer s H E R hr hx hE ha=>by
  have hu:=ZG hr;walk_at ".Z5,, rs_e,";refine Z07 (ms:=[false]) (by rw [ha];exact (Z7P T)) (hr.mono (by omega)) hx ?_ al1;walk_at ".Z4,, ,1 Za Z5,, ZQ,T.ZiG,T.Zjc,, ,0 rc_ty,Z9W,!r,T.Ziq,boot_list, Z4,, ,1 Za Z5,, ZQ,T.ZiG,T.Zjh,, ,0 Z8,Z9 Z5,, ZQ,T.ZiG,T.Zjd,, ,0";exact Z9p (by rw [ha];exact (Z5E T)) (hr.mono (by omega)) T.Zj1;walk_at ".Z5,, ZQ,T.ZiG,T.Zjg,, ,0";refine rc_mk (ms:=[false]) (by rw [ha];exact (Z6k T)) (hr.mono (by omega)) T.Zj3 ?_ al1;walk_at ".Z4,, Z15,Z0r,!r,T.Zip,boot_len, Z4,, ,1 Za Za Z5,, ZQ,T.ZiG,T.Zjf,, ,0";exact Z9p (by rw [ha];exact (Z5G T)) (hr.mono (by omega)) T.Zj2;walk_at ".Z5,, ZQ,T.ZiG,T.Zje,, ,0 Z2C, Za Z7, ZQ,T.ZiG,T.Zjb,, ,0 Z2C, Za"
def ZaQ:FnScope ["_law_script","_law_k"] ["_law_script","_law_k"] (Z6 Z8m):=scM
abbrev Z82(K:Qa)(A:Adr):SF:=
  (Zc (sIf (bV (eNw hLt (Z0 (Z3 1) (Z0 (eNw (hLen K) (Z0 (Z3 0) Z1)) Z1)))) (Z0l (eCh (hIx K) (Z0 (Z3 0) (Z0 (Z3 1) Z1)))) ZV)
  (Z0l (eC (.int (0)))))
abbrev Z2q(K:Qa)(A:Adr):Fn:=Zn 2 [false,false] (Z82 K A)
def Z4T(T:Txt w K mg A):DefX P w K mg base "_law_at" 1 ["_law_script","_law_k"] (spR (adr A) [false,false] (Z2q K A)):=
 okD (k:=0) T.Zi2 ZaQ rfl (by decide) fun f cdv A' outer s H E R hr hx hE ha=>by
  have hu:=ZG hr;walk_at ".Z5,, Z02,,,";refine ZW on_lt ?_ ?_ (Zw _);walk_at ".,1 Z15,Z0r,!r,T.Zip,boot_len, Z4,, ,0 Za Z7, ZR, Z0C,,,!f ,0 ,1 Zx Z7, ZR, Z8,Z9"
def Z0S:FnScope ["_law_script","_law_k","_law_base","_law_many","_law_cell","_law_found","_law_j","_law_once"] ["_law_script","_law_k","_law_base","_law_many"] (Z6 Z4z):=scM
abbrev Z0k(K:Qa)(A:Adr):SF:=
  (sKill [6,7] (sIf (bV (eNw (hEq false) (Z0 (eNw hMod (Z0 (Zh [false,false] (Z2q K A) (Z0 (Z3 0) (Z0 (eC (.int (0))) Z1))) (Z0 (eC (.int (2))) Z1))) (Z0 (eC (.int (0))) Z1)))) (Zc (sE (eMu 0 hApp (Z0 (Zr Z2d (Z3 5)) (Z0 (eNw hMod (Z0 (Z3 4) (Z0 (Z3 2) Z1))) Z1))))
  (Z03 (eNw hDiv (Z0 (Z3 4) (Z0 (Z3 2) Z1))) (Zm 4))) (Zc (Z03 (eNw hMod (Z0 (eNw hMul (Z0 (eNw Z0n (Z0 (eNw Z0n (Z0 (Z3 4) (Z0 (eNw hMul (Z0 (eC (.int (31))) (Z0 (Z3 6) Z1))) Z1))) (Z0 (eC (.int (1))) Z1))) (Z0 (eC (.int (48271))) Z1))) (Z0 (eC (.int (2147483647))) Z1))) (Zm 7))
  (sE (eMu 0 hApp (Z0 (Zr Z2d (Z3 5)) (Z0 (eNw hMod (Z0 (eNw hMod (Z0 (eNw hMul (Z0 (eNw Z0n (Z0 (eNw Z0n (Z0 (eNw Z0n (Z0 (Z3 7) (Z0 (eNw hMul (Z0 (eC (.int (7919))) (Z0 (Z3 1) Z1))) Z1))) (Z0 (Z3 6) Z1))) (Z0 (eC (.int (1))) Z1))) (Z0 (eC (.int (69621))) Z1))) (Z0 (eC (.int (2147483647))) Z1))) (Z0 (Z3 2) Z1))) Z1)))))))
abbrev Z4e(K:Qa)(A:Adr):SF:=
  (Zc (Z03 (Zh [false,false] (Z2q K A) (Z0 (Z3 0) (Z0 (Z3 1) Z1))) (Zm 4))
  (Zc (Z03 (Z0s (.lst true) Z1) (Zm 5))
  (Zc (Z2D (Z0 (Z3 3) Z1) (Zm 6)
  (Z0k K A))
  (Z0l (Z3 5)))))
abbrev Z0H(K:Qa)(A:Adr):Fn:=Zn 8 [false,false,false,false] (Z4e K A)
def Z42(T:Txt w K mg A):DefX P w K mg base "_law_figures" 2 ["_law_script","_law_k","_law_base","_law_many"] (spR (adr A) [false,false,false,false] (Z0H K A)):=
 okD (k:=1) T.Zi4 Z0S rfl (by decide) fun f cdv A' outer s H E R hr hx hE ha=>by
  have hu:=ZG hr;walk_at ".Z5,, Zz,,";refine Z07 (ms:=[false,false]) (by rw [ha];exact (Z4T T)) (hr.mono (by omega)) hx ?_ al2;walk_at ".Z4,, ,0 Z4,, ,1 Za ;4,Z0S Z5,, Zz,, Z2C, Za ;5,Z0S Z5,, Z3M,Z0K,rfl,rfl,T.Zis,,, ,3 ;6,Z0S";refine Z2Y (js:=[6,7]) (by decide) ?_;walk_at ".Z7, Z02,,,";refine ZW on_eq ?_ ?_ (Zw _);refine Zq Z0M ?_ ?_;refine Z07 (ms:=[false,false]) (by rw [ha];exact (Z4T T)) (hr.mono (by omega)) hx ?_ al2;walk_at ".Z4,, ,0 Z4,, Z8,Z9 Za Z8,Z9 Z8,Z9 Z5,, rs_e, Z7o,, ,5 Zq,Z0M,, ,4 ,2 Z7, Zz,, Zq,Z3a,, ,4 ,2 ;4,Z0S Z5,, Zz,, Zq,Z0M,, Zq,Z4m,, Zq,Z0c,, Zq,Z0c,, ,4 Zq,Z4m,, Z8,Z9 ,6 Z8,Z9 Z8,Z9 Z8,Z9 ;7,Z0S Z7, rs_e, Z7o,, ,5 Zq,Z0M,, Zq,Z0M,, Zq,Z4m,, Zq,Z0c,, Zq,Z0c,, Zq,Z0c,, ,7 Zq,Z4m,, Z8,Z9 ,1 ,6 Z8,Z9 Z8,Z9 Z8,Z9 ,2 Z7, ZR, ,5"
def Z0A:FnScope ["_law_cell","_law_many","_law_stem","_law_spot","_law_signs","_law_names_here","_law_k","_law_first","_law_second"] ["_law_cell","_law_many"] (Z6 Z5Q):=scM
abbrev Z1M(K:Qa)(A:Adr):SF:=
  (sKill [6,7,8] (Zc (Z03 (eCh (hIx K) (Z0 (Z3 4) (Z0 (eNw hMod (Z0 (eNw Z0n (Z0 (eNw hDiv (Z0 (Z3 0) (Z0 (eC (.int (121))) Z1))) (Z0 (eNw hMul (Z0 (eC (.int (7))) (Z0 (Z3 6) Z1))) Z1))) (Z0 (eC (.int (26))) Z1))) Z1))) (Zm 7))
  (Zc (Z03 (eCh (hIx K) (Z0 (Z3 4) (Z0 (eNw hMod (Z0 (eNw Z0n (Z0 (eNw hDiv (Z0 (Z3 0) (Z0 (eC (.int (3146))) Z1))) (Z0 (eNw hDiv (Z0 (Z3 6) (Z0 (eC (.int (26))) Z1))) Z1))) (Z0 (eC (.int (26))) Z1))) Z1))) (Zm 8))
  (sE (eMu 0 hApp (Z0 (Zr Z2d (Z3 5)) (Z0 (eNw Z0n (Z0 (eNw Z0n (Z0 (eNw Z0n (Z0 (eNw (Z2c false) (Z0 (Z3 2) (Z0 (Z3 3) Z1))) (Z0 (Z3 7) Z1))) (Z0 (Z3 8) Z1))) (Z0 (eNw (Z2c true) (Z0 (Z3 2) (Z0 (Z3 3) Z1))) Z1))) Z1)))))))
abbrev Z5q(K:Qa)(A:Adr):SF:=
  (Zc (Z03 (eNw (Z2c false) (Z0 (eC (.str "papercircl")) (Z0 (eNw hMod (Z0 (Z3 0) (Z0 (eC (.int (11))) Z1))) Z1))) (Zm 2))
  (Zc (Z03 (eNw hMod (Z0 (eNw hDiv (Z0 (Z3 0) (Z0 (eC (.int (11))) Z1))) (Z0 (eNw Z0n (Z0 (eNw (hLen K) (Z0 (Z3 2) Z1)) (Z0 (eC (.int (1))) Z1))) Z1))) (Zm 3))
  (Zc (Z03 (eC (.str "abcdefghijklmnopqrstuvwxyz")) (Zm 4))
  (Zc (Z03 (Z0s (.lst true) Z1) (Zm 5))
  (Zc (Z2D (Z0 (Z3 1) Z1) (Zm 6)
  (Z1M K A))
  (Z0l (Z3 5)))))))
abbrev Z2v(K:Qa)(A:Adr):Fn:=Zn 9 [false,false] (Z5q K A)
def Z8G(T:Txt w K mg A):DefX P w K mg base "_law_crowd" 1 ["_law_cell","_law_many"] (spR (adr A) [false,false] (Z2v K A)):=
 okD (k:=0) T.Zi3 Z0A rfl (by decide) fun f cdv A' outer s H E R hr hx hE ha=>by
  have hu:=ZG hr;walk_at ".Z5,, Zz,, Z43,, Z8,Zo Zq,Z0M,, ,0 Z8,Z9 ;2,Z0A Z5,, Zz,, Zq,Z0M,, Zq,Z3a,, ,0 Z8,Z9 Zq,Z0c,, Z15,Z0r,!r,T.Zip,boot_len, Z4,, ,2 Za Z8,Z9 ;3,Z0A Z5,, Zz,, Z8,Zo ;4,Z0A Z5,, Zz,, Z2C, Za ;5,Z0A Z5,, Z3M,Z0K,rfl,rfl,T.Zis,,, ,1 ;6,Z0A";refine Z2Y (js:=[6,7,8]) (by decide) ?_;walk_at ".Z5,, Zz,, Z0C,,,!f ,4 Zq,Z0M,, Zq,Z0c,, Zq,Z3a,, ,0 Z8,Z9 Zq,Z4m,, Z8,Z9 ,6 Z8,Z9 ;7,Z0A Z5,, Zz,, Z0C,,,!f ,4 Zq,Z0M,, Zq,Z0c,, Zq,Z3a,, ,0 Z8,Z9 Zq,Z3a,, ,6 Z8,Z9 Z8,Z9 ;8,Z0A Z7, rs_e, Z7o,, ,5 Zq,Z0c,, Zq,Z0c,, Zq,Z0c,, Z43,, ,2 ,3 ,7 ,8 Z8l,, ,2 ,3 Z7, ZR, ,5"
def Z1G:FnScope ["_law_cell","_law_many","_law_stem","_law_spot","_law_signs","_law_shift"] ["_law_cell","_law_many"] (Z6 Z3Q):=scM
abbrev Z45(K:Qa)(A:Adr):SF:=
  (Z0l (Z3w (Z3 1) (fun _=>bYes) (fun n1=>(eNw Z0n (Z0 (eNw Z0n (Z0 (eNw (Z2c false) (Z0 (Z3 2) (Z0 (Z3 3) Z1))) (Z0 (eCh (hIx K) (Z0 (Z3 4) (Z0 (eNw hMod (Z0 (eNw Z0n (Z0 (Z3 5) (Z0 (eNw hMul (Z0 (eC (.int (7))) (Z0 (Z3 n1) Z1))) Z1))) (Z0 (eC (.int (26))) Z1))) Z1))) Z1))) (Z0 (eNw (Z2c true) (Z0 (Z3 2) (Z0 (Z3 3) Z1))) Z1))))))
abbrev Z5r(K:Qa)(A:Adr):SF:=
  (Zc (Z03 (eNw (Z2c false) (Z0 (eC (.str "papercircle")) (Z0 (eNw hMod (Z0 (Z3 0) (Z0 (eC (.int (12))) Z1))) Z1))) (Zm 2))
  (Zc (Z03 (eNw hMod (Z0 (eNw hDiv (Z0 (Z3 0) (Z0 (eC (.int (12))) Z1))) (Z0 (eNw Z0n (Z0 (eNw (hLen K) (Z0 (Z3 2) Z1)) (Z0 (eC (.int (1))) Z1))) Z1))) (Zm 3))
  (Zc (Z03 (eC (.str "abcdefghijklmnopqrstuvwxyz")) (Zm 4))
  (Zc (Z03 (eNw hMod (Z0 (eNw hDiv (Z0 (Z3 0) (Z0 (eC (.int (156))) Z1))) (Z0 (eC (.int (26))) Z1))) (Zm 5))
  (Z45 K A)))))
abbrev Z2w(K:Qa)(A:Adr):Fn:=Zn 6 [false,false] (Z5r K A)
def Z8H(T:Txt w K mg A):DefX P w K mg base "_law_names" 1 ["_law_cell","_law_many"] (spR (adr A) [false,false] (Z2w K A)):=
 okD (k:=0) T.Zi7 Z1G rfl (by decide) fun f cdv A' outer s H E R hr hx hE ha=>by
  have hu:=ZG hr;walk_at ".Z5,, Zz,, Z43,, Z8,Zo Zq,Z0M,, ,0 Z8,Z9";exact Zk (i:=2) Z1G.nd rfl (Or.inr rfl) rfl (by decide);walk_at ".Z5,, Zz,, Zq,Z0M,, Zq,Z3a,, ,0 Z8,Z9 Zq,Z0c,, Z15,Z0r,!r,T.Zip,boot_len, Z4,, ,2 Za Z8,Z9";exact Zk (i:=3) Z1G.nd rfl (Or.inr rfl) rfl (by decide);walk_at ".Z5,, Zz,, Z8,Zo";exact Zk (i:=4) Z1G.nd rfl (Or.inr rfl) rfl (by decide);walk_at ".Z5,, Zz,, Zq,Z0M,, Zq,Z3a,, ,0 Z8,Z9 Z8,Z9";exact Zk (i:=5) Z1G.nd rfl (Or.inr rfl) rfl (by decide);walk_at ".Z7, ZR,";refine Zc6 (N:=["_law_k","_law_cell","_law_many","_law_stem","_law_spot","_law_signs","_law_shift"]) rfl (by decide) rfl T.Zis ?_ (CompSc.of (sc:=Z6 Z3Q) (N0:=["_law_cell","_law_many","_law_stem","_law_spot","_law_signs","_law_shift"]) rfl rfl (by decide +kernel)) (fun cl C s H fp=>(Z2U (i:=0) (show (["_law_k","_law_cell","_law_many","_law_stem","_law_spot","_law_signs","_law_shift"]:List Str).Nodup from by decide +kernel) rfl (Or.inl rfl))) (fun cl C s H fp=>Zh6) (fun cl C s H fp=>px_e fun n1 hn1=>?_);walk_at ".,1 Zq,Z0c,, Zq,Z0c,, Z43,,";exact Z2 (pv 3) (j:=2) rfl;exact Z2 (pv 4) (j:=3) rfl;walk_at ".Z0C,,,!f";exact Z2 (pv 5) (j:=4) rfl;walk_at ".Zq,Z0M,, Zq,Z0c,,";exact Z2 (pv 6) (j:=5) rfl;walk_at ".Zq,Z4m,, Z8,Z9";exact Z2 (pv 0) (j:=n1) rfl;walk_at ".Z8,Z9 Z8l,,";exact Z2 (pv 3) (j:=2) rfl;exact Z2 (pv 4) (j:=3) rfl
def Z7p:FnScope ["self"] ["self"] (Z6 Z4v):=scM
abbrev Z4i(K:Qa)(A:Adr):Fn:=Zn 2 [false] sNo
def Z7e(T:Txt w K mg A):MetX P w K mg base A.Ziw "owes" 1 ["self"] (spR (adr A) [false] (Z4i K A)):=okM (k:=0) (body:=sNo) T.ZhG Z7p rfl (by decide) fun f cdv A' outer s H E R hr hx hE ha=>Zhc
def Z5m:FnScope ["self","name"] ["self","name"] (Z6 Z3d):=scM
abbrev Z36(K:Qa)(A:Adr):SF:=
  (Zc (sIf (bNot (bV (Zh [false] (Z27 K A) (Z0 (Z3 1) Z1)))) sNo ZV)
  (sIf (bV (eNw (hDIn false) (Z0 (Z3 1) (Z0 (eCh (Z0X A.ZiB "joined") (Z0 (Z3 0) Z1)) Z1)))) sNo ZV))
abbrev Z0L(K:Qa)(A:Adr):Fn:=Zn 2 [false,false] (Z36 K A)
def Z5k(T:Txt w K mg A):MetX P w K mg base A.ZiB "check_new" 3 ["self","name"] (spR (adr A) [false,false] (Z0L K A)):=
 okM (k:=2) T.ZhV Z5m rfl (by decide) fun f cdv A' outer s H E R hr hx hE ha=>by
  have hu:=ZG hr;walk_at ".Z5,, Z02,,, Z1U, rt_v,";refine Z07 (ms:=[false]) (by rw [ha];exact (Z5I T)) (hr.mono (by omega)) hx ?_ al1;walk_at ".Z4,, ,1 Za Z7, Z0v Zx Z7, Z02,,, Z7R, Zhb,hu,, ,1 Z0V,T.ZiI,T.Zjq, ,0 Z7, Z0v Zx"
def Z5Y:FnScope ["self"] ["self"] (Z6 Z23):=scM
def Z3f(T:Txt w K mg A):MetX P w K mg base A.ZiB "standing" 1 ["self"] (spSt A.ZiB A.ZiA "joined" "stands"):=
 okSt (k:=0) T.ZhZ Z5Y fun f cdv A' outer s H E hr=>Z20 (Z3b (ZdG (N:=["house","self"]) rfl (Z4o T.ZiI T.Zjq (pv 0)) (CompSc.of (sc:=Z6 Z23) (N0:=["self"]) rfl rfl (by decide +kernel)) (fun cl C s H fp=>Z2U (i:=0) (show (["house","self"]:List Str).Nodup from by decide +kernel) rfl (Or.inl rfl)) (fun cl C s H fp=>ZgV (Z9l (Z4o T.ZiH T.Zjp (pv 0)))) (fun cl C s H fp=>pv 0) Zbw))
abbrev Z1j(K:Qa)(A:Adr):Fn:=fSt A.ZiB A.ZiA "joined" "stands"
def Z5F(T:Txt w K mg A):MetX P w K mg base A.ZiB "standing" 1 ["self"] (spR (adr A) [false] (Z1j K A)):=RM.MetX.imp (Z3f T) fun vs H Q E h=>Zhg h
def Z4Y:FnScope ["self"] ["self"] (Z6 Z2M):=scM
abbrev Z14(K:Qa)(A:Adr):SF:=
  (Zc (sIf (bV (eNw hGe (Z0 (eNw (hLen K) (Z0 (Zh [false] (Z1j K A) (Z0 (Zr (Zu A.ZiB "standing") (Z3 0)) Z1)) Z1)) (Z0 (eC (V.int 20)) Z1)))) (Z4u "CircleFull" (Z0 (Z0W [(eNw Z0Y (Z0 (eC (V.int 20)) Z1)),(eC (.str " houses stand in the circle"))] Str.empty) Z1)) ZV)
  (sIf (bV (eNw hGe (Z0 (eNw (hLen K) (Z0 (eCh (Z0X A.ZiB "joined") (Z0 (Z3 0) Z1)) Z1)) (Z0 (eC (V.int 60)) Z1)))) (Z4u "CircleFull" (Z0 (Z0W [(eNw Z0Y (Z0 (eC (V.int 60)) Z1)),(eC (.str " houses have joined"))] Str.empty) Z1)) ZV))
abbrev Z09(K:Qa)(A:Adr):Fn:=Zn 1 [false] (Z14 K A)
def Z4S(T:Txt w K mg A):MetX P w K mg base A.ZiB "check_room" 2 ["self"] (spR (adr A) [false] (Z09 K A)):=
 okM (k:=1) T.ZhW Z4Y rfl (by decide) fun f cdv A' outer s H E R hr hx hE ha=>by
  have hu:=ZG hr;walk_at ".Z5,, Z02,,,";refine ZW on_ge ?_ ?_ (Zw _);walk_at ".Z15,Z0r,!r,T.Zip,boot_len, Z4,,";refine Z1K (ms:=[false]) (by rw [ha];exact (Z5F T)) T.ZiI (hr.mono (by omega)) hx ?_ al1;walk_at ".,0 Za";exact Z8 (Z1T T.ZiS);refine Z7 ?_;refine Z5O hE (by rw [ha];rfl) T.ZjV ?_;walk_at ".Z4,, Z3L, Z0y,, Z2s,";exact Z8 (Z1T T.ZiS);walk_at ".Z0y,, Z8,Zo Z5N Za Zx Z7, Z02,,,";refine ZW on_ge ?_ ?_ (Zw _);walk_at ".Z15,Z0r,!r,T.Zip,boot_len, Z4,, Z0V,T.ZiI,T.Zjq, ,0 Za";exact Z8 (Z1T T.ZiT);refine Z7 ?_;refine Z5O hE (by rw [ha];rfl) T.ZjV ?_;walk_at ".Z4,, Z3L, Z0y,, Z2s,";exact Z8 (Z1T T.ZiT);walk_at ".Z0y,, Z8,Zo Z5N Za Zx"
def Z5l:FnScope ["self"] ["self"] (Z6 Z3c):=scM
abbrev Z35(K:Qa)(A:Adr):SF:=
  (Zc (sE (eMu 1 (ZS A.Ziw "dues") (Z0 (Z0s (.dic true []) Z1) (Z0 (Z3 0) Z1))))
  (Zc (sE (eMu 1 (ZS A.Ziw "owed") (Z0 (eC (.int (0))) (Z0 (Z3 0) Z1))))
  (Zc (sE (eMu 1 (ZS A.Ziw "open_dues") (Z0 (eC (.int (0))) (Z0 (Z3 0) Z1))))
  (Zc (sE (eMu 1 (ZS A.Ziw "open_losses") (Z0 (eC (.int (0))) (Z0 (Z3 0) Z1))))
  (sE (eMu 1 (ZS A.Ziw "sent") (Z0 (Z0s (.lst true) Z1) (Z0 (Z3 0) Z1))))))))
abbrev Z1Q(K:Qa)(A:Adr):Fn:=Zn 1 [true] (Z35 K A)
def Z5j(T:Txt w K mg A):InitX P w K mg base A.Ziw 1 ["self"] (spR (adr A) [true] (Z1Q K A)):=
 okI (k:=0) T.ZhF Z5l rfl (by decide) fun f cdv A' outer s H E R hr hx hE ha=>by
  have hu:=ZG hr;walk_at ".Z5,, ZQ,T.ZiF,T.Zj6,, ,0 Z6d Z5,, ZQ,T.ZiF,T.Zj9,, ,0 Z8,Z9 Z5,, ZQ,T.ZiF,T.Zj7,, ,0 Z8,Z9 Z5,, ZQ,T.ZiF,T.Zj8,, ,0 Z8,Z9 Z7, ZQ,T.ZiF,T.Zja,, ,0 Z2C, Za"
def Z6l:FnScope ["self","name","kind","least","most"] ["self","name","kind","least","most"] (Z6 Z3N):=scM
abbrev Z5n(K:Qa)(A:Adr):SF:=
  (Zc (sE (eMu 1 (ZS A.ZiA "stands") (Z0 (eC (.bl true)) (Z0 (Z3 0) Z1))))
  (Zc (sE (eMu 1 (ZS A.ZiA "held") (Z0 (eC .non) (Z0 (Z3 0) Z1))))
  (Zc (sE (eMu 1 (ZS A.ZiA "papers") (Z0 (Z0s (.lst true) Z1) (Z0 (Z3 0) Z1))))
  (sE (eMu 1 (ZS A.ZiA "account") (Z0 (eMk A.Ziw [] (Z1Q K A) Z1) (Z0 (Z3 0) Z1)))))))
abbrev Z3B(K:Qa)(A:Adr):SF:=
  (Zc (sE (eMu 1 (ZS A.ZiA "name") (Z0 (Z3 1) (Z0 (Z3 0) Z1))))
  (Zc (sE (eMu 1 (ZS A.ZiA "kind") (Z0 (Z3 2) (Z0 (Z3 0) Z1))))
  (Zc (sE (eMu 1 (ZS A.ZiA "least") (Z0 (Z3 3) (Z0 (Z3 0) Z1))))
  (Zc (sE (eMu 1 (ZS A.ZiA "most") (Z0 (Z3 4) (Z0 (Z3 0) Z1))))
  (Z5n K A)))))
abbrev Z2g(K:Qa)(A:Adr):Fn:=Zn 5 [true,false,false,false,false] (Z3B K A)
def Z6i(T:Txt w K mg A):InitX P w K mg base A.ZiA 3 ["self","name","kind","least","most"] (spR (adr A) [true,false,false,false,false] (Z2g K A)):=
 okI (k:=2) T.ZhQ Z6l rfl (by decide) fun f cdv A' outer s H E R hr hx hE ha=>by
  have hu:=ZG hr;walk_at ".Z5,, ZQ,T.ZiH,T.Zjn,, ,0 ,1 Z5,, ZQ,T.ZiH,T.Zjk,, ,0 ,2 Z5,, ZQ,T.ZiH,T.Zjl,, ,0 ,3 Z5,, ZQ,T.ZiH,T.Zjm,, ,0 ,4 Z5,, ZQ,T.ZiH,T.Zjp,, ,0 Z8,Z2A Z5,, ZQ,T.ZiH,T.Zjj,, ,0 Z8,Z2B Z5,, ZQ,T.ZiH,T.Zjo,, ,0 Z2C, Za Z7, ZQ,T.ZiH,T.Zji,, ,0";exact Z9p (by rw [ha];exact (Z5j T)) (hr.mono (by omega)) T.ZiY
def Z8K:FnScope ["self","name","kind","least","most"] ["self","name","kind","least","most"] (Z6 Z5P):=scM
abbrev Z5p(K:Qa)(A:Adr):SF:=
  (Zc (sE (eMu 1 hPutD (Z0 (eMk A.ZiA [false,false,false,false] (Z2g K A) (Z0 (Z3 1) (Z0 (Z3 2) (Z0 (Z3 3) (Z0 (Z3 4) Z1))))) (Z0 (eCh (Z0X A.ZiB "joined") (Z0 (Z3 0) Z1)) (Z0 (Z3 1) Z1)))))
  (Z0l (eNw (hLen K) (Z0 (eCh (Z0X A.ZiB "joined") (Z0 (Z3 0) Z1)) Z1))))
abbrev Z2u(K:Qa)(A:Adr):Fn:=Zn 5 [true,false,false,false,false] (Z5p K A)
def Z8F(T:Txt w K mg A):MetX P w K mg base A.ZiB "add" 5 ["self","name","kind","least","most"] (spR (adr A) [true,false,false,false,false] (Z2u K A)):=
 okM (k:=4) T.ZhU Z8K rfl (by decide) fun f cdv A' outer s H E R hr hx hE ha=>by
  have hu:=ZG hr;walk_at ".Z5,, Zft,hu,,, Z0V,T.ZiI,T.Zjq, ,0 ,1";refine rc_mk (ms:=[false,false,false,false]) (by rw [ha];exact (Z6i T)) (hr.mono (by omega)) T.Zj0 ?_ al4;walk_at ".Z4,, ,1 Z4,, ,2 Z4,, ,3 Z4,, ,4 Za Z7, ZR, Z15,Z0r,!r,T.Zip,boot_len, Z4,, Z0V,T.ZiI,T.Zjq, ,0 Za"
def Z4X:FnScope ["self","kind","least","most"] ["self","kind","least","most"] (Z6 Z2L):=scM
abbrev Z2J(K:Qa)(A:Adr):SF:=
  (Zc (sIf (bV (eNw (hIn true) (Z0 (Z3 1) (Z0 (eCh (Z0X A.Zix "kinds") (Z0 (Z3 0) Z1)) Z1)))) sNo ZV)
  (sIf (bOr (bV (eNw hLt (Z0 (Z3 2) (Z0 (eC (.int (1))) Z1)))) (bOr (bV (eNw hLt (Z0 (Z3 3) (Z0 (Z3 2) Z1)))) (bV (eNw hGt (Z0 (Z3 3) (Z0 (eC (V.int 8)) Z1)))))) sNo ZV))
abbrev Z0E(K:Qa)(A:Adr):Fn:=Zn 4 [false,false,false,false] (Z2J K A)
def Z4R(T:Txt w K mg A):MetX P w K mg base A.Zix "check_wish" 1 ["self","kind","least","most"] (spR (adr A) [false,false,false,false] (Z0E K A)):=
 okM (k:=0) T.ZhK Z4X rfl (by decide) fun f cdv A' outer s H E R hr hx hE ha=>by
  have hu:=ZG hr;walk_at ".Z5,, Z02,,, ZW,ZdF,,,rfl ,1 Z0V,T.ZiG,T.Zjc, ,0 Z7, Z0v Zx Z7, Z02,,, PW.pt, rw_or,,";refine ZW on_lt ?_ ?_ (Zw _);walk_at ".,2 Z8,Z9 rw_or,,";refine ZW on_lt ?_ ?_ (Zw _);walk_at ".,3 ,2 Z4t,";refine ZW on_gt ?_ ?_ (Zw _);walk_at ".,3";exact Z8 (Z1T T.ZiX);walk_at ".Z7, Z0v Zx"
def Z4W:FnScope ["self"] ["self"] (Z6 Z2K):=scM
abbrev Z2I(K:Qa)(A:Adr):SF:=
  (sIf (bV (eNw hGe (Z0 (eNw (hLen K) (Z0 (eCh (Z0X A.Zix "deeds") (Z0 (Z3 0) Z1)) Z1)) (Z0 (eC (V.int 400)) Z1)))) sNo ZV)
abbrev Z0D(K:Qa)(A:Adr):Fn:=Zn 1 [false] (Z2I K A)
def Z2z(T:Txt w K mg A):MetX P w K mg base A.Zix "check_book" 1 ["self"] (spR (adr A) [false] (Z0D K A)):=
 okM (k:=0) T.ZhJ Z4W rfl (by decide) fun f cdv A' outer s H E R hr hx hE ha=>by
  have hu:=ZG hr;walk_at ".Z7, Z02,,,";refine ZW on_ge ?_ ?_ (Zw _);walk_at ".Z15,Z0r,!r,T.Zip,boot_len, Z4,, Z0V,T.ZiG,T.Zjb, ,0 Za";exact Z8 (Z1T T.ZiP);walk_at ".Z7, Z0v Zx"
def Z7q:FnScope ["self","row"] ["self","row"] (Z6 Z4x):=scM
def Z40(T:Txt w K mg A):MetX P w K mg base A.Zix "write" 1 ["self","row"] (spW A.Zix "deeds"):=okW T.ZhP Z7q T.ZiG T.Zjb fun f cdv A' outer s H E=>Z20 (Zam (pe_bm PySem.F.plainAttrs_list PySem.F.slot_list_append PySem.F.type_list_append Z3Z (Z4o T.ZiG T.Zjb (pv 0)) (Zg (pv 1) ZF)))
def Z7S:FnScope ["self","house","kind","least","most"] ["self","house","kind","least","most"] (Z6 Z5c):=scM
abbrev Z2o(K:Qa)(A:Adr):SF:=
  (Z0l (Zh [true,false,false,false,false] (Z2u K A) (Z0 (Zr (Zu A.ZiB "add") (eCh (Z0X A.Zix "members") (Z0 (Z3 0) Z1))) (Z0 (Z3 1) (Z0 (Z3 2) (Z0 (Z3 3) (Z0 (Z3 4) Z1)))))))
abbrev Z2n(K:Qa)(A:Adr):SF:=
  (Zc (sE (eVia A.Zix "write" "deeds" 0 (Z0W [(eC (.str "join ")),(eNw Z0Y (Z0 (Z3 1) Z1)),(eC (.str " ")),(eNw Z0Y (Z0 (Z3 2) Z1)),(eC (.str " ")),(eNw Z0Y (Z0 (Z3 3) Z1)),(eC (.str " ")),(eNw Z0Y (Z0 (Z3 4) Z1))] Str.empty)))
  (Z2o K A))
abbrev Z2m(K:Qa)(A:Adr):SF:=
  (Zc (sE (Zh [false] (Z0D K A) (Z0 (Zr (Zu A.Zix "check_book") (Z3 0)) Z1)))
  (Z2n K A))
abbrev Z0I(K:Qa)(A:Adr):SF:=
  (Zc (sE (Zh [false] (Z09 K A) (Z0 (Zr (Zu A.ZiB "check_room") (eCh (Z0X A.Zix "members") (Z0 (Z3 0) Z1))) Z1)))
  (Z2m K A))
abbrev Z1y(K:Qa)(A:Adr):SF:=
  (Zc (sE (Zh [false,false,false,false] (Z0E K A) (Z0 (Zr (Zu A.Zix "check_wish") (Z3 0)) (Z0 (Z3 2) (Z0 (Z3 3) (Z0 (Z3 4) Z1))))))
  (Z0I K A))
abbrev Z1B(K:Qa)(A:Adr):SF:=
  (Zc (sE (Zh [false,false] (Z0L K A) (Z0 (Zr (Zu A.ZiB "check_new") (eCh (Z0X A.Zix "members") (Z0 (Z3 0) Z1))) (Z0 (Z3 1) Z1))))
  (Z1y K A))
abbrev Z04(K:Qa)(A:Adr):Fn:=Zn 5 [true,false,false,false,false] (Z1B K A)
def Z4l(T:Txt w K mg A):MetX P w K mg base A.Zix "join" 6 ["self","house","kind","least","most"] (spR (adr A) [true,false,false,false,false] (Z04 K A)):=
 okM (k:=5) T.ZhM Z7S rfl (by decide) fun f cdv A' outer s H E R hr hx hE ha=>by
  have hu:=ZG hr;walk_at ".Z5,, rs_e,";refine Z28 (ms:=[false,false]) (by rw [ha];exact (Z5k T)) T.ZiI (hr.mono (by omega)) hx ?_ ?_ al2;walk_at ".Z0V,T.ZiG,T.Zjd, ,0 Z4,, ,1 Za Z5,, rs_e,";refine Z28 (ms:=[false,false,false,false]) (by rw [ha];exact (Z4R T)) T.ZiG (hr.mono (by omega)) hx ?_ ?_ al4;walk_at ".,0 Z4,, ,2 Z4,, ,3 Z4,, ,4 Za Z5,, rs_e,";refine Z1K (ms:=[false]) (by rw [ha];exact (Z4S T)) T.ZiI (hr.mono (by omega)) hx ?_ al1;walk_at ".Z0V,T.ZiG,T.Zjd, ,0 Z5,, rs_e,";refine Z1K (ms:=[false]) (by rw [ha];exact (Z2z T)) T.ZiG (hr.mono (by omega)) hx ?_ al1;walk_at ".,0 Z5,, rs_e,";refine Zc8 (Z40 T) T.ZiG (hr.mono (by omega)) (pv 0) (j:=0) rfl ?_;walk_at ".Z3L, Z0y,, Z8,Zo Z0y,, Z2s, ,1 Z0y,, Z8,Zo Z0y,, Z2s, ,2 Z0y,, Z8,Zo Z0y,, Z2s, ,3 Z0y,, Z8,Zo Z0y,, Z2s, ,4 Z5N Z7, ZR,";refine Z28 (ms:=[true,false,false,false,false]) (by rw [ha];exact (Z8F T)) T.ZiI (hr.mono (by omega)) hx ?_ ?_ al5;walk_at ".Z0V,T.ZiG,T.Zjd, ,0 Z4,, ,1 Z4,, ,2 Z4,, ,3 Z4,, ,4 Za"
def Z7r:FnScope ["self","name"] ["self","name"] (Z6 Z4y):=scM
abbrev Z2N(K:Qa)(A:Adr):SF:=
  (Zc (sIf (bV (eNw (hDIn true) (Z0 (Z3 1) (Z0 (eCh (Z0X A.ZiB "joined") (Z0 (Z3 0) Z1)) Z1)))) (Z4u "UnknownHouse" (Z0 (eNw hReprS (Z0 (Z3 1) Z1)) Z1)) ZV)
  (Z0l (eCh ZX (Z0 (eCh (Z0X A.ZiB "joined") (Z0 (Z3 0) Z1)) (Z0 (Z3 1) Z1)))))
end
mutual
abbrev Z0G(K:Qa)(A:Adr):Fn:=Zn 2 [true,false] (Z2N K A)
def Z41(T:Txt w K mg A):MetX P w K mg base A.ZiB "named" 1 ["self","name"] (spR (adr A) [true,false] (Z0G K A)):=
 okM (k:=0) T.ZhX Z7r rfl (by decide) fun f cdv A' outer s H E R hr hx hE ha=>by
  have hu:=ZG hr;walk_at ".Z5,, Z02,,, Z7R, Zfq,hu,, ,1 Z0V,T.ZiI,T.Zjq, ,0 Z7,";refine Z5O hE (by rw [ha];rfl) T.ZjW ?_;walk_at ".Z4,, ZdQ, Zc7, ,1 Za Zx Z7, ZR, Z0o,hu,,,!f Z0V,T.ZiI,T.Zjq, ,0 ,1"
def Z7T:FnScope ["self","house"] ["self","house"] (Z6 Z5d):=scM
abbrev Z56(K:Qa)(A:Adr):SF:=
  (Z0l (Zh [false] (Z4i K A) (Z0 (Zr (Zu A.Ziw "owes") (eCh (Z0X A.ZiA "account") (Z0 (Zh [true,false] (Z0G K A) (Z0 (Zr (Zu A.ZiB "named") (eCh (Z0X A.Zix "members") (Z0 (Z3 0) Z1))) (Z0 (Z3 1) Z1))) Z1))) Z1)))
abbrev Z1D(K:Qa)(A:Adr):Fn:=Zn 2 [true,false] (Z56 K A)
def Z7N(T:Txt w K mg A):MetX P w K mg base A.Zix "owes" 2 ["self","house"] (spR (adr A) [true,false] (Z1D K A)):=
 okM (k:=1) T.ZhO Z7T rfl (by decide) fun f cdv A' outer s H E R hr hx hE ha=>by
  have hu:=ZG hr;walk_at ".Z7, ZR,";refine Z1K (ms:=[false]) (by rw [ha];exact (Z7e T)) T.ZiF (hr.mono (by omega)) hx ?_ al1;refine Z0V T.ZiH T.Zji ?_;refine Z28 (ms:=[true,false]) (by rw [ha];exact (Z41 T)) T.ZiI (hr.mono (by omega)) hx ?_ ?_ al2;walk_at ".Z0V,T.ZiG,T.Zjd, ,0 Z4,, ,1 Za"
def Z6K:FnScope ["self"] ["self"] (Z6 Z2E):=scM
abbrev Z3W(K:Qa)(A:Adr):SF:=(Z0l (eNw (hNm A.ZiB A.ZiA "joined" "stands" "standing" "name") (Z0 (eCh (Z0X A.Zix "members") (Z0 (Z3 0) Z1)) Z1)))
abbrev Z0a(K:Qa)(A:Adr):Fn:=Zn 1 [false] (Z3W K A)
def Z2j(T:Txt w K mg A):MetX P w K mg base A.Zix "houses" 2 ["self"] (spR (adr A) [false] (Z0a K A)):=
 okM (k:=1) T.ZhL Z6K rfl (by decide) fun f cdv A' outer s H E R hr hx hE ha=>Z7 (ZR (ZaP (N:=["member","self"]) (Z3f T) T.ZiI (hr.mono (by omega)) hx rfl (Z0V T.ZiG T.Zjd (Z2 (pv 0) (j:=0) rfl)) (CompSc.of (sc:=Z6 Z2E) (N0:=["self"]) rfl rfl (by decide +kernel)) (fun cl C s H fp=>Z2U (i:=0) (show (["member","self"]:List Str).Nodup from by decide +kernel) rfl (Or.inl rfl)) (fun cl C s H fp=>Z4o T.ZiH T.Zjn (pv 0))))
def ZaR:FnScope ["circle","parts"] ["circle","parts"] (Z6 Z8n):=scM
abbrev Z83(K:Qa)(A:Adr):SF:=
  (Z0l (eNw hStrI (Z0 (Zh [true,false,false,false,false] (Z04 K A) (Z0 (Zr (Zu A.Zix "join") (Z3 0)) (Z0 (eCh (hIx K) (Z0 (Z3 1) (Z0 (eC (.int (0))) Z1))) (Z0 (eCh (hIx K) (Z0 (Z3 1) (Z0 (eC (.int (1))) Z1))) (Z0 (eCh (hIx K) (Z0 (Z3 1) (Z0 (eC (.int (2))) Z1))) (Z0 (eCh (hIx K) (Z0 (Z3 1) (Z0 (eC (.int (3))) Z1))) Z1)))))) Z1)))
abbrev Z2r(K:Qa)(A:Adr):Fn:=Zn 2 [true,false] (Z83 K A)
def ZaM(T:Txt w K mg A):DefX P w K mg base "do_join" 7 ["circle","parts"] (spR (adr A) [true,false] (Z2r K A)):=
 okD (k:=6) T.Zid ZaR rfl (by decide) fun f cdv A' outer s H E R hr hx hE ha=>by
  have hu:=ZG hr;walk_at ".Z7, ZR, rc_ty,Zef,!r,T.Zit,boot_str, Z4,,";refine Z28 (ms:=[true,false,false,false,false]) (by rw [ha];exact (Z4l T)) T.ZiG (hr.mono (by omega)) hx ?_ ?_ al5;walk_at ".,0 Z4,, Z0C,,,!f ,1 Z8,Z9 Z4,, Z0C,,,!f ,1 Z8,Z9 Z4,, Z0C,,,!f ,1 Z8,Z9 Z4,, Z0C,,,!f ,1 Z8,Z9 Za Za"
def Z9s:FnScope ["text"] ["text"] (Z6 Z6t):=scM
abbrev Z6o(K:Qa)(A:Adr):SF:=
  (Zc (sIf (bNot (bV (Zh [false,false,false] (Z37 K A) (Z0 (Z3 0) (Z0 (eC (V.str "0123456789")) (Z0 (eC (V.int 9)) Z1)))))) sNo ZV)
  (Zc (sIf (bAnd (bV (eNw hGt (Z0 (eNw (hLen K) (Z0 (Z3 0) Z1)) (Z0 (eC (.int (1))) Z1)))) (bV (eNw (hEq false) (Z0 (eCh (hIx K) (Z0 (Z3 0) (Z0 (eC (.int (0))) Z1))) (Z0 (eC (.str "0")) Z1))))) sNo ZV)
  (Z0l (eNw hIntS (Z0 (Z3 0) Z1)))))
abbrev Z31(K:Qa)(A:Adr):Fn:=Zn 1 [false] (Z6o K A)
def Z9d(T:Txt w K mg A):DefX P w K mg base "number_of" 2 ["text"] (spR (adr A) [false] (Z31 K A)):=
 okD (k:=1) T.Zii Z9s rfl (by decide) fun f cdv A' outer s H E R hr hx hE ha=>by
  have hu:=ZG hr;walk_at ".Z5,, Z02,,, Z1U, rt_v,";refine Z07 (ms:=[false,false,false]) (by rw [ha];exact (Z7g T)) (hr.mono (by omega)) hx ?_ al3;walk_at ".Z4,, ,0 Z4,,";exact Z8 (Z1T T.ZiQ);refine Z4 ?_ ?_;exact Z8 (Z1T T.ZiR);walk_at ".Za Z7, Z0v Zx Z5,, Z02,,, PW.pt, Zcc,,";refine ZW on_gt ?_ ?_ (Zw _);walk_at ".Z15,Z0r,!r,T.Zip,boot_len, Z4,, ,0 Za Z8,Z9 Zap,";refine ZW on_eq ?_ ?_ (Zw _);walk_at ".Z0C,,,!f ,0 Z8,Z9 Z8,Zo Z7, Z0v Zx Z7, ZR, rc_ty,Zee,!r,T.Zin,boot_int, Z4,, ,0 Za"
def Z7t:FnScope ["sign","word","number"] ["sign","word"] (Z6 Z8p):=scM
abbrev Z62(K:Qa)(A:Adr):SF:=
  (Zc (Z03 (Zh [false] (Z31 K A) (Z0 (Z3 1) Z1)) (Zm 2))
  (Zc (sIf (bV (eNw (hIsN false) (Z0 (Z3 2) (Z0 (eC .non) Z1)))) sNo ZV)
  (Z0l (Z3 2))))
abbrev Z5t(K:Qa)(A:Adr):SF:=
  (Zc (sIf (bV (eNw (hEq false) (Z0 (Z3 1) (Z0 (eC (.str "")) Z1)))) sNo ZV)
  (Zc (sIf (bV (eNw (hEq false) (Z0 (Z3 0) (Z0 (eC (.str "w")) Z1)))) (Z0l (Z3 1)) ZV)
  (Z62 K A)))
abbrev Z0m(K:Qa)(A:Adr):Fn:=Zn 3 [false,false] (Z5t K A)
def ZaN(T:Txt w K mg A):DefX P w K mg base "part_of" 3 ["sign","word"] (spR (adr A) [false,false] (Z0m K A)):=
 okD (k:=2) T.Zij Z7t rfl (by decide) fun f cdv A' outer s H E R hr hx hE ha=>by
  have hu:=ZG hr;walk_at ".Z5,, Z02,,,";refine ZW on_eq ?_ ?_ (Zw _);walk_at ".,1 Z8,Zo Z7, Z0v Zx Z5,, Z02,,,";refine ZW on_eq ?_ ?_ (Zw _);walk_at ".,0 Z8,Zo Z7, ZR, ,1 Zx Z5,, Zz,,";refine Z07 (ms:=[false]) (by rw [ha];exact (Z9d T)) (hr.mono (by omega)) hx ?_ al1;walk_at ".Z4,, ,1 Za ;2,Z7t Z5,, Z02,,,";refine ZW ZbS ?_ ?_ (Zw _);walk_at ".,2 Z8,Z2B Z7, Z0v Zx Z7, ZR, ,2"
def Z9Q:FnScope ["form","words"] ["form","words"] (Z6 Z4V):=scM
abbrev Z6S(K:Qa)(A:Adr):SF:=
  (Zc (sIf (bV (eNw (hEq false) (Z0 (Z3 0) (Z0 (eC (.str "*")) Z1)))) sNo ZV)
  (Zc (sIf (bV (eNw (hEq true) (Z0 (eNw (hLen K) (Z0 (Z3 1) Z1)) (Z0 (eNw (hLen K) (Z0 (Z3 0) Z1)) Z1)))) sNo ZV)
  (Z0l (Z4g (Z0 (Z3 0) (Z0 (Z3 1) Z1)) (fun _=>bYes) (fun n1=>(Zh [false,false] (Z0m K A) (Z0 (Z3 (n1 + 1)) (Z0 (Z3 n1) Z1))))))))
abbrev Z1Y(K:Qa)(A:Adr):Fn:=Zn 2 [false,false] (Z6S K A)
def Z9P(T:Txt w K mg A):DefX P w K mg base "parts_of" 4 ["form","words"] (spR (adr A) [false,false] (Z1Y K A)):=
 okD (k:=3) T.Zik Z9Q rfl (by decide) fun f cdv A' outer s H E R hr hx hE ha=>by
  have hu:=ZG hr;walk_at ".Z5,, Z02,,,";refine ZW on_eq ?_ ?_ (Zw _);walk_at ".,0 Z8,Zo Z7, Z0v Zx Z5,, Z02,,,";refine ZW on_ne ?_ ?_ (Zw _);walk_at ".Z15,Z0r,!r,T.Zip,boot_len, Z4,, ,1 Za Z15,Z0r,!r,T.Zip,boot_len, Z4,, ,0 Za Z7, Z0v Zx Z7, ZR,";refine ZdM (N:=["sign","word","form","words"]) rfl (by decide) rfl T.Ziv ?_ ?_ (CompSc.of (sc:=Z6 Z4V) (N0:=["form","words"]) rfl rfl (by decide +kernel)) (fun cl C s H fp=>(ZgW rfl (Z9j (Z2U (i:=0) (show (["sign","word","form","words"]:List Str).Nodup from by decide +kernel) rfl (Or.inl rfl)) (Z9j (Z2U (i:=1) (show (["sign","word","form","words"]:List Str).Nodup from by decide +kernel) rfl (Or.inl rfl)) Zfb)))) (fun cl C s H fp=>Zfk) (fun cl C s H fp=>px2_e fun n1 hn1=>?_);walk_at ".,0 ,1";refine Z07 (ms:=[false,false]) (by have hq:(RC.q R).ad=_:=ha;rw [hq];exact (ZaN T)) (hr.mono (by omega)) passT0 ?_ al2;refine Z4 ?_ ?_;exact Z2 (pv 0) (j:=(n1 + 1)) rfl;refine Z4 ?_ ?_;exact Z2 (pv 1) (j:=n1) rfl;exact Za
def Z3e:FnScope ["circle","row","words","order","parts","answer"] ["circle","row"] (Z6 Z9q):=scM
abbrev Z4b(K:Qa)(A:Adr):SF:=
  (Zc (Z03 (Zh [false,false] (Z1Y K A) (Z0 (eNw (hTk (Z1c A)) (Z0 (Z3 3) (Z0 (eC (.int (0))) Z1))) (Z0 (eNw (hCut true) (Z0 (Z3 2) (Z0 (eC (.int (1))) Z1))) Z1))) (Zm 4))
  (Zc (Z03 (eNw (hTk (Z1c A)) (Z0 (Z3 3) (Z0 (eC (.int (1))) Z1))) (Zm 5))
  (Z0l (eDyn (tabC "do_join" A.ZiL (Z2r K A) tabN) [true,false] (Z3 5) (Z0 (Z3 0) (Z0 (Z3 4) Z1))))))
abbrev Z6v(K:Qa)(A:Adr):SF:=
  (Zc (Z03 (eNw (hKd (Z39 A)) (Z0 (eCh (hIx K) (Z0 (Z3 2) (Z0 (eC (.int (0))) Z1))) Z1)) (Zm 3))
  (Z4b K A))
abbrev Z8O(K:Qa)(A:Adr):SF:=
  (Zc (Z03 (eNw hSplit (Z0 (Zr isStrD (Z3 1)) (Z0 (eC (.str " ")) Z1))) (Zm 2))
  (Zc (sIf (bV (eNw (hKin true (Z39 A)) (Z0 (eCh (hIx K) (Z0 (Z3 2) (Z0 (eC (.int (0))) Z1))) Z1))) sNo ZV)
  (Z6v K A)))
abbrev Z2O(K:Qa)(A:Adr):Fn:=Zn 6 [true,false] (Z8O K A)
def ZbR(T:Txt w K mg A):DefX P w K mg base "do_row" 8 ["circle","row"] (spR (adr A) [true,false] (Z2O K A)):=
 okD (k:=7) T.Zie Z3e rfl (by decide) fun f cdv A' outer s H E R hr hx hE ha=>by
  have hu:=ZG hr;walk_at ".Z5,, Zz,, ZdR,, ,1 Z8,Zo ;2,Z3e Z5,, Z02,,,";exact Z7R (pc_kd (neg:=true) T.Zj5 (T.Zjx P) (Z0C (Z2 (pv 2) (j:=2) rfl) (Z8 Z9) (fun _ _=>rfl)));walk_at ".Z7, Z0v Zx Z5,, Zz,,";refine re_kd T.Zj5 (T.Zjx P) ?_ (fun _ _=>rfl);walk_at ".Z0C,,,!f ,2 Z8,Z9 ;3,Z3e Z5,, Zz,,";refine Z07 (ms:=[false,false]) (by rw [ha];exact (Z9P T)) (hr.mono (by omega)) hx ?_ al2;walk_at ".Z4,, re_tk,T.Z1c,,,!f ,3 Z8,Z9 Z4,, ZdO,, ,2 Z8,Z9 Za ;4,Z3e Z5,, Zz,, re_tk,T.Z1c,,,!f ,3 Z8,Z9 ;5,Z3e Z7, ZR,";refine Zh7 (k:=7) (ms:=[true,false]) (Zda (Zeq (by rw [ha];exact (ZaM T)) T.Zj4 (by omega)) Zer) (hr.mono (by omega)) hx ?_ ?_ al2;walk_at ".,5 Z4,, ,0 Z4,, ,4 Za"
def Z5h:FnScope ["circle","row","refusal","word"] ["circle","row"] (Z6 Z5T):=scM
abbrev Z5s(K:Qa)(A:Adr):SF:=
  (sTryAs 2 3 "circle full" "CircleFull" (Z0l (Zh [true,false] (Z2O K A) (Z0 (Z3 0) (Z0 (Z3 1) Z1)))) (Z0l (Z0W [(eC (.str "refused: ")),(eNw Z0Y (Z0 (Z3 3) Z1))] Str.empty)))
abbrev Z1R(K:Qa)(A:Adr):Fn:=Zn 4 [true,false] (Z5s K A)
def Z8J(T:Txt w K mg A):DefX P w K mg base "answer_row" 9 ["circle","row"] (spR (adr A) [true,false] (Z1R K A)):=
 okD (k:=8) T.Zib Z5h rfl (by decide) fun f cdv A' outer s H E R hr hx hE ha=>by
  have hu:=ZG hr;refine Z7 ?_;refine ZdU (C :="CircleError") (CE :="CircleFull") (i:=2) (j:=3) rfl rfl (by rw [ha];exact T.ZiM) rfl rfl (by decide) (fun pn xe EX hx=>?_) (ph_as rfl rfl (by rw [ha];exact T.ZjU.1) Z5h.nd (i:=2) rfl (j:=3) rfl rfl rfl rfl rfl (by rw [ha];exact T.ZjT) (by rw [ha];exact ZfT T.ZhH Z5U rfl) (hr.depth) (fun ea pn=>(Z7 (ZR (Z3L (Z0y (Z8 Zo) (Z0y (Z2s (Z2 (pv 3) (j:=3) rfl)) Z5N)))))));walk_at ".Z7, ZR,";refine Z07 (ms:=[true,false]) (by dsimp only;rw [ha];exact (ZbR T)) (hr.mono (by omega)) hx ?_ al2;walk_at ".Z4,, ,0 Z4,, ,1 Za"
def Z60:FnScope ["_law_found","_law_due"] ["_law_found","_law_due"] (Z6 Z4a):=scM
abbrev Z2F(n:Nat)(K:Qa)(A:Adr):Sp:=fun vs H Q _=>∃ (x y:V) (d:Dt),vs=[x,y]/\Z0T H d x/\Z0T H d y/\d.dep<=n/\∀ H',Z11 H H'->Q (.bl true) H'
def Z5a{n:Nat}{vs:List V}{H:Hp}{Q:VK}{E:XK}(h:Z2F n K A vs H Q E):vs.length=2:=by obtain ⟨_,_,_,rfl,_⟩:=h;rfl
def Z80{vs:List V}{H:Hp}{Q:VK}{E:XK}(h:Z2F 0 K A vs H Q E):False:=by
 obtain ⟨_,_,d,_,_,_,h,_⟩:=h;have:=d.dep_pos;omega
def Z3i(T:Txt w K mg A):∀ n,DefX P w K mg base "_law_same" (n + 1) ["_law_found","_law_due"] (Z2F n K A)
 | 0=>T.Zi8.okX (k:=0) Z60 (fun vs H Q E h=>Z5a h) (fun f cdv A outer s H vs Q E hr h=>(Z80 h).elim)
 | n + 1=>by
  have ih:DefX P w K mg base "_law_same" (n + 1) ["_law_found","_law_due"] (Z2F n K A):=Z3i T n;refine T.Zi8.okX (k:=n + 1) Z60 (fun vs H Q E h=>Z5a h) (fun f cdv A' outer s H vs Q E hr h=>?_);have hu:=ZG hr
  refine ⟨_,(Z2V (ps_if (Z9l (Z0q Z8Q (by rfl) T.Zio boot_isinstance (Zg (pv 1) (Zg (ZbZ (Zg (Z18 (v:=.ty "list") rfl T.Ziq boot_list rfl) (Zg (Z18 (v:=.ty "tuple") rfl T.Ziu boot_tuple rfl) ZF))) ZF)))) (Z2V (ps_if (PW.pt (pw_or (Z2W op_ne (Z0q Z1O (by rfl) T.Zio boot_isinstance (Zg (pv 0) (Zg (Z18 (v:=.ty "list") rfl T.Ziq boot_list rfl) ZF))) (Z0q Z1O (by rfl) T.Zio boot_isinstance (Zg (pv 1) (Zg (Z18 (v:=.ty "list") rfl T.Ziq boot_list rfl) ZF))) (Zw _)) (Z7m (Z2W op_ne (Z0q Z1O (by rfl) T.Zio boot_isinstance (Zg (pv 0) (Zg (Z18 (v:=.ty "tuple") rfl T.Ziu boot_tuple rfl) ZF))) (Z0q Z1O (by rfl) T.Zio boot_isinstance (Zg (pv 1) (Zg (Z18 (v:=.ty "tuple") rfl T.Ziu boot_tuple rfl) ZF))) (Zw _))))) (Z20 (Z3b Z2A)) Z4q)
   (Z20 (Z3b (Z7i (Z4n op_eq (Z0q (KQ.call_len K) (by rfl) T.Zip boot_len (Zg (pv 0) ZF)) (Z0q (KQ.call_len K) (by rfl) T.Zip boot_len (Zg (pv 1) ZF)) (Zw _)) (Z7j (Z0q (KQ.call_all K rfl) (by rfl) T.Zil boot_all (Zg (Z69 (t:=1) (N:=["_law_k","_law_found","_law_due"]) rfl (Z5K rfl T.Zis (Zg (Z0q (KQ.call_len K) (by rfl) T.Zip boot_len (Zg (pv 1) ZF)) ZF)) (CompSc.of (sc:=Z6 Z4a) (N0:=["_law_found","_law_due"]) rfl rfl (by decide +kernel)) (fun cl C s H fp=>(Z2U (i:=0) (show (["_law_k","_law_found","_law_due"]:List Str).Nodup from by decide +kernel) rfl (Or.inl rfl))) (fun cl C s H fp=>Z7k) (fun cl C s H fp=>(ZbW ih (hr.mono (by omega)) passT0 (Zg (pe_ix (KQ.ix_seq K) (pv 1) (pv 0) (fun _ _=>rfl)) (Zg (pe_ix (KQ.ix_seq K) (pv 2) (pv 0) (fun _ _=>rfl)) ZF))))) ZF))))))) Z4q)
   (Z2V (ps_if (PW.pt (pw_or (Z2W Z5J (pv 1) Z2B (Zw _)) (Z7m (Z2W Z5J (pv 0) Z2B (Zw _))))) (Z20 (Z3b (Z7i (Z4n Z5J (pv 1) Z2B (Zw _)) (Z7j (Z4n Z5J (pv 0) Z2B (Zw _)))))) Z4q)
   (Z2V (ps_if (PW.pt (pw_or (Z2W op_ne (Z0q Z1O (by rfl) T.Zio boot_isinstance (Zg (pv 0) (Zg (Z18 (v:=.ty "bool") rfl T.Zim boot_bool rfl) ZF))) (Z0q Z1O (by rfl) T.Zio boot_isinstance (Zg (pv 1) (Zg (Z18 (v:=.ty "bool") rfl T.Zim boot_bool rfl) ZF))) (Zw _)) (Z7m (Z2W op_ne (Z0q Z1O (by rfl) T.Zio boot_isinstance (Zg (pv 0) (Zg (Z18 (v:=.ty "str") rfl T.Zit boot_str rfl) ZF))) (Z0q Z1O (by rfl) T.Zio boot_isinstance (Zg (pv 1) (Zg (Z18 (v:=.ty "str") rfl T.Zit boot_str rfl) ZF))) (Zw _))))) (Z20 (Z3b Z2A)) Z4q)
   (Z20 (Z3b (Z7i (Z0q Z8Q (by rfl) T.Zio boot_isinstance (Zg (pv 0) (Zg (ZbZ (Zg (Z18 (v:=.ty "int") rfl T.Zin boot_int rfl) (Zg (Z18 (v:=.ty "str") rfl T.Zit boot_str rfl) ZF))) ZF))) (Z7j (Z4n op_eq (pv 0) (pv 1) (Zw _))))))))),?_⟩
  obtain ⟨x,y,d,rfl,hx,hy,hd,k⟩:=h;simp only [ZfZ,cxC_K,tSeq,tIfS,tOr,tAnd,tNot,tTest,tB,tOp,tCB,Z2e,tNil,Z1q,tC,tRet,tRetN,tNext,tAsg,Z1l,tDrop,tCall,tCallT,tMetT,tMkT,Z2G,sFldC,tRaise,tRaiseA,tLst,tTup,tBM,tBM0,tAndV,tOrV,tNotV,tIf,tUn,tBreak,tCont,rI0,rI,rU,rEq,rNe,L2.start,hCons,hNil,Qj,Jw,Jm,Jq,Jo,List.replicate,Jy,List.length_nil,Wh,Ni,List.set_cons_zero,Nk,Nat.reduceAdd,Nat.reduceSub,Nat.reduceLT,Nat.reduceLeDiff,Je.injEq,exists_eq_left,exists_eq_left',exists_eq_right,exists_eq_right',exists_and_left,exists_and_right,exists_eq,exists_const,V.int.injEq,V.str.injEq,V.bl.injEq,V.ref.injEq,V.ty.injEq,Js.injEq,and_assoc,and_true,true_and,reduceCtorEq,false_and,and_false,or_false,false_or,exists_false,if_true,if_false,Nm,decide_eq_true_eq];refine ⟨by decide,fun p hp=>?_⟩;have sm:Z11 H (upd H p (.tup [V.ty "list",V.ty "tuple"])):=fun c o e=>by rw [Zb (Z0b e hp)];exact e
  generalize hH1:upd H p (.tup [V.ty "list",V.ty "tuple"])=H1 at sm ⊢;have hp1:H1 p=some (.tup (["list","tuple"].map V.ty)):=by rw [<- hH1];exact Zj
  have hx1:=hx.same sm;have hy1:=hy.same sm
  have is:∀ {T:String} {H2:Hp} {A B:Hp->Prop},T∈["list","tuple","bool","str","int"]->Z0T H2 d x->Z0T H2 d y->B H2->rIs1 [x,V.ty T] H2 fun u H3=>rIs1 [y,V.ty T] H3 fun v H4=>scal u v=true/\if (!decide (u=v))=true then A H4 else B H4:=fun hT hx hy q=>
   ⟨x,_,d.ty,rfl,hx.ty,d.kit hT,y,_,d.ty,rfl,hy.ty,d.kit hT,rfl,by rw [decide_eq_true rfl];exact q⟩
  refine ⟨y,p,_,d.ty,rfl,hp1,hy1.ty,by simp [kitAll,d.kit (T :="list") (by simp),d.kit (T :="tuple") (by simp)],_,rfl,?_⟩;rw [show ["list","tuple"].any (subT d.ty)=(d.isL || d.isT) by simp [d.sub_list,d.sub_tuple]]
  cases hLT:(d.isL || d.isT) with
  | true=>
   refine iteT (is (by simp) hx1 hy1 (is (by simp) hx1 hy1 ?_))
   obtain ⟨px,py,xs,ys,l,rfl,rfl,hpx,hpy,rl,rl',sz,hdl⟩:∃ (px py:Addr) (xs ys:List V) (l:List Dt),x=V.ref px/\y=V.ref py/\(SqL K H1 px xs\/SqT K H1 px xs)/\(SqL K H1 py ys\/SqT K H1 py ys)/\Z13 H1 l xs/\Z13 H1 l ys/\ys.length<=sizeLine/\Dt.deps l<=n:=by
    cases d with
    | lst l=>
     obtain ⟨px,xs,rfl,h1,z1,r1⟩:=hx1;obtain ⟨py,ys,rfl,h2,z2,r2⟩:=hy1;exact ⟨px,py,xs,ys,l,rfl,rfl,.inl (.of h1),.inl (.of h2),r1,r2,Gx z2,by unfold Dt.dep at hd;omega⟩
    | tup l=>
     obtain ⟨px,xs,rfl,h1,z1,r1⟩:=hx1;obtain ⟨py,ys,rfl,h2,z2,r2⟩:=hy1;exact ⟨px,py,xs,ys,l,rfl,rfl,.inr (.inl (.inl h1)),.inr (.inl (.inl h2)),r1,r2,Gx z2,by unfold Dt.dep at hd;omega⟩
    | _=>cases hLT
   have len1:=rl.length;have len2:=rl'.length
   have lv:∀ {q:Addr} {zs:List V},(SqL K H1 q zs\/SqT K H1 q zs)->LenV K (V.ref q) H1 zs.length:=fun h=>by
    rcases h with h | h
    .exact .inl ⟨_,h,rfl⟩
    .exact .inr ⟨_,h,rfl⟩
   refine ⟨xs.length,lv hpx,ys.length,lv hpy,rfl,?_⟩;rw [if_pos (by omega)];refine ⟨_,rfl,_,rfl,_,lv hpy,_,rfl,by have:=sizeLine_eq;omega,by have:=sizeLine_eq;omega,?_⟩;rw [Int.toNat_natCast];refine Z9I sz (fun _=>V.bl true) ?_ ?_
   .intro i H4 Q4 hi sm4 k4
    obtain ⟨e,he⟩:∃ e,l[i]?=some e:=⟨l[i]'(by omega),by simp⟩;obtain ⟨v,hv,rv⟩:=rl.get he;obtain ⟨v',hv',rv'⟩:=rl'.get he
    have ix:∀ {q:Addr} {zs:List V} {u:V} {QQ:VK},(SqL K H1 q zs\/SqT K H1 q zs)->zs[i]?=some u->QQ u H4->rIx K (V.ref q) (V.int (0 + (i:Int))) H4 QQ:=fun h hu q=>by
     rw [Int.zero_add];rcases h with h | h
     .exact .inl ⟨_,_,_,_,rfl,rfl,sm4.seq h,Z9S hu,q⟩
     .exact .inr (.inl ⟨_,_,_,_,rfl,rfl,sm4.seqT h,Z9S hu,q⟩)
    exact ⟨_,rfl,_,rfl,ix hpx hv ⟨_,rfl,_,rfl,ix hpy hv' ⟨v,v',e,rfl,rv.same sm4,rv'.same sm4,Jr (Dt.deps_le he) hdl,k4⟩⟩⟩
   .intro D H4 hD sm4 hD4
    refine ⟨D,rfl,(List.range ys.length).map fun _=>true,.of (by rw [hD4,Jl];rfl),?_⟩;rw [show ((List.range ys.length).map fun _=>true).all id=true by simp];exact k H4 (sm.trans sm4)
  | false=>
   refine iteF ?_;by_cases hn:y=V.non
   .rw [if_pos hn,if_pos hn,hx1.isNon,<- hy1.isNon,decide_eq_true hn]
    exact k H1 sm
   .have hxn:x≠V.non:=fun z=>by
     have:=hx1.isNon;rw [decide_eq_true z,<- hy1.isNon,decide_eq_false hn] at this;cases this
    rw [if_neg hn,if_neg hxn];refine is (by simp) hx1 hy1 (is (by simp) hx1 hy1 ⟨by decide,fun q hq=>?_⟩);have sm2:Z11 H1 (upd H1 q (.tup [V.ty "int",V.ty "str"])):=fun c o e=>by rw [Zb (Z0b e hq)];exact e
    refine ⟨x,q,["int","str"],d.ty,rfl,Zj,(hx1.same sm2).ty,by simp [kitAll,d.kit (T :="int") (by simp),d.kit (T :="str") (by simp)],_,rfl,?_⟩
    obtain ⟨h1,h2,h3⟩:(d.isI || d.isB || d.isS)=true/\scal x y=true/\x=y:=by
     cases d with
     | non=>exact absurd hy1 hn
     | bl b=>cases (show x=V.bl b from hx1);cases (show y=V.bl b from hy1);exact ⟨rfl,rfl,rfl⟩
     | int b=>cases (show x=V.int b from hx1);cases (show y=V.int b from hy1);exact ⟨rfl,rfl,rfl⟩
     | str b=>cases (show x=V.str b from hx1);cases (show y=V.str b from hy1);exact ⟨rfl,rfl,rfl⟩
     | _=>cases hLT
    rw [show ["int","str"].any (subT d.ty)=(d.isI || d.isB || d.isS) by simp [d.sub_int,d.sub_str,Bool.or_assoc],h1]
    refine iteT ⟨h2,?_⟩;rw [decide_eq_true h3];exact k _ (sm.trans sm2)
abbrev Z26(A:Adr):Fn:=sameF 3
def Z3K(T:Txt w K mg A):DefX P w K mg base "_law_same" 4 ["_law_found","_law_due"] (spR (adr A) [false,false] (Z26 A)):=DefX.imp (Z3i T 3) fun vs H Q E h=>ZdX h
def Z0B:FnScope ["_law_circle","_law_m","_law_name","_law_full","_law_place","_law_unknown","_law_found"] ["_law_circle","_law_m","_law_name"] (Z6 Z5R):=scM
abbrev Z1N(K:Qa)(A:Adr):SF:=
  (Zc (Z03 (eC (.bl false)) (Zm 5))
  (Zc (sTry exmT (sE (Zh [true,false] (Z1D K A) (Z0 (Zr (Zu A.Zix "owes") (Z3 0)) (Z0 (Z3 2) Z1)))) [("UnknownHouse",(Z03 (eC (.bl true)) (Zm 5)))])
  (Zc (Z03 (Zh [true,false] (Z1R K A) (Z0 (Z3 0) (Z0 (eNw Z0n (Z0 (eNw Z0n (Z0 (eNw Z0n (Z0 (eNw Z0n (Z0 (eC (.str "join ")) (Z0 (Z3 2) Z1))) (Z0 (eC (.str " ")) Z1))) (Z0 (eCh ZX (Z0 (Z3 1) (Z0 (eC (.str "kind")) Z1))) Z1))) (Z0 (eC (.str " 1 8")) Z1))) Z1))) (Zm 6))
  (Z0l (eAnd (Z3 3) (eAnd (Z3 5) (eSamP 3 "refused: circle full" (Z0s (.lst true) (Z0 (Z3 6) (Z0 (Zh [false] (Z0a K A) (Z0 (Zr (Zu A.Zix "houses") (Z3 0)) Z1)) Z1))) (eCh ZX (Z0 (Z3 1) (Z0 (eC (.str "stand")) Z1))))))))))
abbrev Z1z(K:Qa)(A:Adr):SF:=
  (Zc (sE (eMu 0 hApp (Z0 (Zr Z2d (eCh ZX (Z0 (Z3 1) (Z0 (eC (.str "stand")) Z1)))) (Z0 (Z3 2) Z1))))
  (Zc (sAugC 1 "joined" (1))
  (Z0l (eAnd (Zh [false,false] (Z26 A) (Z0 (Z3 4) (Z0 (eCh ZX (Z0 (Z3 1) (Z0 (eC (.str "joined")) Z1))) Z1))) (Zh [false,false] (Z26 A) (Z0 (Zh [false] (Z0a K A) (Z0 (Zr (Zu A.Zix "houses") (Z3 0)) Z1)) (Z0 (eCh ZX (Z0 (Z3 1) (Z0 (eC (.str "stand")) Z1))) Z1)))))))
abbrev Z0w(K:Qa)(A:Adr):SF:=
  (Zc (sIf (bOr (bV (eNw hGe (Z0 (eNw (hLen K) (Z0 (eCh ZX (Z0 (Z3 1) (Z0 (eC (.str "stand")) Z1))) Z1)) (Z0 (eC (.int (20))) Z1)))) (bV (eNw hGe (Z0 (eCh ZX (Z0 (Z3 1) (Z0 (eC (.str "joined")) Z1))) (Z0 (eC (.int (60))) Z1))))) (Z1N K A) ZV)
  (Z1z K A))
abbrev Z3E(K:Qa)(A:Adr):SF:=
  (Zc (Z03 (eC (.bl false)) (Zm 3))
  (Zc (Z03 (eC .non) (Zm 4))
  (Zc (sTry exmT (Z03 (Zh [true,false,false,false,false] (Z04 K A) (Z0 (Zr (Zu A.Zix "join") (Z3 0)) (Z0 (Z3 2) (Z0 (eCh ZX (Z0 (Z3 1) (Z0 (eC (.str "kind")) Z1))) (Z0 (eC (.int (1))) (Z0 (eC (.int (8))) Z1)))))) (Zm 4)) [("CircleFull",(Z03 (eC (.bl true)) (Zm 3)))])
  (Z0w K A))))
abbrev Zy(K:Qa)(A:Adr):Fn:=Zn 7 [true,true,false] (Z3E K A)
def Z1F(T:Txt w K mg A):DefX P w K mg base "_law_joins" 10 ["_law_circle","_law_m","_law_name"] (spR (adr A) [true,true,false] (Zy K A)):=
 okD (k:=9) T.Zi5 Z0B rfl (by decide) fun f cdv A' outer s H E R hr hx hE ha=>by
  have hu:=ZG hr;walk_at ".Z5,, Zz,, Z8,Z2A ;3,Z0B Z5,, Zz,, Z8,Z2B ;4,Z0B Z5,,";refine Zcb (exm:=exmT) (by intro C x b h;rw [ha];exact Zbr T C x b h) rfl rfl (fun pn xe EX hx=>?_) ?_;walk_at ".Z7, Zz,,";refine Z28 (ms:=[true,false,false,false,false]) (by dsimp only;rw [ha];exact (Z4l T)) T.ZiG (hr.mono (by omega)) hx ?_ ?_ al5;walk_at ".,0 Z4,, ,2 Z4,, Z0o,hu,,,!f ,1 Z8,Zo Z4,, Z8,Z9 Z4,, Z8,Z9 Za ;4,Z0B";refine Zan (by rw [ha];exact T.ZjV.1) (fun ea=>?_) ?_;walk_at ".Z7, Zz,, Z8,Z2A ;3,Z0B Zc9 Z5,, Z02,,, PW.pt, rw_or,,";refine ZW on_ge ?_ ?_ (Zw _);walk_at ".Z15,Z0r,!r,T.Zip,boot_len, Z4,, Z0o,hu,,,!f ,1 Z8,Zo Za Z8,Z9 Z4t,";refine ZW on_ge ?_ ?_ (Zw _);walk_at ".Z0o,hu,,,!f ,1 Z8,Zo Z8,Z9 Z5,, Zz,, Z8,Z2A ;5,Z0B Z5,,";refine Zcb (exm:=exmT) (by intro C x b h;rw [ha];exact Zbr T C x b h) rfl rfl (fun pn xe EX hx=>?_) ?_;walk_at ".Z7, rs_e,";refine Z28 (ms:=[true,false]) (by dsimp only;rw [ha];exact (Z7N T)) T.ZiG (hr.mono (by omega)) hx ?_ ?_ al2;walk_at ".,0 Z4,, ,2 Za";refine Zan (by rw [ha];exact T.ZjW.1) (fun ea=>?_) ?_;walk_at ".Z7, Zz,, Z8,Z2A ;5,Z0B Zc9 Z5,, Zz,,";refine Z07 (ms:=[true,false]) (by rw [ha];exact (Z8J T)) (hr.mono (by omega)) hx ?_ al2;walk_at ".Z4,, ,0 Z4,, Zq,Z0c,, Zq,Z0c,, Zq,Z0c,, Zq,Z0c,, Z8,Zo ,2 Z8,Zo Z0o,hu,,,!f ,1 Z8,Zo Z8,Zo Za ;6,Z0B Z7, ZR, Z5L,, ,3 Z5L,, ,5 Z6c,";refine Zfo (n:=3) (c :="refused: circle full") (Z3i T 3) (hr.mono (by omega)) pass1 (fun _ _ _ h=>h) ?_ ?_;walk_at ".Z2C, Z4,, ,6 Z4,,";refine Z1K (ms:=[false]) (by rw [ha];exact (Z2j T)) T.ZiG (hr.mono (by omega)) hx ?_ al1;walk_at ".,0 Za Z0o,hu,,,!f ,1 Z8,Zo Zx Z5,, rs_e, Z7o,, Z0o,hu,,,!f ,1 Z8,Zo ,2 Z5,,";exact Zfs hu (pv 1) (j:=1) rfl;walk_at ".Z7, ZR, Z5L,,";refine Z07 (ms:=[false,false]) (by rw [ha];exact (Z3K T)) (hr.mono (by omega)) hx ?_ al2;walk_at ".Z4,, ,4 Z4,, Z0o,hu,,,!f ,1 Z8,Zo Za Z6c,";refine Z07 (ms:=[false,false]) (by rw [ha];exact (Z3K T)) (hr.mono (by omega)) hx ?_ al2;refine Z4 ?_ ?_;refine Z1K (ms:=[false]) (by rw [ha];exact (Z2j T)) T.ZiG (hr.mono (by omega)) hx ?_ al1;walk_at ".,0 Z4,, Z0o,hu,,,!f ,1 Z8,Zo Za"
def Z5W:FnScope ["self"] ["self"] (Z6 Z3q):=scM
abbrev Z3k(K:Qa)(A:Adr):SF:=
  (sE (eMu 1 (ZS A.ZiA "held") (Z0 (eC .non) (Z0 (Z3 0) Z1))))
abbrev Z1i(K:Qa)(A:Adr):Fn:=Zn 1 [true] (Z3k K A)
def Z5D(T:Txt w K mg A):MetX P w K mg base A.ZiA "give_back" 1 ["self"] (spR (adr A) [true] (Z1i K A)):=
 okM (k:=0) T.ZhR Z5W rfl (by decide) fun f cdv A' outer s H E R hr hx hE ha=>by
  have hu:=ZG hr;walk_at ".Z7, ZQ,T.ZiH,T.Zjj,, ,0 Z8,Z2B"
def Z7U:FnScope ["self"] ["self"] (Z6 Z5e):=scM
abbrev Z57(K:Qa)(A:Adr):SF:=
  (Zc (sE (Zh [true] (Z1i K A) (Z0 (Zr (Zu A.ZiA "give_back") (Z3 0)) Z1)))
  (sE (eMu 1 (ZS A.ZiA "stands") (Z0 (eC (.bl false)) (Z0 (Z3 0) Z1)))))
abbrev Z2b(K:Qa)(A:Adr):Fn:=Zn 1 [true] (Z57 K A)
def Z7O(T:Txt w K mg A):MetX P w K mg base A.ZiA "leave" 2 ["self"] (spR (adr A) [true] (Z2b K A)):=
 okM (k:=1) T.ZhS Z7U rfl (by decide) fun f cdv A' outer s H E R hr hx hE ha=>by
  have hu:=ZG hr;walk_at ".Z5,, rs_e,";refine Z1K (ms:=[true]) (by rw [ha];exact (Z5D T)) T.ZiH (hr.mono (by omega)) hx ?_ al1;walk_at ".,0 Z7, ZQ,T.ZiH,T.Zjp,, ,0 Z8,Z2A"
def Z3u:FnScope ["self","name","house"] ["self","name"] (Z6 Z3O):=scM
abbrev Z3C(K:Qa)(A:Adr):SF:=
  (Zc (Z03 (Zh [true,false] (Z0G K A) (Z0 (Zr (Zu A.ZiB "named") (Z3 0)) (Z0 (Z3 1) Z1))) (Zm 2))
  (Zc (sIf (bNot (bV (eCh (Z0X A.ZiA "stands") (Z0 (Z3 2) Z1)))) sNo ZV)
  (Z0l (Z3 2))))
abbrev Z1u(K:Qa)(A:Adr):Fn:=Zn 3 [true,false] (Z3C K A)
def Z6j(T:Txt w K mg A):MetX P w K mg base A.ZiB "present" 2 ["self","name"] (spR (adr A) [true,false] (Z1u K A)):=
 okM (k:=1) T.ZhY Z3u rfl (by decide) fun f cdv A' outer s H E R hr hx hE ha=>by
  have hu:=ZG hr;walk_at ".Z5,, Zz,,";refine Z28 (ms:=[true,false]) (by rw [ha];exact (Z41 T)) T.ZiI (hr.mono (by omega)) hx ?_ ?_ al2;walk_at ".,0 Z4,, ,1 Za ;2,Z3u Z5,, Z02,,, Z1U, rt_v, Z0V,T.ZiH,T.Zjp, ,2 Z7, Z0v Zx Z7, ZR, ,2"
def Z44:FnScope ["self","house","member"] ["self","house"] (Z6 Z4w):=scM
abbrev Z25(K:Qa)(A:Adr):SF:=
  (Zc (sE (eVia A.Zix "write" "deeds" 0 (Z0W [(eC (.str "leave ")),(eNw Z0Y (Z0 (Z3 1) Z1))] Str.empty)))
  (sE (Zh [true] (Z2b K A) (Z0 (Zr (Zu A.ZiA "leave") (Z3 2)) Z1))))
abbrev Z24(K:Qa)(A:Adr):SF:=
  (Zc (sE (Zh [false] (Z0D K A) (Z0 (Zr (Zu A.Zix "check_book") (Z3 0)) Z1)))
  (Z25 K A))
abbrev Z4d(K:Qa)(A:Adr):SF:=
  (Zc (Z03 (Zh [true,false] (Z1u K A) (Z0 (Zr (Zu A.ZiB "present") (eCh (Z0X A.Zix "members") (Z0 (Z3 0) Z1))) (Z0 (Z3 1) Z1))) (Zm 2))
  (Z24 K A))
abbrev Z1m(K:Qa)(A:Adr):Fn:=Zn 3 [true,false] (Z4d K A)
def Z7f(T:Txt w K mg A):MetX P w K mg base A.Zix "leave" 3 ["self","house"] (spR (adr A) [true,false] (Z1m K A)):=
 okM (k:=2) T.ZhN Z44 rfl (by decide) fun f cdv A' outer s H E R hr hx hE ha=>by
  have hu:=ZG hr;walk_at ".Z5,, Zz,,";refine Z28 (ms:=[true,false]) (by rw [ha];exact (Z6j T)) T.ZiI (hr.mono (by omega)) hx ?_ ?_ al2;walk_at ".Z0V,T.ZiG,T.Zjd, ,0 Z4,, ,1 Za ;2,Z44 Z5,, rs_e,";refine Z1K (ms:=[false]) (by rw [ha];exact (Z2z T)) T.ZiG (hr.mono (by omega)) hx ?_ al1;walk_at ".,0 Z5,, rs_e,";refine Zc8 (Z40 T) T.ZiG (hr.mono (by omega)) (pv 0) (j:=0) rfl ?_;walk_at ".Z3L, Z0y,, Z8,Zo Z0y,, Z2s, ,1 Z5N Z7, rs_e,";refine Z1K (ms:=[true]) (by rw [ha];exact (Z7O T)) T.ZiH (hr.mono (by omega)) hx ?_ al1;walk_at ".,2"
def Z4A:FnScope ["_law_circle","_law_m","_law_place","_law_name"] ["_law_circle","_law_m","_law_place"] (Z6 Z5f):=scM
abbrev Z2p(K:Qa)(A:Adr):SF:=
  (Z0l (eAnd (eNw (hIsN false) (Z0 (Zh [true,false] (Z1m K A) (Z0 (Zr (Zu A.Zix "leave") (Z3 0)) (Z0 (Z3 3) Z1))) (Z0 (eC .non) Z1))) (Zh [false,false] (Z26 A) (Z0 (Zh [false] (Z0a K A) (Z0 (Zr (Zu A.Zix "houses") (Z3 0)) Z1)) (Z0 (eCh ZX (Z0 (Z3 1) (Z0 (eC (.str "stand")) Z1))) Z1)))))
abbrev Z3h(K:Qa)(A:Adr):SF:=
  (Zc (sIf (bV (eNw (hEq false) (Z0 (eNw (hLen K) (Z0 (eCh ZX (Z0 (Z3 1) (Z0 (eC (.str "stand")) Z1))) Z1)) (Z0 (eC (.int (0))) Z1)))) (Z0l (eC (.bl true))) ZV)
  (Zc (Z03 (ePopI (Z0 (Zr Z2d (eCh ZX (Z0 (Z3 1) (Z0 (eC (.str "stand")) Z1)))) (Z0 (eNw hMod (Z0 (Z3 2) (Z0 (eNw (hLen K) (Z0 (eCh ZX (Z0 (Z3 1) (Z0 (eC (.str "stand")) Z1))) Z1)) Z1))) Z1))) (Zm 3))
  (Z2p K A)))
abbrev Z05(K:Qa)(A:Adr):Fn:=Zn 4 [true,true,false] (Z3h K A)
def Z2T(T:Txt w K mg A):DefX P w K mg base "_law_leaves" 5 ["_law_circle","_law_m","_law_place"] (spR (adr A) [true,true,false] (Z05 K A)):=
 okD (k:=4) T.Zi6 Z4A rfl (by decide) fun f cdv A' outer s H E R hr hx hE ha=>by
  have hu:=ZG hr;walk_at ".Z5,, Z02,,,";refine ZW on_eq ?_ ?_ (Zw _);walk_at ".Z15,Z0r,!r,T.Zip,boot_len, Z4,, Z0o,hu,,,!f ,1 Z8,Zo Za Z8,Z9 Z7, ZR, Z8,Z2A Zx Z5,, Zz,, Zfn,, Z0o,hu,,,!f ,1 Z8,Zo Zq,Z0M,, ,2 Z15,Z0r,!r,T.Zip,boot_len, Z4,, Z0o,hu,,,!f ,1 Z8,Zo Za ;3,Z4A Z7, ZR, Z5L,,";refine Zh8 ZbS ?_ ?_ (Zw _);refine Z28 (ms:=[true,false]) (by rw [ha];exact (Z7f T)) T.ZiG (hr.mono (by omega)) hx ?_ ?_ al2;walk_at ".,0 Z4,, ,3 Za Z8,Z2B Z6c,";refine Z07 (ms:=[false,false]) (by rw [ha];exact (Z3K T)) (hr.mono (by omega)) hx ?_ al2;refine Z4 ?_ ?_;refine Z1K (ms:=[false]) (by rw [ha];exact (Z2j T)) T.ZiG (hr.mono (by omega)) hx ?_ al1;walk_at ".,0 Z4,, Z0o,hu,,,!f ,1 Z8,Zo Za"
def Z1H:FnScope ["_law_circle","_law_m","_law_names_here","_law_script","_law_k","_law_figs","_law_turn"] ["_law_circle","_law_m","_law_names_here","_law_script"] (Z6 Z5S):=scM
abbrev Z0Q(K:Qa)(A:Adr):SF:=
  (sIf (bNot (bV (Zh [true,true,false] (Z05 K A) (Z0 (Z3 0) (Z0 (Z3 1) (Z0 (eCh (hIx K) (Z0 (Z3 5) (Z0 (eC (.int (1))) Z1))) Z1)))))) sNo ZV)
abbrev Z0R(K:Qa)(A:Adr):SF:=
  (sIf (bNot (bV (Zh [true,true,false] (Zy K A) (Z0 (Z3 0) (Z0 (Z3 1) (Z0 (eCh (hIx K) (Z0 (Z3 2) (Z0 (eNw hMin (Z0 (eCh ZX (Z0 (Z3 1) (Z0 (eC (.str "joined")) Z1))) (Z0 (eC (.int (60))) Z1))) Z1))) Z1)))))) sNo ZV)
abbrev Z0u(K:Qa)(A:Adr):SF:=
  (sKill [4,5,6] (Zc (Z03 (Zh [false,false,false,false] (Z0H K A) (Z0 (Z3 3) (Z0 (Z3 4) (Z0 (eC (.int (840))) (Z0 (eC (.int (3))) Z1))))) (Zm 5))
  (Zc (Z2D (Z0 (eNw hMod (Z0 (eCh (hIx K) (Z0 (Z3 5) (Z0 (eC (.int (0))) Z1))) (Z0 (eC (.int (6))) Z1))) Z1) (Zm 6)
  (Z0Q K A))
  (Z2D (Z0 (eNw hMod (Z0 (eCh (hIx K) (Z0 (Z3 5) (Z0 (eC (.int (2))) Z1))) (Z0 (eC (.int (8))) Z1))) Z1) (Zm 6)
  (Z0R K A)))))
abbrev Z3F(K:Qa)(A:Adr):SF:=
  (Zc (Z2D (Z0 (eC (.int (2))) (Z0 (eNw hMin (Z0 (eNw (hLen K) (Z0 (Z3 3) Z1)) (Z0 (eC (.int (22))) Z1))) Z1)) (Zm 4)
  (Z0u K A))
  (Z0l (eC (.bl true))))
abbrev Z1n(K:Qa)(A:Adr):Fn:=Zn 7 [true,true,false,false] (Z3F K A)
def Z8I(T:Txt w K mg A):DefX P w K mg base "_law_turns" 11 ["_law_circle","_law_m","_law_names_here","_law_script"] (spR (adr A) [true,true,false,false] (Z1n K A)):=
 okD (k:=10) T.Zia Z1H rfl (by decide) fun f cdv A' outer s H E R hr hx hE ha=>by
  have hu:=ZG hr;walk_at ".Z5,, ZdT,Z0K,rfl,rfl,T.Zis,,,, Z8,Z9";refine Z15 (Zb7 rfl) (by rfl) T.Zir boot_min ?_;walk_at ".Z4,, Z15,Z0r,!r,T.Zip,boot_len, Z4,, ,3 Za Z4,, Z8,Z9 Za ;4,Z1H";refine Z2Y (js:=[4,5,6]) (by decide) ?_;walk_at ".Z5,, Zz,,";refine Z07 (ms:=[false,false,false,false]) (by rw [ha];exact (Z42 T)) (hr.mono (by omega)) hx ?_ al4;walk_at ".Z4,, ,3 Z4,, ,4 Z4,, Z8,Z9 Z4,, Z8,Z9 Za ;5,Z1H Z5,, Z3M,Z0K,rfl,rfl,T.Zis,,, Zq,Z0M,, Z0C,,,!f ,5 Z8,Z9 Z8,Z9 ;6,Z1H Z7, Z02,,, Z1U, rt_v,";refine Z07 (ms:=[true,true,false]) (by rw [ha];exact (Z2T T)) (hr.mono (by omega)) hx ?_ al3;walk_at ".Z4,, ,0 Z4,, ,1 Z4,, Z0C,,,!f ,5 Z8,Z9 Za Z7, Z0v Zx Z7, Z3M,Z0K,rfl,rfl,T.Zis,,, Zq,Z0M,, Z0C,,,!f ,5 Z8,Z9 Z8,Z9 ;6,Z1H Z7, Z02,,, Z1U, rt_v,";refine Z07 (ms:=[true,true,false]) (by rw [ha];exact (Z1F T)) (hr.mono (by omega)) hx ?_ al3;walk_at ".Z4,, ,0 Z4,, ,1 Z4,, Z0C,,,!f ,2";refine Z15 (Zb7 rfl) (by rfl) T.Zir boot_min ?_;walk_at ".Z4,, Z0o,hu,,,!f ,1 Z8,Zo Z4,, Z8,Z9 Za Za Z7, Z0v Zx Z7, ZR, Z8,Z2A"
def Z61:FnScope ["_law_circle","_law_m","_law_names_here"] ["_law_circle","_law_m","_law_names_here"] (Z6 Z3t):=scM
abbrev Z0x(K:Qa)(A:Adr):SF:=
  (sIf (bNot (bV (Zh [true,true,false] (Zy K A) (Z0 (Z3 0) (Z0 (Z3 1) (Z0 (eCh (hIx K) (Z0 (Z3 2) (Z0 (eCh ZX (Z0 (Z3 1) (Z0 (eC (.str "joined")) Z1))) Z1))) Z1)))))) sNo ZV)
abbrev ZC(K:Qa)(A:Adr):SF:=
  (Zc (sIf (bAnd (bV (eNw (hEq false) (Z0 (eNw (hLen K) (Z0 (eCh ZX (Z0 (Z3 1) (Z0 (eC (.str "stand")) Z1))) Z1)) (Z0 (eC (.int (20))) Z1)))) (bNot (bV (Zh [true,true,false] (Z05 K A) (Z0 (Z3 0) (Z0 (Z3 1) (Z0 (eCh ZX (Z0 (Z3 1) (Z0 (eC (.str "joined")) Z1))) Z1))))))) sNo ZV)
  (Z0x K A))
abbrev Z0Z(K:Qa)(A:Adr):SF:=
  (Z0l (Zh [true,true,false] (Zy K A) (Z0 (Z3 0) (Z0 (Z3 1) (Z0 (eCh (hIx K) (Z0 (Z3 2) (Z0 (eC (.int (63))) Z1))) Z1)))))
abbrev Z1A(K:Qa)(A:Adr):SF:=
  (Zc (sIf (bOr (bNot (bV (Zh [true,true,false] (Zy K A) (Z0 (Z3 0) (Z0 (Z3 1) (Z0 (eCh (hIx K) (Z0 (Z3 2) (Z0 (eC (.int (62))) Z1))) Z1)))))) (bNot (bV (Zh [true,true,false] (Z05 K A) (Z0 (Z3 0) (Z0 (Z3 1) (Z0 (eC (.int (0))) Z1))))))) sNo ZV)
  (Z0Z K A))
abbrev Z3n(K:Qa)(A:Adr):SF:=
  (Zc (sWhile 1000 (bV (eNw hLt (Z0 (eCh ZX (Z0 (Z3 1) (Z0 (eC (.str "joined")) Z1))) (Z0 (eC (.int (60))) Z1))))
  (ZC K A))
  (Z1A K A))
abbrev Z0U(K:Qa)(A:Adr):Fn:=Zn 3 [true,true,false] (Z3n K A)
def Z5H(T:Txt w K mg A):DefX P w K mg base "_law_to_the_end" 11 ["_law_circle","_law_m","_law_names_here"] (spR (adr A) [true,true,false] (Z0U K A)):=
 okD (k:=10) T.Zi9 Z61 rfl (by decide) fun f cdv A' outer s H E R hr hx hE ha=>by
  have hu:=ZG hr;refine Z5 ?_ ?_;refine ZdV (n:=1000) Z0K ?_ ?_;refine ZW on_lt ?_ ?_ (Zw _);walk_at ".Z0o,hu,,,!f ,1 Z8,Zo Z8,Z9 Z5,, Z02,,, PW.pt, Zcc,,";refine ZW on_eq ?_ ?_ (Zw _);walk_at ".Z15,Z0r,!r,T.Zip,boot_len, Z4,, Z0o,hu,,,!f ,1 Z8,Zo Za Z8,Z9 Zap, Z1U, rt_v,";refine Z07 (ms:=[true,true,false]) (by rw [ha];exact (Z2T T)) (hr.mono (by omega)) hx ?_ al3;walk_at ".Z4,, ,0 Z4,, ,1 Z4,, Z0o,hu,,,!f ,1 Z8,Zo Za Z7, Z0v Zx Z7, Z02,,, Z1U, rt_v,";refine Z07 (ms:=[true,true,false]) (by rw [ha];exact (Z1F T)) (hr.mono (by omega)) hx ?_ al3;walk_at ".Z4,, ,0 Z4,, ,1 Z4,, Z0C,,,!f ,2 Z0o,hu,,,!f ,1 Z8,Zo Za Z7, Z0v Zx Z5,, Z02,,, PW.pt, rw_or,, Z1U, rt_v,";refine Z07 (ms:=[true,true,false]) (by rw [ha];exact (Z1F T)) (hr.mono (by omega)) hx ?_ al3;walk_at ".Z4,, ,0 Z4,, ,1 Z4,, Z0C,,,!f ,2 Z8,Z9 Za Z4t, Z1U, rt_v,";refine Z07 (ms:=[true,true,false]) (by rw [ha];exact (Z2T T)) (hr.mono (by omega)) hx ?_ al3;walk_at ".Z4,, ,0 Z4,, ,1 Z4,, Z8,Z9 Za Z7, Z0v Zx Z7, ZR,";refine Z07 (ms:=[true,true,false]) (by rw [ha];exact (Z1F T)) (hr.mono (by omega)) hx ?_ al3;walk_at ".Z4,, ,0 Z4,, ,1 Z4,, Z0C,,,!f ,2 Z8,Z9 Za"
def Z3R:FnScope ["_law_script","_law_wide","_law_names_here","_law_kinds","_law_circle","_law_m","_law_k"] ["_law_script"] (Z6 s_law):=scM
abbrev Z2R(K:Qa)(A:Adr):SF:=
  (sKill [6] (sIf (bNot (bV (Zh [true,true,false] (Zy K A) (Z0 (Z3 4) (Z0 (Z3 5) (Z0 (eCh (hIx K) (Z0 (Z3 2) (Z0 (Z3 6) Z1))) Z1)))))) sNo ZV))
abbrev Z6P(K:Qa)(A:Adr):SF:=
  (Z0l (eAnd (Zh [true,true,false,false] (Z1n K A) (Z0 (Z3 4) (Z0 (Z3 5) (Z0 (Z3 2) (Z0 (Z3 0) Z1))))) (Zh [true,true,false] (Z0U K A) (Z0 (Z3 4) (Z0 (Z3 5) (Z0 (Z3 2) Z1))))))
abbrev Z51(K:Qa)(A:Adr):SF:=
  (Zc (Z03 (eDict [((eC (.str "kind")),(eCh (hIx K) (Z0 (Z3 3) (Z0 (eNw hNeg (Z0 (eC (.int (1))) Z1)) Z1)))),((eC (.str "stand")),(Z0s (.lst true) Z1)),((eC (.str "joined")),(eC (.int (0))))]) (Zm 5))
  (Zc (Z2D (Z0 (eC (.int (20))) Z1) (Zm 6)
  (Z2R K A))
  (Z6P K A)))
abbrev Z50(K:Qa)(A:Adr):SF:=
  (Zc (Z03 (eNw (hCut false) (Z0 (Zh [false,false] (Z2w K A) (Z0 (eCh (hIx K) (Z0 (Z3 1) (Z0 (eC (.int (1))) Z1))) (Z0 (eC (.int (4))) Z1))) (Z0 (eNw Z0n (Z0 (eC (.int (1))) (Z0 (eNw hMod (Z0 (eNw hDiv (Z0 (Zh [false,false] (Z2q K A) (Z0 (Z3 0) (Z0 (eC (.int (0))) Z1))) (Z0 (eC (.int (2))) Z1))) (Z0 (eC (.int (4))) Z1))) Z1))) Z1))) (Zm 3))
  (Zc (Z03 (eMk A.Zix [false] (Z1h K A) (Z0 (eNw hList (Z0 (Z3 3) Z1)) Z1)) (Zm 4))
  (Z51 K A)))
abbrev Z4Z(K:Qa)(A:Adr):SF:=
  (Zc (Z03 (Zh [false,false] (Z2v K A) (Z0 (eCh (hIx K) (Z0 (Z3 1) (Z0 (eC (.int (0))) Z1))) (Z0 (eC (.int (64))) Z1))) (Zm 2))
  (Z50 K A))
abbrev b_law(K:Qa)(A:Adr):SF:=
  (Zc (Z03 (Zh [false,false,false,false] (Z0H K A) (Z0 (Z3 0) (Z0 (eC (.int (1))) (Z0 (eC (.int (1000000))) (Z0 (eC (.int (2))) Z1))))) (Zm 1))
  (Z4Z K A))
abbrev f_law(K:Qa)(A:Adr):Fn:=Zn 7 [false] (b_law K A)
def ZgM(T:Txt w K mg A):DefX P w K mg base "law" 12 ["_law_script"] (spR (adr A) [false] (f_law K A)):=
 okD (k:=11) T.Zig Z3R rfl (by decide) fun f cdv A' outer s H E R hr hx hE ha=>by
  have hu:=ZG hr;walk_at ".Z5,, Zz,,";refine Z07 (ms:=[false,false,false,false]) (by rw [ha];exact (Z42 T)) (hr.mono (by omega)) hx ?_ al4;walk_at ".Z4,, ,0 Z4,, Z8,Z9 Z4,, Z8,Z9 Z4,, Z8,Z9 Za ;1,Z3R Z5,, Zz,,";refine Z07 (ms:=[false,false]) (by rw [ha];exact (Z8G T)) (hr.mono (by omega)) hx ?_ al2;walk_at ".Z4,, Z0C,,,!f ,1 Z8,Z9 Z4,, Z8,Z9 Za ;2,Z3R Z5,, Zz,, ZdN,,";refine Z07 (ms:=[false,false]) (by rw [ha];exact (Z8H T)) (hr.mono (by omega)) hx ?_ al2;walk_at ".Z4,, Z0C,,,!f ,1 Z8,Z9 Z4,, Z8,Z9 Za Zq,Z0c,, Z8,Z9 Zq,Z0M,, Zq,Z3a,,";refine Z07 (ms:=[false,false]) (by rw [ha];exact (Z4T T)) (hr.mono (by omega)) hx ?_ al2;walk_at ".Z4,, ,0 Z4,, Z8,Z9 Za Z8,Z9 Z8,Z9 ;3,Z3R Z5,, Zz,,";refine rc_mk (ms:=[false]) (by rw [ha];exact (Z5C T)) (hr.mono (by omega)) T.ZiZ ?_ al1;walk_at ".Z4,, rc_ty,Z9W,!r,T.Ziq,boot_list, Z4,, ,3 Za Za ;4,Z3R Z5,, Zz,, ZdP, Z6J,,, Z8,Zo Z0C,,,!f ,3 Zha, Z8,Z9 Z6J,,, Z8,Zo Z2C, Za Z6J,,, Z8,Zo Z8,Z9 Zfr ;5,Z3R Z5,, Z3M,Z0K,rfl,rfl,T.Zis,,, Z8,Z9 ;6,Z3R";refine Z2Y (js:=[6]) (by decide) ?_;walk_at ".Z7, Z02,,, Z1U, rt_v,";refine Z07 (ms:=[true,true,false]) (by rw [ha];exact (Z1F T)) (hr.mono (by omega)) hx ?_ al3;walk_at ".Z4,, ,4 Z4,, ,5 Z4,, Z0C,,,!f ,2 ,6 Za Z7, Z0v Zx Z7, ZR, Z5L,,";refine Z07 (ms:=[true,true,false,false]) (by rw [ha];exact (Z8I T)) (hr.mono (by omega)) hx ?_ al4;walk_at ".Z4,, ,4 Z4,, ,5 Z4,, ,2 Z4,, ,0 Za Z6c,";refine Z07 (ms:=[true,true,false]) (by rw [ha];exact (Z5H T)) (hr.mono (by omega)) hx ?_ al3;walk_at ".Z4,, ,4 Z4,, ,5 Z4,, ,2 Za"
end
end
end Pf
open PySem PySem.Spec PyProof.Rows L2 RM
theorem Pf.cl_str{x:Str}:cl (V.str x)=V.str x:=rfl
local macro_rules | `(tactic| walk_at $s:str)=>do
 let d:=s.getString =="evd"
 if !d && s.getString !="evs" then Lean.Macro.throwUnsupported
 let ls <- ("Zet Zev Zeu seqOf fin popD tryH ini outs ends selF selI Zdb Zdc Zdi Zdj Zdo Zdn Zdp Zdl Zdm ZeD ZeF ZeC ZeE hMin Z0N Zt vals mkV D.imm D.imms NK.mut D.get D.put wr Zgw Zgv Zgu Zct Zcs Zhn Zhj Zhi sub_cn Zhh unh unx Zm tgT tgC tgN takes fills gives apart disj retV Z1L Z33 hole List.foldl_cons List.foldl_nil List.mapIdx_cons List.mapIdx_nil List.zipWith_cons_cons List.zipWith_nil_left List.zipWith_nil_right List.replicate Qj Jw Jm Jq Jo Jy List.length_nil Wh Ni List.getElem?_nil List.set_cons_zero Nk List.getLast?_cons_cons List.getLast?_singleton List.dropLast_cons_cons List.dropLast_singleton Nat.reduceAdd Nat.reduceSub Nat.reduceLT Nat.reduceLeDiff Nat.reduceEqDiff Nat.zero_add Nat.add_zero Nat.sub_self Nat.sub_zero Qu Option.map_none Je.injEq if_true if_false ite_true ite_false Bool.not_true Bool.not_false Bool.and_true Bool.true_and Bool.and_false Bool.false_and Bool.true_or Bool.false_or Bool.or_true Bool.or_false decide_true decide_false decide_not ne_eq not_true not_false_eq_true Nm reduceIte reduceCtorEq and_self and_true true_and false_and and_false bne_self_eq_false Bool.bne_false Bool.bne_true Qx Jf Int.reduceLT Int.reduceLE Int.reduceNeg Int.reduceToNat Int.cast_ofNat_Int Int.natCast_zero Int.natCast_one Int.toNat_natCast Int.reduceEq Int.reducePow Int.reduceAdd Int.reduceMul Int.reduceSub Int.reduceMod Int.reduceDiv Nat.reduceBNe Nat.reduceBEq ixN_0 ixN_1 ixN_2 ixN_3 sz Z0d decide_eq_true_eq V.int.injEq V.str.injEq V.bl.injEq Zew Zbq Zgi ZeG ZeB hMod hDiv hMul hSub Z3G Pf.cl_str Option.isSome_some Option.isSome_none lkD isStrD Zex popGo popI Zey samP1 samP Zdd asSd RM.Z33 Zes augC1 Zgf ZeA Pf.im_ac Pf.im_hs Pf.im_mb Pf.im_sf Pf.im_pr Pf.im_ci Pf.im_m Pf.ob_hs Pf.ob_mb Pf.ob_ci Z4L Pf.Z74 Pf.Z75 Pf.Z4M Pf.Z48 Pf.Z76 Pf.Z73 Pf.Z78 Pf.Z7H Pf.Z6g Pf.Z6h Pf.Z79 Pf.Z6C Pf.Z4N Pf.Z72 Pf.Z77 Pf.Z7C Pf.Z6Y Pf.Z4J Pf.Z4I Pf.Z6Z Pf.Z7D Pf.Z6A Pf.Z59 Pf.Z8B Pf.Z8z Pf.Z7I Pf.Z8A Pf.Z3X Pf.Z7b Pf.Z8x Pf.Z8y Pf.Z7a Pf.Z6D Pf.Z5w Pf.Z7E Pf.Z3I Pf.Z6E Pf.Z5i Pf.Z4K Pf.Z8w Pf.Z70 Pf.Z6f Pf.Z38 Pf.Z7J Pf.Z8E Pf.Z8D Pf.Z6F Pf.Z8C Pf.Zgk Pf.Zgl Pf.Zgm Pf.Z3U Pf.Z30".splitOn " ").toArray.mapM fun s=>`(Lean.Parser.Tactic.simpLemma| $(Lean.mkIdent s.toName):ident)
 let lz <- ("Zg3 ZcY ZcX Zd2 Zbk ZcZ Zd0 Zd4 Zbn Zd3 Zbl ZcV ZcW Zd1 Zbi ZaG Zeo Zbm Zbj Zd8 Zd7 Zd5 Zd6 Zbe ZcS Zej Zg1 ZcQ Zbh Zbg ZcK ZcM Zg2 ZcP ZcJ Zen Zg0 ZcU ZcO Zbc Zem Zei Zbd Zel ZaE Zbb Zek Zbf ZcT ZaF ZcR ZcL ZcN".splitOn " ").toArray.mapM fun s=>if d then `(Lean.Parser.Tactic.simpLemma| $(Lean.mkIdent s.toName):ident) else `(Lean.Parser.Tactic.simpLemma| id $(Lean.mkIdent s.toName))
 `(tactic| simp only [$[$ls:simpLemma],*,$[$lz:simpLemma],*, *])
namespace Pf
open PySem PySem.Spec PyProof.Rows L2 RM
mutual
variable {K:Qa}{A:Adr}
private abbrev aI(i:Int):D:=.at (.int i)
private abbrev aS(x:Str):D:=.at (.str x)
private abbrev aB(b:Bool):D:=.at (.bl b)
private abbrev tD(l:List Str):D:=.nd (.lst true) (l.map aS)
structure Hs where
 nm:Str
 kd:Str
 lo:Int
 hi:Int
 st:Bool
abbrev acD(A:Adr):D:=.nd (.ins true A.Ziw ZaH) [.nd (.dic true []) [],aI 0,aI 0,aI 0,.nd (.lst true) []]
abbrev hsD(A:Adr)(h:Hs):D:=.nd (.ins true A.ZiA Z2h) [aS h.nm,aS h.kd,aI h.lo,aI h.hi,aB h.st,.at .non,.nd (.lst true) [],acD A]
abbrev kyS(h:Hs):Key:=.inr h.nm
abbrev mbD(A:Adr)(hs:List Hs):D:=.nd (.ins true A.ZiB Z1a) [.nd (.dic true (hs.map kyS)) (hs.map (hsD A))]
abbrev sfD(A:Adr)(n:Int):D:=.nd (.ins true A.ZiD Zdg) [aI n,.nd (.lst true) [],.nd (.dit true []) [],.nd (.dic true []) []]
abbrev prD(A:Adr):D:=.nd (.ins true A.ZiC Zbv) [.nd (.dic true []) []]
abbrev ciD(A:Adr)(ks:List Str)(hs:List Hs)(dd:List Str):D:=.nd (.ins true A.Zix Z0z) [tD ks,aI 0,mbD A hs,sfD A ks.length,prD A,.nd (.lst true) [],tD dd]
def im_ac:(acD A).imm=false:=rfl
def im_hs(h:Hs):(hsD A h).imm=false:=rfl
def im_mb(hs:List Hs):(mbD A hs).imm=false:=rfl
def im_sf(n:Int):(sfD A n).imm=false:=rfl
def im_pr:(prD A).imm=false:=rfl
def im_ci(ks:List Str)(hs:List Hs)(dd:List Str):(ciD A ks hs dd).imm=false:=rfl
abbrev mD(kd:Str)(st:List Str)(jn:Int):D:=.nd (.dic true [.inr "kind",.inr "stand",.inr "joined"]) [aS kd,tD st,aI jn]
def im_m(kd:Str)(st:List Str)(jn:Int):(mD kd st jn).imm=false:=rfl
def ob_hs(h:Hs)(n:Str):Zu A.ZiA n (hsD A h)=!Z2h.contains n:=Z4L
def ob_mb(hs:List Hs)(n:Str):Zu A.ZiB n (mbD A hs)=!Z1a.contains n:=Z4L
def ob_ci(ks:List Str)(hs:List Hs)(dd:List Str)(n:Str):Zu A.Zix n (ciD A ks hs dd)=!Z0z.contains n:=Z4L
variable (ks:List Str)(hs:List Hs)(dd:List Str)
def imI(ns:List Int):D.imms (ns.map aI)=true:=Z6B (fun _=>rfl) ns
abbrev atL(ns:List Int)(i:Int):Int:=if 0<=i then (if i < ns.length then ns.getD i.toNat 0 else 0) else 0
def v_at(k:NK)(hk:Scr K k)(ns:List Int)(i:Int)(h0:0<=i):Z2q K A [scD k ns,aI i]=.ok (.val (aI (atL ns i))) [scD k ns,aI i]:=by
 unfold Z2q Z82 atL scD;have him:=imI ns;by_cases h:i < (ns.length:Int)
 .have hj:i.toNat < ns.length:=by omega
  have e1:ns.getD i.toNat 0=ns[i.toNat]:=by rw [List.getD_eq_getElem?_getD,Qk hj];rfl
  have e2:(ns.map aI)[i.toNat]?=some (aI ns[i.toNat]):=by rw [Qc,Qk hj];rfl
  have e3:ixN ns.length i=some i.toNat:=by unfold ixN;rw [if_pos h0,if_pos h]
  rw [e1];clear e1;rcases hk with rfl | rfl <;> walk_at "evs"
 .rcases hk with rfl | rfl <;> walk_at "evs"
def Z10{k:NK}(hk:Scr K k)(ns:List Int):(scD k ns).imm=true:=by
 unfold scD;rcases hk with rfl | rfl <;> simp only [D.imm,NK.mut,imI,Bool.not_false,Bool.true_and]
private abbrev figS(k:NK)(ns:List Int)(i base:Int)(m:Nat)(cell:Int)(xs:List Int)(x6:DL):Sd:=[.own true (scD k ns),.own true (aI i),.own true (aI base),.own true (aI m),.own true (aI cell),.own true (.nd (.lst true) (xs.map aI)),x6,.non,.non,.non,.non,.non]
def ZfH(k:NK)(hk:Scr K k)(ns:List Int)(i base:Int)(m j:Nat)(cell:Int)(xs:List Int)(hb:0 < base)(hb':base < 1073741824)(hx:xs.length < 16777216)(hz:atL ns 0 % 2=0) :
  Z0k K A (figS k ns i base m cell xs (.own true (aI (0 + j))))=.nx (figS k ns i base m (cell / base) (xs++[cell % base]) .non):=by
 have hki:=Z10 hk ns;have hat0:=v_at (A:=A) k hk ns 0 (by omega);unfold Z0k;walk_at "evs";simp only [figS,Wg,Qj,Jw]
def ZfI(k:NK)(hk:Scr K k)(ns:List Int)(i base:Int)(m j:Nat)(cell:Int)(xs:List Int)(hb:0 < base)(hx:xs.length < 16777216)(hz:¬ atL ns 0 % 2=0) :
  ∃ y,Z0k K A (figS k ns i base m cell xs (.own true (aI (0 + j))))=.nx (figS k ns i base m cell (xs++[y % base]) .non):=by
 have hki:=Z10 hk ns;have hat0:=v_at (A:=A) k hk ns 0 (by omega);unfold Z0k;refine ⟨((cell + 31 * (0 + j) + 1) * 48271 % 2147483647 + 7919 * i + (0 + j) + 1) * 69621 % 2147483647,?_⟩;walk_at "evs";simp only [figS,Wg,Qj,Jw]
def ZcA(k:NK)(hk:Scr K k)(ns:List Int)(i base:Int)(m:Nat)(h0:0<=i)(hm:m < 1000)(cell:Int)(xs:List Int)
  (h1:ZZ (itR 0 m) (Zm 6) (Z0k K A) (m + 1) 0 (figS k ns i base m (atL ns i) [] .non)=.nx (figS k ns i base m cell xs .non)) :
  Z0H K A [scD k ns,aI i,aI base,aI m]=.ok (.val (.nd (.lst true) (xs.map aI))) [scD k ns,aI i,aI base,aI m]:=by
 have hki:=Z10 hk ns;have hat:=v_at (A:=A) k hk ns i h0;have hm1:(m:Int) < 4611686018427387904:=by omega
 have hm2:-4611686018427387904<=(m:Int):=by omega
 simp only [figS,Jw] at h1;unfold Z0H Z4e;walk_at "evs"
def Z8t(k:NK)(hk:Scr K k)(ns:List Int)(i base:Int)(m:Nat)(h0:0<=i)(hb:0 < base)(hb':base < 1073741824)(hm:m < 1000):∃ xs:List Int,xs.length=m/\(∀ x∈xs,0<=x/\x < base) /\
  Z0H K A [scD k ns,aI i,aI base,aI m]=.ok (.val (.nd (.lst true) (xs.map aI))) [scD k ns,aI i,aI base,aI m]:=by
 have hmod:∀ y:Int,0<=y % base/\y % base < base:=fun y=>⟨Gu _ (by omega),Gb _ hb⟩
 obtain ⟨s',h1,cell,xs,h2,h3,rfl⟩:=Z2S (lo:=0) (n:=m) (b:=Zm 6) (body:=Z0k K A) (s:=figS k ns i base m (atL ns i) [] .non)
  (fun j s=>∃ (cell:Int) (xs:List Int),xs.length=j/\(∀ x∈xs,0<=x/\x < base)/\s=figS k ns i base m cell xs .non) ⟨atL ns i,[],rfl,by simp,rfl⟩ (by
  rintro j s hj ⟨cell,xs,h1,h2,rfl⟩;by_cases hz:atL ns 0 % 2=0
  .refine ⟨_,_,rfl,.inl (ZfH k hk ns i base m j cell xs hb hb' (by omega) hz),_,_,?_,fun x hx=>?_,rfl⟩
   .rw [Jf,h1];rfl
   rcases Qf.mp hx with hx | hx
   .exact h2 x hx
   .rw [Jj.mp hx];exact hmod _
  .obtain ⟨y,e⟩:=ZfI (A:=A) k hk ns i base m j cell xs hb (by omega) hz
   refine ⟨_,_,rfl,.inl e,_,_,?_,fun x hx=>?_,rfl⟩
   .rw [Jf,h1];rfl
   rcases Qf.mp hx with hx | hx
   .exact h2 x hx
   .rw [Jj.mp hx];exact hmod _)
 exact ⟨xs,h2,h3,ZcA k hk ns i base m h0 hm cell xs h1⟩
def dt_up{n:Nat}{a:D}(h:DtN n a):DtN (n + 1) a:=by
 obtain ⟨d,h1,h2⟩:=h;exact ⟨d,h1,Nat.le_succ_of_le h2⟩
def Z9D{a:D}(h:DtN 3 a):Z26 A [a,a]=.ok (.val (.at (.bl true))) [a,a]:=ZdY h
def imS(l:List Str):D.imms (l.map aS)=true:=Z6B (fun _=>rfl) l
abbrev ao(x y:Str):Bool:=x.cps.toList.all fun c=>decide (c∈y.cps.toList)
abbrev mo(x y:Str)(m:Int):Bool:=decide (1<=(x.length:Int)) && decide ((x.length:Int)<=m) && ao x y
private abbrev lets:Str :="abcdefghijklmnopqrstuvwxyz"
abbrev gd(x:Str):Bool:=mo x lets 12
private abbrev moS(x y:Str)(m:Int)(s3:DL):Sd:=[.own true (aS x),.own true (aS y),.own true (aI m),s3,.non,.non,.non]
def Ze9(x y:Str)(m:Int)(c:Nat)(h:c∈y.cps.toList):Z2x K A (moS x y m (.own true (aS ⟨#[c]⟩)))=.nx (moS x y m .non):=by
 have e:=PySem.StrLaws.found_one y c;rw [decide_eq_true h] at e;unfold Z2x;clear h;walk_at "evd"
def ZcE(x y:Str)(m:Int)(hx:x.length<=16777216)(hm:mo x y m=true):Z37 K A [aS x,aS y,aI m]=.ok (.val (aB true)) [aS x,aS y,aI m]:=by
 unfold mo at hm;rw [Ja,Ja] at hm;have q1:=of_decide_eq_true hm.1.1;have q2:=of_decide_eq_true hm.1.2
 obtain ⟨s',lp,rfl⟩:=Z68 (it:=itS x) (b:=Zm 3) (body:=Z2x K A) (P:=fun _ s=>s=moS x y m .non) (n:=x.cps.size) (fun i s hi h=>by
  subst h;have e:x.cps[i]?=some x.cps[i]:=Array.getElem?_eq_getElem hi
  exact ⟨_,_,_,by unfold itS;rw [e];rfl,rfl,.inl (Ze9 x y m _ (of_decide_eq_true (Gn.mp hm.2 _ (by simp)))),rfl⟩) (fun s h=>by
  unfold itS;rw [Array.getElem?_eq_none (Qq _)];rfl) x.cps.size 0 _ (by omega) rfl
 have h1:¬ (x.length:Int) < 1:=by omega
 have h2:¬ (x.length:Int) > m:=by omega
 clear hm q1 q2;unfold Z37 Z84;simp only [moS] at lp;walk_at "evd"
def ZcB(x:Str)(hx:x.length<=16777216)(hg:gd x=true):Z27 K A [aS x]=.ok (.val (aB true)) [aS x]:=by
 have h:=ZcE (K:=K) (A:=A) x lets 12 hx hg;clear hg;unfold Z27 Z6n;simp only [lets] at h;walk_at "evd"
private abbrev pap:Str :="papercircle"
abbrev nmx(st:Str)(j:Int)(c:Nat):Str:=Txt.slice st none (some j)++(⟨#[c]⟩:Str)++Txt.slice st (some j) none
abbrev sgn(i:Int):Nat:=lets.cps.toList.getD i.toNat 0
def Z6z(i:Int)(h0:0<=i)(h1:i < 26):atI lets.cps.toList i=some (sgn i):=by
 have all:∀ n:Nat,n < 26->atI lets.cps.toList (n:Int)=some (sgn (n:Int)):=by decide +kernel
 have e:((i.toNat:Nat):Int)=i:=by omega
 have:=all i.toNat (by omega)
 rwa [e] at this
def ZK(x y:Str):(x++y).length=x.length + y.length:=Array.size_append
def Z17(c:Nat):(⟨#[c]⟩:Str).length=1:=rfl
private abbrev nsE(K:Qa)(n1:Nat):EF:=(eNw Z0n (Z0 (eNw Z0n (Z0 (eNw (Z2c false) (Z0 (Z3 2) (Z0 (Z3 3) Z1))) (Z0 (eCh (hIx K) (Z0 (Z3 4) (Z0 (eNw hMod (Z0 (eNw Z0n (Z0 (Z3 5) (Z0 (eNw hMul (Z0 (eC (.int (7))) (Z0 (Z3 n1) Z1))) Z1))) (Z0 (eC (.int (26))) Z1))) Z1))) Z1))) (Z0 (eNw (Z2c true) (Z0 (Z3 2) (Z0 (Z3 3) Z1))) Z1)))
private abbrev nsF(cell m:Int)(st:Str)(j sh:Int)(y:DL):Sd:=[.own true (aI cell),.own true (aI m),.own true (aS st),.own true (aI j),.own true (aS lets),.own true (aI sh),.non,.non,y]
def v_nsE(cell m:Int)(st:Str)(j sh k:Int)(h1:st.length<=1000) :
  nsE K 8 (nsF cell m st j sh (.own true (aI k)))=.ok (.val (aS (nmx st j (sgn ((sh + 7 * k) % 26))))) (nsF cell m st j sh (.own true (aI k))):=by
 have e1:=Z6z ((sh + 7 * k) % 26) (by omega) (by omega);have a1:=PyProof.Txt.length_slice_le st none (some j);have a2:=PyProof.Txt.length_slice_le st (some j) none;have b1:(Txt.slice st none (some j)).length + (⟨#[sgn ((sh + 7 * k) % 26)]⟩:Str).length<=16777216:=by rw [Z17];omega
 have b2:(Txt.slice st none (some j)++(⟨#[sgn ((sh + 7 * k) % 26)]⟩:Str)).length + (Txt.slice st (some j) none).length<=16777216:=by rw [ZK,Z17];omega
 have b3:st.length<=16777216:=by omega
 have b4:(lets:Str).length<=16777216:=by decide +kernel
 simp only [nsE,nsF,nmx];generalize hz:(sh + 7 * k) % 26=z at e1 b1 b2 ⊢;clear a1 a2 h1;simp only [lets] at *;walk_at "evd"
def Z7X{x y:Str}(h:x.cps.toList=y.cps.toList):x=y:=by
 cases x;cases y;exact congrArg Str.mk (Array.toList_inj.mp h)
def Z1W(x y:Str):(x++y).cps.toList=x.cps.toList++y.cps.toList:=Array.toList_append
def Z5o(x y z:Str):ao (x++y) z=(ao x z && ao y z):=by unfold ao;rw [Z1W,List.all_append]
abbrev stem(cell:Int):Str:=Txt.slice pap none (some (cell % 12))
abbrev spot(cell:Int):Int:=cell / 12 % ((stem cell).length + 1)
abbrev nmk(cell:Int)(k:Nat):Str:=nmx (stem cell) (spot cell) (sgn ((cell / 156 % 26 + 7 * (k:Int)) % 26))
abbrev nms(cell:Int)(m:Nat):List Str:=(List.range m).map (nmk cell)
abbrev StF(st:Str)(j:Int):Prop:=(Txt.slice st none (some j)).length + (Txt.slice st (some j) none).length<=11/\ao (Txt.slice st none (some j)) lets=true/\ao (Txt.slice st (some j) none) lets=true
noncomputable instance (st:Str) (j:Int):Decidable (StF st j):=by unfold StF;infer_instance
def ZfA:∀ i:Nat,i < 12->∀ j:Nat,j < (Txt.slice pap none (some (i:Int))).length + 1->StF (Txt.slice pap none (some (i:Int))) (j:Int):=by decide +kernel
def Ze1(cell:Int):(stem cell).length<=11:=Jr (PyProof.Txt.length_slice_le pap none _) (by decide +kernel)
def Zat(cell:Int):StF (stem cell) (spot cell):=by
 have e1:(((cell % 12).toNat:Nat):Int)=cell % 12:=by omega
 have b1:0<=spot cell:=Gu _ (by omega);have b2:spot cell < (stem cell).length + 1:=Gb _ (by omega);have e2:(((spot cell).toNat:Nat):Int)=spot cell:=by omega
 have h:=ZfA (cell % 12).toNat (by omega) (spot cell).toNat (by rw [e1];show _ < (stem cell).length + 1;omega);rw [e1,e2] at h;exact h
def Zcg:∀ n:Nat,n < 26->ao ⟨#[sgn (n:Int)]⟩ lets=true:=by decide +kernel
def Zar:∀ n:Nat,n < 26->∀ m:Nat,m < 26->sgn (n:Int)=sgn (m:Int)->n=m:=by decide +kernel
def Zaj(cell:Int)(k:Nat):(nmk cell k).length<=12:=by
 have h:=(Zat cell).1;unfold nmk nmx;rw [ZK,ZK,Z17];omega
def ZgK(cell:Int)(k:Nat):gd (nmk cell k)=true:=by
 have h:=Zat cell;have e:(((cell / 156 % 26 + 7 * (k:Int)) % 26).toNat:Int)=(cell / 156 % 26 + 7 * (k:Int)) % 26:=by omega
 have h2:=Zcg ((cell / 156 % 26 + 7 * (k:Int)) % 26).toNat (by omega);rw [e] at h2;have l1:=Zaj cell k;have l2:1<=((nmk cell k).length:Int):=by unfold nmk nmx;rw [ZK,ZK,Z17];omega
 unfold gd mo;rw [decide_eq_true l2,decide_eq_true (show ((nmk cell k).length:Int)<=12 by omega)];unfold nmk nmx;rw [Z5o,Z5o,h.2.1,h.2.2,h2];rfl
def ZeX(cell:Int)(k m:Nat)(hk:k < 9)(hm:m < 9)(h:nmk cell k=nmk cell m):k=m:=by
 unfold nmk nmx at h;have h1:=congrArg (fun x:Str=>x.cps.toList) h;simp only [Z1W] at h1;have h2:=List.append_cancel_left (List.append_cancel_right h1);have h3:sgn ((cell / 156 % 26 + 7 * (k:Int)) % 26)=sgn ((cell / 156 % 26 + 7 * (m:Int)) % 26):=by simpa using h2
 have e:(((cell / 156 % 26 + 7 * (k:Int)) % 26).toNat:Int)=(cell / 156 % 26 + 7 * (k:Int)) % 26:=by omega
 have e':(((cell / 156 % 26 + 7 * (m:Int)) % 26).toNat:Int)=(cell / 156 % 26 + 7 * (m:Int)) % 26:=by omega
 have h4:=Zar ((cell / 156 % 26 + 7 * (k:Int)) % 26).toNat (by omega) ((cell / 156 % 26 + 7 * (m:Int)) % 26).toNat (by omega) (by rw [e,e'];exact h3);omega
def Zak(cell:Int)(m:Nat):(nms cell m).length=m:=by simp [nms]
def ZeY{cell:Int}{m:Nat}{x:Str}(h:x∈nms cell m):gd x=true/\x.length<=12:=by
 unfold nms at h;obtain ⟨k,_,rfl⟩:=Wa.mp h;exact ⟨ZgK _ _,Zaj _ _⟩
def ZbP(cell:Int)(m:Nat)(hm:m<=9):(nms cell m).Nodup:=by
 unfold nms;refine List.Pairwise.map _ (R:=fun a b=>a < 9/\b < 9/\a≠b) (fun a b h e=>h.2.2 (ZeX cell a b h.1 h.2.1 e)) ?_;have h:(List.range m).Pairwise (fun a b=>a < b):=List.pairwise_lt_range;refine List.Pairwise.imp_of_mem (fun {a b} ha hb hl=>?_) h;rw [Qaa] at ha hb;exact ⟨by omega,by omega,by omega⟩
abbrev Nw(y:DL):Prop:=y=.non\/∃ n:Int,y=.own true (aI n)
def Nw.u{y:DL}(h:Nw y)(j:Nat):Z0j j y=y:=by rcases h with rfl | ⟨n,rfl⟩ <;> rfl
def v_names(cell:Int)(m:Nat)(hm:m<=9):Z2w K A [aI cell,aI m]=.ok (.val (tD (nms cell m))) [aI cell,aI m]:=by
 have hs:=Ze1 cell
 obtain ⟨acc,s',h1,y,hy,rfl,rfl⟩:=Z7z (it:=itR 0 m) (n:=8) (c:=bYes) (e:=nsE K 8) (N:=m)
  (P:=fun j acc s=>∃ y,Nw y/\acc=(nms cell j).map aS/\s=nsF cell m (stem cell) (spot cell) (cell / 156 % 26) y)
  (by
   rintro j acc s hj ⟨y,hy,rfl,rfl⟩;have st:=v_nsE (K:=K) cell m (stem cell) (spot cell) (cell / 156 % 26) (0 + (j:Int)) (by omega);refine ⟨.val (aI (0 + j)),nsF cell m (stem cell) (spot cell) (cell / 156 % 26) (.own true (aI (0 + j))),?_,?_,.inl ⟨_,_,_,rfl,st,?_,_,.inr ⟨_,rfl⟩,?_,rfl⟩⟩
   .unfold itR;rw [if_pos hj]
   .simp only [Zm,nsF,Qj,Jw,Zct,Zcs,hy.u,Nk,List.set_cons_zero]
   .rw [Qx,sz,Zak];omega
   .unfold nms
    rw [List.range_succ,Wg,Wg];simp only [Qj,Jw,nmk,Int.zero_add])
  (by
   rintro acc s ⟨y,hy,rfl,rfl⟩;unfold itR;rw [if_neg (Jv _)])
  m 0 [] (nsF cell m (stem cell) (spot cell) (cell / 156 % 26) .non) (by omega) ⟨.non,.inl rfl,rfl,rfl⟩
 have b1:(m:Int) < 4611686018427387904:=by omega
 have b2:-4611686018427387904<=(m:Int):=by omega
 have b3:(pap:Str).length<=16777216:=by decide +kernel
 have b4:(stem cell).length<=16777216:=by omega
 have b5:0 < ((stem cell).length:Int) + 1:=by omega
 have uy:=hy.u;simp only [nsF] at h1;clear hm hy hs;have ht:Z45 K A=Z0l (Z3w (Z3 1) (fun _=>bYes) (nsE K)):=rfl;generalize he:nsE K=g at h1 ht;clear he;have s1:Txt.slice pap none (some (cell % 12))=stem cell:=rfl;have s2:cell / 12 % ((stem cell).length + 1)=spot cell:=rfl;unfold Z2w Z5r;simp only [pap,lets] at *;walk_at "evs"
private abbrev nD(l:List Int):D:=.nd (.lst true) (l.map aI)
abbrev OkC(x:Str):Prop:=∀ c∈x.cps.toList,c < 16 ^ 8
noncomputable instance (x:Str):Decidable (OkC x):=by unfold OkC;infer_instance
abbrev OkT(x:Str):Prop:=x.length<=100/\OkC x
noncomputable instance (x:Str):Decidable (OkT x):=by unfold OkT;infer_instance
def ZdE:OkC lets:=by decide +kernel
def Z9c{x:Str}(h:gd x=true):OkT x:=by
 unfold gd mo at h;rw [Ja,Ja] at h;have h1:=of_decide_eq_true h.1.2;refine ⟨by omega,fun c hc=>ZdE c ?_⟩;have:=Gn.mp h.2 c hc;exact of_decide_eq_true this
def Zcu:Z1Q K A [.nd (.ins true A.Ziw []) []]=.ok (.val (.at .non)) [acD A]:=
 have c:CS 1 fun o=>[.bor 1 [],.own true o]:=⟨fun _=>rfl,fun _=>rfl,fun _ _=>rfl⟩
 Z4s (b:=Z35 K A) (Z0p (Z00 c rfl) <| Z0p (Z00 c rfl) <| Z0p (Z00 c rfl) <| Z0p (Z00 c rfl) <| Z00 c rfl) rfl
def ZfJ(h:Hs)(hst:h.st=true):Z2g K A [.nd (.ins true A.ZiA []) [],aS h.nm,aS h.kd,aI h.lo,aI h.hi]=.ok (.val (.at .non)) [hsD A h,aS h.nm,aS h.kd,aI h.lo,aI h.hi]:=by
 have c:CS 5 fun o=>[.bor 5 [],.own true (aS h.nm),.own true (aS h.kd),.own true (aI h.lo),.own true (aI h.hi),.own true o,.non,.non,.non,.non]:=⟨fun _=>rfl,fun _=>rfl,fun _ _=>rfl⟩;refine Z4s (b:=Z3B K A) (Z0p (Z00 c rfl) <| Z0p (Z00 c rfl) <| Z0p (Z00 c rfl) <| Z0p (Z00 c rfl) <| Z0p (Z00 c rfl) <| Z0p (Z00 c rfl) <| Z0p (Z00 c rfl) <| Z00 c (Z9b Zcu)) ?_
 delta hsD;rw [hst];rfl
def v_mb0:Z21 K A [.nd (.ins true A.ZiB []) []]=.ok (.val (.at .non)) [mbD A []]:=
 have c:CS 1 fun o=>[.bor 1 [],.own true o]:=⟨fun _=>rfl,fun _=>rfl,fun _ _=>rfl⟩
 Z4s (b:=Z3l K A) (Z00 c rfl) rfl
def v_sf0(n:Int):Z1v K A [.nd (.ins true A.ZiD []) [],aI n]=.ok (.val (.at .non)) [sfD A n,aI n]:=
 have c:CS 2 fun o=>[.bor 2 [],.own true (aI n),.own true o,.non]:=⟨fun _=>rfl,fun _=>rfl,fun _ _=>rfl⟩
 Z4s (b:=Z3D K A) (Z0p (Z00 c rfl) <| Z0p (Z00 c rfl) <| Z0p (Z00 c rfl) <| Z00 c rfl) rfl
def v_pr0:Z22 K A [.nd (.ins true A.ZiC []) []]=.ok (.val (.at .non)) [prD A]:=
 have c:CS 1 fun o=>[.bor 1 [],.own true o]:=⟨fun _=>rfl,fun _=>rfl,fun _ _=>rfl⟩
 Z4s (b:=Z3m K A) (Z00 c rfl) rfl
def Z7y:∀ l:List Str,Z12 (l.map aS)=some (l.map V.str)
 | []=>rfl
 | x::l=>by rw [Qj,Z12,if_pos (by rfl),Z7y l];rfl
def eqV_S(x y:Str):eqV (.str y) (.str x)=(y == x):=rfl
def inV_S(x:Str)(l:List Str):inV (.str x) (l.map V.str)=decide (x∈l):=by
 unfold inV;rw [List.any_map,Nz,List.any_eq_true,decide_eq_true_eq];constructor
 .rintro ⟨y,hy,e⟩
  have:y=x:=by simpa [eqV_S] using e
  exact this ▸ hy
 .exact fun h=>⟨x,h,by simp [eqV_S]⟩
def cnt_S(x:Str):∀ l:List Str,l.Nodup->(l.map V.str).countP (fun y=>eqV y (V.str x))<=1
 | [],_=>by simp
 | y::l,h=>by
  obtain ⟨h1,h2⟩:=Jx.mp h;rw [Qj,List.countP_cons,eqV_S];by_cases e:y=x
  .subst e
   have:(l.map V.str).countP (fun z=>eqV z (V.str y))=0:=by
    rw [List.countP_eq_zero];intro z hz;obtain ⟨u,hu,rfl⟩:=Wa.mp hz;rw [eqV_S];intro q
    have:u=y:=by simpa using q
    exact h1 (this ▸ hu)
   rw [this];split <;> omega
  .have:=cnt_S x l h2
   rw [if_neg (by simpa using e)];exact this
def v_ck(ks:List Str)(h1:1<=ks.length)(h4:ks.length<=4)(hd:ks.Nodup)(hk:∀ x∈ks,gd x=true/\x.length<=12):Z1E K A [tD ks]=.ok (.val (.at .non)) [tD ks]:=by
 obtain ⟨s',lp,rfl⟩:=Zdz (t:=false) (n:=3) (k:=2) (p:=[]) (l:=ks.map aS) (kd:=.lst true) (b:=Zm 1) (body:=Z2i K A) (s:=[.bor 2 [],.non,.own false (tD ks),.bor 2 []]) (.inl ⟨rfl,true,rfl⟩)
  (fun i s=>s=[.bor 2 [],.non,.own false (tD ks),.bor 2 []]) rfl (by rintro i s rfl;exact ⟨rfl,rfl⟩) (by
  rintro i s c hc rfl;rw [Qc] at hc
  cases eb:ks[i]? with
  | none=>rw [eb] at hc;cases hc
  | some b=>
   rw [eb] at hc;cases hc;obtain ⟨g1,g2⟩:=hk b (Qg eb);have g3:=ZcB (K:=K) (A:=A) b (by omega) g1;have g4:=cnt_S b ks hd;have g5:¬ (((ks.map V.str).countP (fun y=>eqV y (V.str b)):Nat):Int) > 1:=by omega
   have g6:=Z7y ks;refine ⟨_,_,rfl,.inl ?_,rfl⟩;clear hk hd eb g1 g2 g4 h1 h4;unfold Z2i;walk_at "evd")
 simp only [Qx] at lp;have q1:¬ (ks.length:Int) < 1:=by omega
 have q2:¬ (ks.length:Int) > 4:=by omega
 clear hk hd h1 h4;unfold Z1E Z58;walk_at "evd"
def Ze7(ks:List Str)(h1:1<=ks.length)(h4:ks.length<=4)(hd:ks.Nodup)(hk:∀ x∈ks,gd x=true/\x.length<=12):Z1h K A [.nd (.ins true A.Zix []) [],tD ks]=.ok (.val (.at .non)) [ciD A ks [] [],tD ks]:=by
 have a1:=v_ck (K:=K) (A:=A) ks h1 h4 hd hk;have a8:=imS ks;have c:CS 2 fun o=>[.bor 2 [],.bor 3 [],.own true o,.own false (tD ks)]:=⟨fun _=>rfl,fun _=>rfl,fun _ _=>rfl⟩
 have h0:sE (Zh [false] (Z1E K A) (Z0 (Z3 1) Z1)) [.bor 2 [],.bor 3 [],.own true (.nd (.ins true A.Zix []) []),.own false (tD ks)]=.nx [.bor 2 [],.bor 3 [],.own true (.nd (.ins true A.Zix []) []),.own false (tD ks)]:=by
  clear h1 h4 hd hk c;walk_at "evd"
 have h2:∀ o,eNw hList (Z0 (Z3 1) Z1) [.bor 2 [],.bor 3 [],.own true o,.own false (tD ks)]=.ok (.val (tD ks)) [.bor 2 [],.bor 3 [],.own true o,.own false (tD ks)]:=by
  intro o;clear h1 h4 hd hk a1 c h0;walk_at "evd"
 have h3:∀ o,eMk A.ZiD [false] (Z1v K A) (Z0 (eNw (hLen K) (Z0 (Z3 1) Z1)) Z1) [.bor 2 [],.bor 3 [],.own true o,.own false (tD ks)]=.ok (.val (sfD A ks.length)) [.bor 2 [],.bor 3 [],.own true o,.own false (tD ks)]:=by
  intro o;clear h1 h4 hd hk a1 c h0 h2;have:=v_sf0 (K:=K) (A:=A) ks.length;walk_at "evd"
 exact Z4s (b:=Z3j K A) (Z0p h0 <| Z0p (Z00 c (h2 _)) <| Z0p (Z00 c rfl) <| Z0p (Z00 c (Z9b v_mb0)) <| Z0p (Z00 c (h3 _)) <| Z0p (Z00 c (Z9b v_pr0)) <| Z0p (Z00 c rfl) <| Z00 c rfl) rfl
abbrev pos(hs:List Hs)(x:Str):Option Nat:=idk (Sum.inr x:Key) (hs.map kyS)
def pos_none{hs:List Hs}{x:Str}(h:pos hs x=none):x∉hs.map Hs.nm:=by
 intro hm;obtain ⟨y,hy,rfl⟩:=Wa.mp hm;unfold pos idk at h;have:=Qai.mp h (kyS y) (Wa.mpr ⟨y,hy,rfl⟩);simp [kyS] at this
def Z9k{hs:List Hs}{x:Str}{j:Nat}(h:pos hs x=some j):∃ y,hs[j]?=some y/\y.nm=x:=by
 unfold pos idk at h;obtain ⟨h1,h2,_⟩:=Wi.mp h;rw [Qx] at h1;refine ⟨hs[j],Qk h1,?_⟩;have h3:=of_decide_eq_true h2;rw [List.getElem_map] at h3;exact Sum.inr.inj h3
def ZdS{x:Str}(h:OkT x):hReprS [.at (.str x)]=some (.at (.str (reprText x))):=by
 show (if x.length<=1000/\∀ c∈x.cps.toList,c < 16 ^ 8 then some (D.at (V.str (reprText x))) else none)=_;rw [if_pos ⟨by have:=h.1;omega,h.2⟩]
def Zcw(hs:List Hs)(w:Str)(ho:OkT w)(hg:gd w=true)(hj:pos hs w=none):Z0L K A [mbD A hs,aS w]=.ok (.val (.at .non)) [mbD A hs,aS w]:=by
 have g:=ZcB (K:=K) (A:=A) w (by have:=ho.1;omega) hg;clear ho hg;unfold pos at hj;unfold Z0L Z36;simp only [mbD];walk_at "evd"
end
mutual
abbrev Fs(s:Sd):List EF->List Str->Prop
 | [],[]=>True
 | f::fs,y::ys=>f s=.ok (.val (aS y)) s/\y.length<=200/\Fs s fs ys
 | _,_=>False
def Z4j{s:Sd}:∀ (fs:List EF) (ys:List Str) (acc:Str),Fs s fs ys->acc.length + 200 * ys.length<=16777216->∃ z,z.length<=acc.length + 200 * ys.length/\Z0W fs acc s=.ok (.val (aS z)) s
 | [],[],acc,_,h=>⟨acc,by simp,by unfold Z0W;rw [sz,if_pos (by simpa using h)]⟩
 | f::fs,y::ys,acc,⟨h1,h2,h3⟩,h=>by
  rw [Jy] at h;have e:(acc++y).length=acc.length + y.length:=ZK _ _;obtain ⟨z,hz,q⟩:=Z4j fs ys (acc++y) h3 (by omega);refine ⟨z,by rw [Jy];omega,?_⟩;unfold Z0W;rw [h1];dsimp only;rw [sz,if_pos (by omega),q]
 | [],_::_,_,h,_=>h.elim
 | _::_,[],_,h,_=>h.elim
def fmtS{s:Sd}{j:Nat}{x:Str}(h:s[j]?=some (.own true (aS x)))(hx:x.length<=16777216):eNw Z0Y (Z0 (Z3 j) Z1) s=.ok (.val (aS x)) s:=by
 walk_at "evd"
def fmtI{s:Sd}{j:Nat}{i:Int}(h:s[j]?=some (.own true (aI i)))(hx:i.natAbs.log2 < 1920):eNw Z0Y (Z0 (Z3 j) Z1) s=.ok (.val (aS (toString i))) s:=by
 walk_at "evd"
abbrev Sm(i:Int):Prop:=-2<=i/\i<=20
def Sm.log{i:Int}(h:Sm i):i.natAbs.log2 < 1920:=Zf0 (by have:=h.1;have:=h.2;omega)
def Sm.len{i:Int}(h:Sm i):(Str.ofString (toString i)).length<=200:=Jr (ZeZ (by have:=h.1;have:=h.2;omega)) (by decide)
def Zcy(kd:Str)(lo hi:Int)(hk:kd∈ks)(hb:¬ (lo < 1\/lo > hi\/hi > 8)):Z0E K A [ciD A ks hs dd,aS kd,aI lo,aI hi]=.ok (.val (.at .non)) [ciD A ks hs dd,aS kd,aI lo,aI hi]:=by
 have a1:=Z7y ks;have a2:=inV_S kd ks;rw [decide_eq_true hk] at a2;have q1:¬ lo < 1:=by omega
 have q2:¬ hi < lo:=by omega
 have q3:¬ hi > 8:=by omega
 clear hk hb;unfold Z0E Z2J;simp only [ciD];walk_at "evd"
def Zgh(h:Hs):fldD A.ZiA "stands" (hsD A h)=some (aB h.st):=by
 simp only [hsD,fldD,Z3X,if_true,Ni,Wh]
def Zgg(h:Hs):fldD A.ZiA "name" (hsD A h)=some (aS h.nm):=by
 simp only [hsD,fldD,Z59,if_true,Ni,Wh]
def st_bs:∀ hs:List Hs,stBs A.ZiA "stands" (hs.map (hsD A))=some (hs.map Hs.st)
 | []=>rfl
 | h::hs=>by rw [Qj,stBs,Zgh,st_bs hs];rfl
def st_mb(hs:List Hs):stOf A.ZiB A.ZiA "joined" "stands" (mbD A hs)=some (hs.map (hsD A),hs.map Hs.st):=by
 have e:fldD A.ZiB "joined" (mbD A hs)=some (.nd (.dic true (hs.map kyS)) (hs.map (hsD A))):=by
  simp only [mbD,fldD,Z3I,if_true,Wh]
 unfold stOf;rw [e];dsimp only;rw [st_bs]
def Zcv(hl:dd.length < 400):Z0D K A [ciD A ks hs dd]=.ok (.val (.at .non)) [ciD A ks hs dd]:=by
 have q1:¬ (dd.length:Int)≥400:=by omega
 clear hl;unfold Z0D Z2I;simp only [ciD] at *;walk_at "evd"
def v_add(hs:List Hs)(h:Hs)(hst:h.st=true)(hl:hs.length<=60)(hp:pos hs h.nm=none):Z2u K A [mbD A hs,aS h.nm,aS h.kd,aI h.lo,aI h.hi]=.ok (.val (aI (hs.length + 1))) [mbD A (hs++[h]),aS h.nm,aS h.kd,aI h.lo,aI h.hi]:=by
 have q1:hs.length < 16777216:=by omega
 have a1:=ZfJ (K:=K) (A:=A) h hst;have e:hs.map kyS++[Sum.inr h.nm]=(hs++[h]).map kyS:=by simp [kyS]
 have e2:hs.map (hsD A)++[hsD A h]=(hs++[h]).map (hsD A):=by simp
 unfold pos at hp;clear hl hst;unfold Z2u Z5p;simp only [mbD] at *;walk_at "evd";rfl
private abbrev joF(A:Adr)(ks:List Str)(hs:List Hs)(dd:List Str)(h:Hs):Sd:=[.bor 5 [],.own true (aS h.nm),.own true (aS h.kd),.own true (aI h.lo),.own true (aI h.hi),.own true (ciD A ks hs dd),.non,.non,.non,.non]
def Zhr(h:Hs)(hst:h.st=true)(hl:hs.length<=60)(hp:pos hs h.nm=none):Z2o K A (joF A ks hs dd h)=.rt (.val (aI (hs.length + 1))) (joF A ks (hs++[h]) dd h):=by
 have a:=v_add (K:=K) (A:=A) hs h hst hl hp;clear hst hl hp;unfold Z2o;simp only [joF,ciD] at *;walk_at "evd"
def Zhq(h:Hs)(hst:h.st=true)(hl:hs.length<=60)(hp:pos hs h.nm=none)(hd:dd.length < 400)(o1:OkT h.nm)(o2:OkT h.kd)(o3:Sm h.lo)(o4:Sm h.hi) :
  ∃ row,Z2n K A (joF A ks hs dd h)=.rt (.val (aI (hs.length + 1))) (joF A ks (hs++[h]) (dd++[row]) h):=by
 obtain ⟨z,_,j⟩:=Z4j (s:=joF A ks hs dd h++[.bor 5 []]) [eC (.str "join "),eNw Z0Y (Z0 (Z3 1) Z1),eC (.str " "),eNw Z0Y (Z0 (Z3 2) Z1),eC (.str " "),eNw Z0Y (Z0 (Z3 3) Z1),eC (.str " "),eNw Z0Y (Z0 (Z3 4) Z1)] ["join ",h.nm," ",h.kd," ",toString h.lo," ",toString h.hi] Str.empty
  ⟨rfl,by decide +kernel,fmtS rfl (by have:=o1.1;omega),by have:=o1.1;omega,rfl,by decide +kernel,fmtS rfl (by have:=o2.1;omega),by have:=o2.1;omega,rfl,by decide +kernel,fmtI rfl o3.log,o3.len,rfl,by decide +kernel,fmtI rfl o4.log,o4.len,trivial⟩ (show Str.empty.length + 200 * 8<=16777216 by decide +kernel)
 refine ⟨z,?_⟩;have t:=Zhr (K:=K) (A:=A) ks hs (dd++[z]) h hst hl hp;have q1:dd.length < 16777216:=by omega
 have e:dd.map aS++[aS z]=(dd++[z]).map aS:=by simp
 clear hst hl hp hd o1 o2 o3 o4;unfold Z2n;simp only [joF,ciD,Jm,Jq] at *;walk_at "evd"
def jo_1(h:Hs)(r:SR)(a:Z0L K A [mbD A hs,aS h.nm]=.ok (.val (.at .non)) [mbD A hs,aS h.nm])(t:Z1y K A (joF A ks hs dd h)=r) :
  Z1B K A (joF A ks hs dd h)=r:=by
 unfold Z1B;simp only [joF,ciD] at *;walk_at "evd"
def jo_2(h:Hs)(r:SR)(a:Z0E K A [ciD A ks hs dd,aS h.kd,aI h.lo,aI h.hi]=.ok (.val (.at .non)) [ciD A ks hs dd,aS h.kd,aI h.lo,aI h.hi])(t:Z0I K A (joF A ks hs dd h)=r) :
  Z1y K A (joF A ks hs dd h)=r:=by
 unfold Z1y;simp only [joF] at *;walk_at "evd"
structure HsOk(h:Hs):Prop where
 st:h.st=true
 o1:OkT h.nm
 o2:OkT h.kd
 o3:Sm h.lo
 o4:Sm h.hi
def Zhd(h:Hs)(C:Str)(t:Z1B K A (joF A ks hs dd h)=.ex C (joF A ks hs dd h)) :
  Z04 K A [ciD A ks hs dd,aS h.nm,aS h.kd,aI h.lo,aI h.hi]=.ex C [ciD A ks hs dd,aS h.nm,aS h.kd,aI h.lo,aI h.hi]:=by
 unfold Z04;simp only [joF] at *;walk_at "evd"
def Zhf(ks:List Str)(hs hs':List Hs)(dd dd':List Str)(h:Hs)(v:D)(t:Z1B K A (joF A ks hs dd h)=.rt (.val v) (joF A ks hs' dd' h)) :
  Z04 K A [ciD A ks hs dd,aS h.nm,aS h.kd,aI h.lo,aI h.hi]=.ok (.val v) [ciD A ks hs' dd',aS h.nm,aS h.kd,aI h.lo,aI h.hi]:=by
 unfold Z04;simp only [joF] at *;walk_at "evd"
def Zhu(hs:List Hs)(x:Str)(j:Nat)(h:Hs)(hp:pos hs x=some j)(hj:hs[j]?=some h):Z0G K A [mbD A hs,aS x]=.ok (.arg 0 [0,j]) [mbD A hs,aS x]:=by
 have e:(hs.map (hsD A))[j]?=some (hsD A h):=by rw [Qc,hj];rfl
 clear hj;unfold pos at hp;unfold Z0G Z2N;simp only [mbD] at *;walk_at "evd"
def ZbO:∀ hs:List Hs,nmD A.ZiA "name" (Z0e (hs.map Hs.st) (hs.map (hsD A)))=some ((hs.filter Hs.st).map Hs.nm)
 | []=>rfl
 | h::hs=>by
  have ih:=ZbO hs
  cases e:h.st with
  | true=>
   rw [Qj,Qj,Nx,e,if_pos rfl,Z0e,if_pos rfl,nmD,Zgg,ih];rfl
  | false=>
   rw [Qj,Qj,Nx,e,if_neg (by decide),Z0e,if_neg (by decide),ih]
abbrev std(hs:List Hs):List Str:=(hs.filter Hs.st).map Hs.nm
def Z6R(hl:hs.length<=60):Z0a K A [ciD A ks hs dd]=.ok (.val (tD (std hs))) [ciD A ks hs dd]:=by
 have e:hNm A.ZiB A.ZiA "joined" "stands" "standing" "name" [mbD A hs]=some (tD (std hs)):=by
  unfold hNm;simp only [st_mb,ob_mb,Z38,Bool.not_false,ZbO,if_true];rw [if_pos (by rw [Qx];omega)];rfl
 clear hl;unfold Z0a Z3W;simp only [ciD] at *;walk_at "evd"
def Zck:∀ l:List Str,strsD (l.map aS)=some l
 | []=>rfl
 | x::l=>by rw [Qj,strsD,Zck l]
def Z67{n j:Nat}(h:j < n):ixN n (j:Int)=some j:=by
 unfold ixN;rw [if_pos (by omega),if_pos (by omega)];simp
def Z8X(c:Nat):∀ (l l' r r':List Nat),c∉l->c∉l'->l++c::r=l'++c::r'->l=l'/\r=r'
 | [],[],r,r',_,_,h=>by simpa using h
 | [],x::l',r,r',_,h',h=>by
  simp only [Jq,Jm,Js.injEq] at h;exact absurd (h.1 ▸ Qs) h'
 | x::l,[],r,r',h',_,h=>by
  simp only [Jq,Jm,Js.injEq] at h;exact absurd (h.1 ▸ Qs) h'
 | x::l,y::l',r,r',h1,h2,h=>by
  simp only [Jm,Js.injEq] at h;obtain ⟨e1,e2⟩:=Z8X c l l' r r' (fun z=>h1 (Qt _ z)) (fun z=>h2 (Qt _ z)) h.2;exact ⟨by rw [h.1,e1],e2⟩
abbrev jl(c:Nat):List Str->List Nat
 | []=>[]
 | [x]=>x.cps.toList
 | x::y::r=>x.cps.toList++c::jl c (y::r)
def Z7K(c:Nat):∀ ps:List Str,(Str.join ⟨#[c]⟩ ps).cps.toList=jl c ps
 | []=>rfl
 | [x]=>rfl
 | x::y::r=>by
  show (x++(⟨#[c]⟩:Str)++Str.join ⟨#[c]⟩ (y::r)).cps.toList=_;rw [Z1W,Z1W,Z7K c (y::r),jl,Qn];rfl
def Zac(c:Nat):∀ (ps qs:List Str),ps≠[]->qs≠[]->(∀ p∈ps,c∉p.cps.toList)->(∀ q∈qs,c∉q.cps.toList)->jl c ps=jl c qs->ps=qs
 | [],_,h,_,_,_,_=>absurd rfl h
 | _,[],_,h,_,_,_=>absurd rfl h
 | [x],[y],_,_,_,_,h=>by rw [Z7X h]
 | [x],y::z::r,_,_,h,_,e=>by
  simp only [jl] at e;exact absurd (e ▸ Qe _ Qs) (h x Qs)
 | y::z::r,[x],_,_,_,h,e=>by
  simp only [jl] at e;exact absurd (e ▸ Qe _ Qs) (h x Qs)
 | x::y::r,x'::y'::r',_,_,h,h',e=>by
  simp only [jl] at e;obtain ⟨e1,e2⟩:=Z8X c _ _ _ _ (h x Qs) (h' x' Qs) e;rw [Z7X e1,Zac c (y::r) (y'::r') (by simp) (by simp) (fun p z=>h p (Qt _ z)) (fun p z=>h' p (Qt _ z)) e2]
def ZdZ(x y:Str):Txt.split x y≠[]:=by
 unfold Txt.split
 split
 .simp
 .split
  .simp
  .unfold Builtin.Str.partsBetween
   intro h;have h2:=congrArg List.length h;simp at h2
def Ze0(ws:List Str)(h0:ws≠[])(h:∀ w∈ws,32∉w.cps.toList):Txt.split (Str.join " " ws) " "=ws:=by
 have e:(" ":Str)=⟨#[32]⟩:=by decide +kernel
 rw [e];refine Zac 32 _ _ (ZdZ _ _) h0 (PySem.StrLaws.split_free _ 32) h ?_;rw [<- Z7K,PySem.StrLaws.join_split,Z7K]
def gd_32{x:Str}(h:gd x=true):32∉x.cps.toList:=by
 unfold gd mo at h;rw [Ja,Ja] at h;intro z;have h2:=of_decide_eq_true (Gn.mp h.2 32 z);revert h2
 decide +kernel
structure Fig(x:Str)(n:Int):Prop where
 mo:mo x "0123456789" 9=true
 one:x.length=1
 int:intText? x=some n
 ne:¬ x=("":Str)
def fig1:Fig "1" 1:=⟨by decide +kernel,by decide +kernel,by decide +kernel,by decide +kernel⟩
def Zea(x:Str)(n:Int)(h:Fig x n):Z31 K A [aS x]=.ok (.val (aI n)) [aS x]:=by
 have a:=ZcE (K:=K) (A:=A) x "0123456789" 9 (by rw [h.one];omega) h.mo;have l:=h.one;have i:=h.int;clear h;unfold Z31 Z6o;walk_at "evd"
def Z9B(x:Str)(n:Int)(h:Fig x n):Z0m K A [aS "n",aS x]=.ok (.val (aI n)) [aS "n",aS x]:=by
 have a:=Zea (K:=K) (A:=A) x n h;have e:=h.ne;have e2:¬ ("n":Str)=("w":Str):=by decide
 clear h;unfold Z0m Z5t Z62;walk_at "evd"
def Z9C(x:Str)(e:¬ x=("":Str)):Z0m K A [aS "w",aS x]=.ok (.val (aS x)) [aS "w",aS x]:=by
 unfold Z0m Z5t;walk_at "evd"
private abbrev zpF(form:Str)(ws:List Str)(s5 s6:DL):Sd:=[.own true (aS form),.bor 3 [],.non,.own false (tD ws),.bor 3 [],s5,s6]
abbrev At1(y:DL):Prop:=y=.non\/∃ x:Str,y=.own true (aS x)
def ZhE(form:Str)(ws:List Str)(s5 s6:DL)(i c:Nat)(w:Str)(h1:form.cps[i]?=some c)(h2:ws[i]?=some w):itZ form 4 3 [] i (zpF form ws s5 s6)=some (some (.val (.nd .tup [aS ⟨#[c]⟩,aS w]))):=by
 have e:itP false 4 3 [] i (zpF form ws s5 s6)=some ((ws.map aS)[i]?.map (mkV 3 [i])):=rfl;unfold itZ;rw [h1,e,Qc,h2];rfl
def ZfU(form:Str)(ws:List Str)(s5 s6:DL):itZ form 4 3 [] form.cps.size (zpF form ws s5 s6)=some none:=by
 unfold itZ;rw [show form.cps[form.cps.size]?=none from by simp]
def ZcH(form:Str)(ws:List Str)(ds:List D)(h1:form.cps.size=ws.length)(h2:ds.length=ws.length)(h6:ws.length<=9)(hd:∀ (i c:Nat) (w:Str) (d:D),form.cps[i]?=some c->ws[i]?=some w->ds[i]?=some d->Z0m K A [aS ⟨#[c]⟩,aS w]=.ok (.val d) [aS ⟨#[c]⟩,aS w]) :
  ∀ (m i:Nat) (s5 s6:DL),i + m=ws.length->At1 s5->At1 s6->∃ s5' s6',At1 s5'/\At1 s6'/\Z16 (itZ form 4 3 []) 5 bYes (Zh [false,false] (Z0m K A) (Z0 (Z3 6) (Z0 (Z3 5) Z1))) (m + 1) i (ds.take i) (zpF form ws s5 s6)=.ok ds (zpF form ws s5' s6')
 | 0,i,s5,s6,hi,u5,u6=>by
  refine ⟨s5,s6,u5,u6,?_⟩;have e:=ZfU form ws s5 s6;rw [show form.cps.size=i by omega] at e;simp only [Z16,e];rw [Wb (by omega)]
 | m + 1,i,s5,s6,hi,u5,u6=>by
  have c1:form.cps[i]?=some form.cps[i]:=Array.getElem?_eq_getElem (by omega);have c2:ws[i]?=some ws[i]:=Qk (by omega);have c3:ds[i]?=some ds[i]:=Qk (by omega);generalize form.cps[i]=c at c1;generalize ws[i]=w at c2;generalize ds[i]=d at c3;obtain ⟨t5,t6,v5,v6,h⟩:=ZcH form ws ds h1 h2 h6 hd m (i + 1) (.own true (aS w)) (.own true (aS ⟨#[c]⟩)) (by omega) (.inr ⟨_,rfl⟩) (.inr ⟨_,rfl⟩);refine ⟨t5,t6,v5,v6,?_⟩;have p:=hd i c w d c1 c2 c3;have e1:=ZhE form ws s5 s6 i c w c1 c2
  have e2:asg2 5 (zpF form ws s5 s6) (.val (.nd .tup [aS ⟨#[c]⟩,aS w]))=some (zpF form ws (.own true (aS w)) (.own true (aS ⟨#[c]⟩))):=by
   rcases u5 with rfl | ⟨a5,rfl⟩ <;> rcases u6 with rfl | ⟨a6,rfl⟩ <;> rfl
  have e3:Zh [false,false] (Z0m K A) (Z0 (Z3 6) (Z0 (Z3 5) Z1)) (zpF form ws (.own true (aS w)) (.own true (aS ⟨#[c]⟩)))=.ok (.val d) (zpF form ws (.own true (aS w)) (.own true (aS ⟨#[c]⟩))):=by
   clear e1 e2 h;simp only [zpF];walk_at "evd"
  have e4:(ds.take i).length < sizeLine:=by rw [Nf,sz];omega
  have e5:ds.take i++[d]=ds.take (i + 1):=by rw [Nr,c3];rfl
  rw [Z16];simp only [e1,e2,bYes,e3,if_pos e4,e5,h]
def ZfM(form:Str)(ws:List Str)(ds:List D)(hf:¬ form=("*":Str))(ha:Z3A form=true)(h1:form.cps.size=ws.length)(h2:ds.length=ws.length)(h6:ws.length<=9)(hd:∀ (i c:Nat) (w:Str) (d:D),form.cps[i]?=some c->ws[i]?=some w->ds[i]?=some d->Z0m K A [aS ⟨#[c]⟩,aS w]=.ok (.val d) [aS ⟨#[c]⟩,aS w]) :
  Z1Y K A [aS form,tD ws]=.ok (.val (.nd (.lst true) ds)) [aS form,tD ws]:=by
 obtain ⟨t5,t6,v5,v6,h⟩:=ZcH (K:=K) (A:=A) form ws ds h1 h2 h6 hd ws.length 0 .non .non (by omega) (.inl rfl) (.inl rfl);have l:form.length=ws.length:=h1;have l2:ws.length<=16777216:=by omega
 have e:Z4g (Z0 (Z3 0) (Z0 (Z3 1) Z1)) (fun _=>bYes) (fun n1=>Zh [false,false] (Z0m K A) (Z0 (Z3 (n1 + 1)) (Z0 (Z3 n1) Z1))) [.own true (aS form),.bor 3 [],.non,.own false (tD ws)]=.ok (.val (.nd (.lst true) ds)) [.own true (aS form),.bor 3 [],.non,.own false (tD ws)]:=by
  have f1:Z0 (Z3 0) (Z0 (Z3 1) Z1) [.own true (aS form),.bor 3 [],.non,.own false (tD ws)]=.ok [.val (aS form),.plc 3 []] [.own true (aS form),.bor 3 [],.non,.own false (tD ws)]:=by
   clear h hd h1 h2 h6 l v5 v6;walk_at "evd"
  unfold Z4g;rw [f1];show (if Z3A form=true then zGo (fun _=>bYes) (fun n1=>Zh [false,false] (Z0m K A) (Z0 (Z3 (n1 + 1)) (Z0 (Z3 n1) Z1))) form 3 [] [.own true (aS form),.bor 3 [],.non,.own false (tD ws)] else .no)=_;rw [if_pos ha];show Z3H 4 (Z16 (itZ form 4 3 []) 5 bYes (Zh [false,false] (Z0m K A) (Z0 (Z3 6) (Z0 (Z3 5) Z1))) (form.cps.size + 1) 0 [] (zpF form ws .non .non))=_;rw [show form.cps.size=ws.length from h1]
  have g:Z3H 4 (RM.ER.ok ds (zpF form ws t5 t6))=.ok (.val (.nd (.lst true) ds)) [.own true (aS form),.bor 3 [],.non,.own false (tD ws)]:=by
   rcases v5 with rfl | ⟨a5,rfl⟩ <;> rcases v6 with rfl | ⟨a6,rfl⟩ <;> rfl
  have h':Z16 (itZ form 4 3 []) 5 bYes (Zh [false,false] (Z0m K A) (Z0 (Z3 6) (Z0 (Z3 5) Z1))) (ws.length + 1) 0 [] (zpF form ws .non .non)=.ok ds (zpF form ws t5 t6):=h;rw [h'];exact g
 clear h v5 v6 hd h1 h2 h6 ha;unfold Z1Y Z6S;walk_at "evd"
def ZeN:kvAt (Z39 A) "join"=some (A.ZjH,("join":Str)):=by rfl
def ZfD:Z1c A "join"=some (A.ZjH,("wwnn":Str),A.ZiL,("do_join":Str)):=by rfl
def kd_v{kvs:List (Str×Addr×Str)}{x l:Str}{a:Addr}(h:kvAt kvs x=some (a,l)):hKd kvs [.at (.str x)]=some (lkD a l):=by
 show (kvAt kvs x).map (fun p=>lkD p.1 p.2)=_;rw [h];rfl
def kin_v{kvs:List (Str×Addr×Str)}{x l:Str}{a:Addr}(h:kvAt kvs x=some (a,l)):hKin true kvs [.at (.str x)]=some (aB false):=by
 show some (D.at (.bl ((kvAt kvs x).isSome != true)))=_;rw [h];rfl
def tk0_v{tab:TkT}{x l m:Str}{a f:Addr}(h:tab l=some (a,x,f,m)):hTk tab [lkD a l,.at (.int 0)]=some (aS x):=by
 show (match tab l with | some (b,x,f,n)=>if b=a then (if (0:Int)=0 then some (D.at (V.str x)) else if (0:Int)=1 then some (lkD f n) else none) else none | none=>none)=_
 rw [h];simp
def tk1_v{tab:TkT}{x l m:Str}{a f:Addr}(h:tab l=some (a,x,f,m)):hTk tab [lkD a l,.at (.int 1)]=some (lkD f m):=by
 show (match tab l with | some (b,x,f,n)=>if b=a then (if (1:Int)=0 then some (D.at (V.str x)) else if (1:Int)=1 then some (lkD f n) else none) else none | none=>none)=_
 rw [h];simp
def Zfy{x:Str}{ws:List Str}(h:Txt.split x " "=ws)(h1:x.length<=1000)(h2:ws.length<=1000):hSplit [.at (.str x),.at (.str " ")]=some (tD ws):=by
 unfold hSplit;dsimp only;rw [h,if_pos ⟨by decide,by rw [sizeLine_eq];omega,by rw [sizeLine_eq];omega⟩]
private abbrev drF(c:D)(row:Str)(s2 s3 s4 s5:DL):Sd:=[.bor 6 [],.own true (aS row),s2,s3,s4,s5,.own true c,.non]
def Zgd{tab:Str->Option (Addr×Fn)}{ms:List Bool}{fe:EF}{f:AF}{s s1:Sd}{a:Addr}{l:Str}{fn:Fn}(h:fe s=.ok (.val (lkD a l)) s1)(ht:tab l=some (a,fn)):eDyn tab ms fe f s=Zh ms fn f s1:=by
 unfold eDyn;rw [h];dsimp only;rw [ht];dsimp only;rw [if_pos rfl]
def Zht(hs:List Hs)(x:Str)(ho:OkT x)(hp:pos hs x=none):Z0G K A [mbD A hs,aS x]=.ex "UnknownHouse" [mbD A hs,aS x]:=by
 have r:=ZdS ho;clear ho;unfold pos at hp;unfold Z0G Z2N;simp only [mbD] at *;walk_at "evd"
def Ze8(h:Hs):Z2b K A [hsD A h]=.ok (.val (.at .non)) [hsD A { h with st:=false }]:=by
 have h1:Z1i K A [hsD A h]=.ok (.val (.at .non)) [hsD A h]:=by
  unfold Z1i Z3k hsD;walk_at "evd"
 unfold Z2b Z57;simp only [hsD] at *;walk_at "evd"
def Zhw(hs:List Hs)(x:Str)(j:Nat)(h:Hs)(hp:pos hs x=some j)(hj:hs[j]?=some h)(hst:h.st=true):Z1u K A [mbD A hs,aS x]=.ok (.arg 0 [0,j]) [mbD A hs,aS x]:=by
 have n:=Zhu (K:=K) (A:=A) hs x j h hp hj;have e:(hs.map (hsD A))[j]?=some (hsD A h):=by rw [Qc,hj];rfl
 clear hj hp;unfold Z1u Z3C;simp only [mbD] at *;simp only [hsD] at e;walk_at "evd"
private abbrev leF(A:Adr)(ks:List Str)(hs:List Hs)(dd:List Str)(x:Str)(y:DL):Sd:=[.bor 3 [],.own true (aS x),y,.own true (ciD A ks hs dd),.non]
def set_same{α:Type}{l:List α}{j:Nat}{a:α}(h:l[j]?=some a):l.set j a=l:=by
 obtain ⟨h1,rfl⟩:=Qd.mp h;exact List.set_getElem_self h1
def Zhs(x z:Str)(j:Nat)(h:Hs)(hj:hs[j]?=some h)(hd:dd.length < 400)
  (jn:Z0W [eC (.str "leave "),eNw Z0Y (Z0 (Z3 1) Z1)] Str.empty (leF A ks hs dd x (.bor 3 [2,0,j])++[.bor 3 []])=.ok (.val (aS z)) (leF A ks hs dd x (.bor 3 [2,0,j])++[.bor 3 []])) :
  Z25 K A (leF A ks hs dd x (.bor 3 [2,0,j]))=.nx (leF A ks (hs.set j { h with st:=false }) (dd++[z]) x (.bor 3 [2,0,j])):=by
 have n:=Ze8 (K:=K) (A:=A) h;have e:(hs.map (hsD A))[j]?=some (hsD A h):=by rw [Qc,hj];rfl
 have hl:j < hs.length:=(Qd.mp hj).1;have e2:((hs.map (hsD A)).set j hole)[j]?=some hole:=by rw [Wv (by simpa using hl)]
 have e3:((hs.map (hsD A)).set j hole).set j (hsD A { h with st:=false })=(hs.set j { h with st:=false }).map (hsD A):=by rw [List.set_set,Wk]
 have e4:hs.map kyS=(hs.set j { h with st:=false }).map kyS:=by
  rw [Wk];exact (set_same (by rw [Qc,hj];rfl)).symm
 have q1:dd.length < 16777216:=by omega
 have e5:dd.map aS++[aS z]=(dd++[z]).map aS:=by simp
 unfold Z25;simp only [leF,ciD,Jm,Jq] at *;simp only [mbD] at *;rw [<- e4];clear e4 hj hl hd;simp only [hole] at e2 e3;walk_at "evd"
def ZfL(x:Str)(j:Nat)(h:Hs)(hp:pos hs x=some j)(hj:hs[j]?=some h)(hst:h.st=true)(hx:OkT x)(hd:dd.length < 400) :
  ∃ row,Z1m K A [ciD A ks hs dd,aS x]=.ok (.val (.at .non)) [ciD A ks (hs.set j { h with st:=false }) (dd++[row]),aS x]:=by
 obtain ⟨z,_,jn⟩:=Z4j (s:=leF A ks hs dd x (.bor 3 [2,0,j])++[.bor 3 []]) [eC (.str "leave "),eNw Z0Y (Z0 (Z3 1) Z1)] ["leave ",x] Str.empty
  ⟨rfl,by decide +kernel,fmtS rfl (by have:=hx.1;omega),by have:=hx.1;omega,trivial⟩ (show Str.empty.length + 200 * 2<=16777216 by decide +kernel)
 refine ⟨z,?_⟩;have t3:=Zhs (K:=K) (A:=A) ks hs dd x z j h hj hd jn
 have t2:Z24 K A (leF A ks hs dd x (.bor 3 [2,0,j]))=.nx (leF A ks (hs.set j { h with st:=false }) (dd++[z]) x (.bor 3 [2,0,j])):=by
  have a:=Zcv (K:=K) (A:=A) ks hs dd hd;clear hp hj hst hx hd jn;unfold Z24;simp only [leF] at *;walk_at "evd"
 have a:=Zhw (K:=K) (A:=A) hs x j h hp hj hst;have e:(hs.map (hsD A))[j]?=some (hsD A h):=by rw [Qc,hj];rfl
 clear t3 hp hj hst hx hd jn;unfold Z1m Z4d;simp only [leF,ciD] at *;simp only [mbD] at *;walk_at "evd"
def Zaq:∀ hs:List Hs,(Z0e (hs.map Hs.st) (hs.map (hsD A))).length=(std hs).length
 | []=>rfl
 | h::hs=>by
  have ih:=Zaq hs;unfold std at ih ⊢
  cases e:h.st with
  | true=>rw [Qj,Qj,Nx,e,if_pos rfl,Z0e,if_pos rfl,Jy,ih];rfl
  | false=>rw [Qj,Qj,Nx,e,if_neg (by decide),Z0e,if_neg (by decide),ih]
def Z7v(hs:List Hs)(hl:hs.length<=60):∃ l:List D,l.length=(std hs).length/\Z1j K A [mbD A hs]=.ok (.val (.nd (.lst true) l)) [mbD A hs]:=by
 refine ⟨(Z0e (hs.map Hs.st) (hs.map (hsD A))).map fun _=>hole,?_,?_⟩
 .rw [Qx]
  exact Zaq hs
 .unfold Z1j fSt
  simp only [st_mb];rw [if_pos (by rw [Qx];omega)]
def Zhx(hs:List Hs)(hl:hs.length < 60)(h2:(std hs).length < 20):Z09 K A [mbD A hs]=.ok (.val (.at .non)) [mbD A hs]:=by
 obtain ⟨l,h1,h3⟩:=Z7v (K:=K) (A:=A) hs (by omega);have q1:¬ (l.length:Int)≥20:=by omega
 have q2:¬ (hs.length:Int)≥60:=by omega
 clear hl h1 h2;unfold Z09 Z14;simp only [mbD] at *;walk_at "evd"
private abbrev crF(A:Adr)(hs:List Hs):Sd:=[.bor 1 [],.own false (mbD A hs)]
def ZfN(hs:List Hs)(hl:hs.length<=60)(h:20<=(std hs).length\/60<=hs.length):Z09 K A [mbD A hs]=.ex "CircleFull" [mbD A hs]:=by
 obtain ⟨z1,_,j1⟩:=Z4j (s:=crF A hs) [eNw Z0Y (Z0 (eC (V.int 20)) Z1),eC (.str " houses stand in the circle")] ["20"," houses stand in the circle"] Str.empty ⟨by rfl,by decide +kernel,rfl,by decide +kernel,trivial⟩ (show Str.empty.length + 200 * 2<=16777216 by decide +kernel);obtain ⟨z2,_,j2⟩:=Z4j (s:=crF A hs) [eNw Z0Y (Z0 (eC (V.int 60)) Z1),eC (.str " houses have joined")] ["60"," houses have joined"] Str.empty ⟨by rfl,by decide +kernel,rfl,by decide +kernel,trivial⟩ (show Str.empty.length + 200 * 2<=16777216 by decide +kernel);obtain ⟨l,h1,h3⟩:=Z7v (K:=K) (A:=A) hs hl;by_cases q:20<=l.length
 .have q1:(l.length:Int)≥20:=by omega
  clear hl h1 h q j2;unfold Z09 Z14;simp only [crF,mbD] at *;walk_at "evd"
 .have q1:¬ (l.length:Int)≥20:=by omega
  have q2:(hs.length:Int)≥60:=by omega
  clear hl h1 h q j1;unfold Z09 Z14;simp only [crF,mbD] at *;walk_at "evd"
def Zhp(h:Hs)(hst:h.st=true)(hl:hs.length < 60)(h20:(std hs).length < 20)(hp:pos hs h.nm=none)(hd:dd.length < 400)(o1:OkT h.nm)(o2:OkT h.kd)(o3:Sm h.lo)(o4:Sm h.hi) :
  ∃ row,Z0I K A (joF A ks hs dd h)=.rt (.val (aI (hs.length + 1))) (joF A ks (hs++[h]) (dd++[row]) h):=by
 obtain ⟨z,t⟩:=Zhq (K:=K) (A:=A) ks hs dd h hst (by omega) hp hd o1 o2 o3 o4;refine ⟨z,?_⟩
 have t4:Z2m K A (joF A ks hs dd h)=.rt (.val (aI (hs.length + 1))) (joF A ks (hs++[h]) (dd++[z]) h):=by
  have a:=Zcv (K:=K) (A:=A) ks hs dd hd;clear hst hl hp hd o1 o2 o3 o4 h20;unfold Z2m;simp only [joF] at *;walk_at "evd"
 have a:=Zhx (K:=K) (A:=A) hs hl h20;clear hst hl hp hd o1 o2 o3 o4 t h20;unfold Z0I;simp only [joF,ciD] at *;walk_at "evd"
def ZfK(h:Hs)(hl:hs.length<=60)(q:20<=(std hs).length\/60<=hs.length) :
  Z0I K A (joF A ks hs dd h)=.ex "CircleFull" (joF A ks hs dd h):=by
 have a:=ZfN (K:=K) (A:=A) hs hl q;clear hl q;unfold Z0I;simp only [joF,ciD] at *;walk_at "evd"
structure New(ks:List Str)(hs:List Hs)(h:Hs):Prop where
 ok:HsOk h
 g:gd h.nm=true
 p:pos hs h.nm=none
 m:h.kd∈ks
 l:¬ (h.lo < 1\/h.lo > h.hi\/h.hi > 8)
def ZcC(h:Hs)(n:New ks hs h)(hl:hs.length < 60)(h20:(std hs).length < 20)(hd:dd.length < 400) :
  ∃ row,Z04 K A [ciD A ks hs dd,aS h.nm,aS h.kd,aI h.lo,aI h.hi]=.ok (.val (aI (hs.length + 1))) [ciD A ks (hs++[h]) (dd++[row]),aS h.nm,aS h.kd,aI h.lo,aI h.hi]:=by
 obtain ⟨row,t⟩:=Zhp (K:=K) (A:=A) ks hs dd h n.ok.st hl h20 n.p hd n.ok.o1 n.ok.o2 n.ok.o3 n.ok.o4;exact ⟨row,Zhf ks hs _ dd _ h _ (jo_1 ks hs dd h _ (Zcw hs h.nm n.ok.o1 n.g n.p) (jo_2 ks hs dd h _ (Zcy ks hs dd h.kd h.lo h.hi n.m n.l) t))⟩
def Z9A(h:Hs)(n:New ks hs h)(hl:hs.length<=60)(q:20<=(std hs).length\/60<=hs.length) :
  Z04 K A [ciD A ks hs dd,aS h.nm,aS h.kd,aI h.lo,aI h.hi]=.ex "CircleFull" [ciD A ks hs dd,aS h.nm,aS h.kd,aI h.lo,aI h.hi]:=
 Zhd ks hs dd h _ (jo_1 ks hs dd h _ (Zcw hs h.nm n.ok.o1 n.g n.p) (jo_2 ks hs dd h _ (Zcy ks hs dd h.kd h.lo h.hi n.m n.l) (ZfK ks hs dd h hl q)))
def Zhv(x:Str)(ho:OkT x)(hp:pos hs x=none):Z1D K A [ciD A ks hs dd,aS x]=.ex "UnknownHouse" [ciD A ks hs dd,aS x]:=by
 have n:=Zht (K:=K) (A:=A) hs x ho hp;clear hp ho;unfold Z1D Z56;simp only [ciD] at *;walk_at "evd"
abbrev rowS(x y:Str):Str :="join "++x ++ " "++y ++ " 1 8"
def Zca{x y:Str}(hx:gd x=true)(hy:gd y=true):Txt.split (rowS x y) " "=(["join",x,y,"1","8"]:List Str):=by
 have e:rowS x y=Str.join " " (["join",x,y,"1","8"]:List Str):=by
  apply Z7X;unfold rowS;simp only [Str.join,Z1W,Qn];rw [show ("join ":Str).cps.toList=("join":Str).cps.toList++(" ":Str).cps.toList from by decide +kernel,show (" 1 8":Str).cps.toList=(" ":Str).cps.toList++(("1":Str).cps.toList++((" ":Str).cps.toList++("8":Str).cps.toList)) from by decide +kernel];simp only [Qn]
 rw [e];refine Ze0 _ (by simp) fun w hw=>?_;simp only [Jb,List.not_mem_nil,or_false] at hw;rcases hw with rfl | rfl | rfl | rfl | rfl
 .decide +kernel
 .exact gd_32 hx
 .exact gd_32 hy
 .decide +kernel
 .decide +kernel
def fig8:Fig "8" 8:=⟨by decide +kernel,by decide +kernel,by decide +kernel,by decide +kernel⟩
private abbrev tabF(K:Qa)(A:Adr):Str->Option (Addr×Fn):=tabC "do_join" A.ZiL (Z2r K A) tabN
def Zho(c:D)(ic:c.imm=false)(row w0:Str)(ww:List Str)(a f:Addr)(form m:Str)(ds:List D)(C:Str)(fn:Fn)(h3:Z1c A w0=some (a,form,f,m))
  (h4:Z1Y K A [aS form,tD ww]=.ok (.val (.nd (.lst true) ds)) [aS form,tD ww]) (h5:tabF K A m=some (f,fn)) (h6:fn [c,.nd (.lst true) ds]=.ex C [c,.nd (.lst true) ds]) :
  Z4b K A (drF c row (.own true (tD (w0::ww))) (.own true (lkD a w0)) .non .non)=.ex C (drF c row (.own true (tD (w0::ww))) (.own true (lkD a w0)) (.own true (.nd (.lst true) ds)) (.own true (lkD f m))):=by
 have t0:=tk0_v h3;have t1:=tk1_v h3;have i1:=imS (w0::ww);have i2:D.imms (ww.map aS)=true:=imS ww
 have e:eDyn (tabF K A) [true,false] (Z3 5) (Z0 (Z3 0) (Z0 (Z3 4) Z1)) (drF c row (.own true (tD (w0::ww))) (.own true (lkD a w0)) (.own true (.nd (.lst true) ds)) (.own true (lkD f m)))=.ex C (drF c row (.own true (tD (w0::ww))) (.own true (lkD a w0)) (.own true (.nd (.lst true) ds)) (.own true (lkD f m))):=by
  rw [Zgd (s1:=drF c row (.own true (tD (w0::ww))) (.own true (lkD a w0)) (.own true (.nd (.lst true) ds)) (.own true (lkD f m))) (by rfl) h5];clear h3 h4 t0 t1 i1 i2 h5;simp only [drF,tD] at *;walk_at "evd"
 have cut:hCut true [tD (w0::ww),.at (.int 1)]=some (tD ww):=by
  show (if D.imms ((w0::ww).map aS)=true/\(0:Int)<=1 then some (D.nd (.lst true) (((w0::ww).map aS).drop 1)) else none)=_;rw [if_pos ⟨i1,by decide⟩];rfl
 clear h3 h5 h6;simp only [tabF] at e;unfold Z4b;simp only [drF,tD,lkD,Qj] at *;walk_at "evd"
def v_dox(c:D)(ic:c.imm=false)(row w0:Str)(ww:List Str)(a f:Addr)(form m:Str)(ds:List D)(C:Str)(fn:Fn)(h1:Txt.split row " "=w0::ww)(hr:row.length<=1000)(hw:(w0::ww).length<=1000)(h2:kvAt (Z39 A) w0=some (a,w0))(h3:Z1c A w0=some (a,form,f,m))
  (h4:Z1Y K A [aS form,tD ww]=.ok (.val (.nd (.lst true) ds)) [aS form,tD ww]) (h5:tabF K A m=some (f,fn)) (h6:fn [c,.nd (.lst true) ds]=.ex C [c,.nd (.lst true) ds]) :
  Z2O K A [c,aS row]=.ex C [c,aS row]:=by
 have t5:=Zho c ic row w0 ww a f form m ds C fn h3 h4 h5 h6;have s1:=Zfy h1 hr hw;have k1:=kin_v h2;have k2:=kd_v h2;have i1:=imS (w0::ww);have ix:ixN (ww.length + 1) 0=some 0:=by unfold ixN;rw [if_pos (by decide),if_pos (by omega)];rfl
 clear h1 h2 h3 h4 h5 h6 hr hw;unfold Z2O Z8O Z6v;simp only [drF,tD,lkD,Qj] at *;walk_at "evd"
def Zcz(h:Hs)(n:New ks hs h)(hl:hs.length<=60)(q:20<=(std hs).length\/60<=hs.length) :
  Z2r K A [ciD A ks hs dd,.nd (.lst true) [aS h.nm,aS h.kd,aI h.lo,aI h.hi]]=.ex "CircleFull" [ciD A ks hs dd,.nd (.lst true) [aS h.nm,aS h.kd,aI h.lo,aI h.hi]]:=by
 have j:=Z9A (K:=K) (A:=A) ks hs dd h n hl q;clear n hl q;unfold Z2r Z83;walk_at "evd"
private abbrev hN(x kd:Str):Hs:=⟨x,kd,1,8,true⟩
def ZbN{ks:List Str}{hs:List Hs}{x kd:Str}(hx:gd x=true)(hy:gd kd=true)(my:kd∈ks)(hp:pos hs x=none):New ks hs (hN x kd):=
 ⟨⟨rfl,Z9c hx,Z9c hy,⟨by show -2<=(1:Int);decide,by show (1:Int)<=20;decide⟩,⟨by show -2<=(8:Int);decide,by show (8:Int)<=20;decide⟩⟩,hx,hp,my,by show ¬ ((1:Int) < 1\/(1:Int) > 8\/(8:Int) > 8);decide⟩
def Zhy(x y:Str)(hx:gd x=true)(hy:gd y=true)(my:y∈ks)(hp:pos hs x=none)(lx:x.length<=12)(ly:y.length<=12)(hl:hs.length<=60)(q:20<=(std hs).length\/60<=hs.length) :
  Z2O K A [ciD A ks hs dd,aS (rowS x y)]=.ex "CircleFull" [ciD A ks hs dd,aS (rowS x y)]:=by
 have nx:¬ x=("":Str):=fun e=>by subst e;revert hx;decide +kernel
 have ny:¬ y=("":Str):=fun e=>by subst e;revert hy;decide +kernel
 have j:=Zcz (K:=K) (A:=A) ks hs dd (hN x y) (ZbN hx hy my hp) hl q
 refine v_dox _ (im_ci _ _ _) (rowS x y) "join" [x,y,"1","8"] A.ZjH A.ZiL "wwnn" "do_join" [aS x,aS y,aI 1,aI 8] _ (Z2r K A) (Zca hx hy) ?_ (by show 5<=1000;decide) ZeN ZfD
  (ZfM "wwnn" [x,y,"1","8"] [aS x,aS y,aI 1,aI 8] (by decide) (by decide +kernel) (by show ("wwnn":Str).cps.size=4;decide +kernel) rfl (by show 4<=9;decide) (fun i c w d h1 h2 h3=>?_)) (by rfl) j
 .unfold rowS
  rw [ZK,ZK,ZK,ZK,show ("join ":Str).length=5 from by decide +kernel,show (" ":Str).length=1 from by decide +kernel,show (" 1 8":Str).length=4 from by decide +kernel];omega
 .match i,h1,h2,h3 with
  | 0,h1,h2,h3=>cases h1;cases h2;cases h3;exact Z9C x nx
  | 1,h1,h2,h3=>cases h1;cases h2;cases h3;exact Z9C y ny
  | 2,h1,h2,h3=>cases h1;cases h2;cases h3;exact Z9B "1" 1 fig1
  | 3,h1,h2,h3=>cases h1;cases h2;cases h3;exact Z9B "8" 8 fig8
  | n + 4,h1,h2,h3=>simp at h2
private abbrev arF(c:D)(row:Str):Sd:=[.bor 4 [],.own true (aS row),.non,.own true (aS "circle full"),.own true c,.non]
def fin_j(c:D)(row:Str):Z0W [(eC (.str "refused: ")),(eNw Z0Y (Z0 (Z3 3) Z1))] Str.empty (arF c row)=.ok (.val (aS "refused: circle full")) (arF c row):=by
 have h1:eNw Z0Y (Z0 (Z3 3) Z1) (arF c row)=.ok (.val (aS "circle full")) (arF c row):=fmtS rfl (by decide +kernel);have e1:Str.empty++("refused: ":Str) ="refused: ":=by decide +kernel
 have e2:("refused: ":Str)++("circle full":Str) ="refused: circle full":=by decide +kernel
 have l1:("refused: ":Str).length<=16777216:=by decide +kernel
 have l2:("refused: circle full":Str).length<=16777216:=by decide +kernel
 have e0:eC (.str "refused: ") (arF c row)=.ok (.val (aS "refused: ")) (arF c row):=rfl;unfold Z0W;rw [e0];dsimp only;rw [e1,sz,if_pos l1];unfold Z0W;rw [h1];dsimp only;rw [e2,sz,if_pos l2];unfold Z0W;rw [sz,if_pos l2]
def ZfF(c:D)(ic:c.imm=false)(row:Str)(h:Z2O K A [c,aS row]=.ex "CircleFull" [c,aS row]):Z1R K A [c,aS row]=.ok (.val (aS "refused: circle full")) [c,aS row]:=by
 have j:=fin_j c row;simp only [arF] at j;unfold Z1R Z5s;walk_at "evd"
def dt_tD(l:List Str)(hl:l.length<=60):DtN 2 (tD l):=Zg7 (by rw [Qx,sz];omega) (by
 intro x hx;obtain ⟨y,_,rfl⟩:=Wa.mp hx;exact Zg8)
def Zfw(l:List Str)(hl:l.length<=60)(s:Sd):samP 3 "refused: circle full" (.nd (.lst true) [aS "refused: circle full",tD l]) s (some (tD l))=.ok (.val (aB true)) s:=by
 obtain ⟨t,h1,h2⟩:=dt_tD l hl;generalize tD l=d at h1 ⊢
 have e:Z1r (.nd (.lst true) [aS "refused: circle full",d])=some (.lst [.str "refused: circle full",t]):=by
  simp only [Z1r,Z2f,h1,Jy,List.length_nil,sz];rfl
 unfold samP;dsimp only;rw [e,h1];dsimp only;exact if_pos ⟨rfl,by simp only [Dt.dep,Dt.deps];omega⟩
def Z6M(hs:List Hs)(x kd:Str):std (hs++[hN x kd])=std hs++[x]:=by simp [std]
private abbrev jsF(A:Adr)(ks:List Str)(kd:Str)(hs:List Hs)(dd st:List Str)(jn:Int)(x:Str)(s3 s4 s5 s6:DL):Sd:=[.bor 7 [],.bor 8 [],.own true (aS x),s3,s4,s5,s6,.own true (ciD A ks hs dd),.own true (mD kd st jn),.non]
def js_15(ks:List Str)(kd:Str)(hs:List Hs)(dd st:List Str)(n:Nat)(x:Str)(b:Z0a K A [ciD A ks hs dd]=.ok (.val (tD (st++[x]))) [ciD A ks hs dd])(q3:st.length < 60) :
  Z1z K A (jsF A ks kd hs dd st n x (.own true (aB false)) (.own true (aI (n + 1))) .non .non)=.rt (.val (aB true)) (jsF A ks kd hs dd (st++[x]) (n + 1) x (.own true (aB false)) (.own true (aI (n + 1))) .non .non):=by
 have s1:=Z9D (A:=A) (a:=aI ((n:Int) + 1)) Zg6;have s2:=Z9D (A:=A) (dt_up (dt_tD (st++[x]) (by rw [Jf];show st.length + 1<=60;omega)));have q3:st.length < 16777216:=by omega
 have e:st.map aS++[aS x]=(st++[x]).map aS:=by simp
 unfold Z1z;simp only [jsF] at *;simp only [mD] at *;walk_at "evd"
def js_7a(ks:List Str)(kd:Str)(hs:List Hs)(dd st:List Str)(n:Nat)(x:Str)(s3 s4:DL)(h1:¬ (st.length:Int)≥20)(h2:¬ (n:Int)≥60)(r:SR)
  (t:Z1z K A (jsF A ks kd hs dd st n x s3 s4 .non .non)=r):Z0w K A (jsF A ks kd hs dd st n x s3 s4 .non .non)=r:=by
 unfold Z0w;simp only [jsF] at *;simp only [mD] at *;walk_at "evd"
def js_7b(ks:List Str)(kd:Str)(hs:List Hs)(dd st:List Str)(n:Nat)(x:Str)(s3 s4:DL)(h:20<=st.length\/60<=n)(v:DV)(s:Sd)
  (t:Z1N K A (jsF A ks kd hs dd st n x s3 s4 .non .non)=.rt v s):Z0w K A (jsF A ks kd hs dd st n x s3 s4 .non .non)=.rt v s:=by
 have c:bOr (bV (eNw hGe (Z0 (eNw (hLen K) (Z0 (eCh ZX (Z0 (Z3 1) (Z0 (eC (.str "stand")) Z1))) Z1)) (Z0 (eC (.int (20))) Z1)))) (bV (eNw hGe (Z0 (eCh ZX (Z0 (Z3 1) (Z0 (eC (.str "joined")) Z1))) (Z0 (eC (.int (60))) Z1)))) (jsF A ks kd hs dd st n x s3 s4 .non .non)=.ok true (jsF A ks kd hs dd st n x s3 s4 .non .non):=by
  clear t;by_cases q:(st.length:Int)≥20
  .clear h
   simp only [jsF] at *;simp only [mD] at *;walk_at "evd"
  .have q2:(n:Int)≥60:=by omega
   clear h;simp only [jsF] at *;simp only [mD] at *;walk_at "evd"
 clear h;unfold Z0w;rw [Zge,ev_if,c];simp only [if_true,t]
def js_8(ks:List Str)(kd:Str)(hs:List Hs)(dd st:List Str)(n:Nat)(x:Str)(a:Z1D K A [ciD A ks hs dd,aS x]=.ex "UnknownHouse" [ciD A ks hs dd,aS x])
  (r:Z1R K A [ciD A ks hs dd,aS (rowS x kd)]=.ok (.val (aS "refused: circle full")) [ciD A ks hs dd,aS (rowS x kd)]) (b:Z0a K A [ciD A ks hs dd]=.ok (.val (tD st)) [ciD A ks hs dd]) (ls:st.length<=60) (lx:x.length<=12) (ly:kd.length<=12) :
  ∃ s5 s6,Z1N K A (jsF A ks kd hs dd st n x (.own true (aB true)) (.own true (.at .non)) .non .non)=.rt (.val (aB true)) (jsF A ks kd hs dd st n x (.own true (aB true)) (.own true (.at .non)) s5 s6):=by
 refine ⟨.own true (aB true),.own true (aS "refused: circle full"),?_⟩;have sp:=Zfw st ls;have l1:("join ":Str).length + x.length<=16777216:=by rw [show ("join ":Str).length=5 from by decide +kernel];omega
 have l2:(("join ":Str)++x).length + (" ":Str).length<=16777216:=by rw [ZK,show ("join ":Str).length=5 from by decide +kernel,show (" ":Str).length=1 from by decide +kernel];omega
 have l3:(("join ":Str)++x ++ " ").length + kd.length<=16777216:=by rw [ZK,ZK,show ("join ":Str).length=5 from by decide +kernel,show (" ":Str).length=1 from by decide +kernel];omega
 have l4:(("join ":Str)++x ++ " "++kd).length + (" 1 8":Str).length<=16777216:=by rw [ZK,ZK,ZK,show ("join ":Str).length=5 from by decide +kernel,show (" ":Str).length=1 from by decide +kernel,show (" 1 8":Str).length=4 from by decide +kernel];omega
 simp only [rowS] at r;clear ls lx ly;unfold Z1N;simp only [jsF,mD,samP] at *;walk_at "evd"
def js_ok(ks:List Str)(kd:Str)(hs hs':List Hs)(dd dd' st st':List Str)(n n':Int)(x:Str)(v:Int)(a:Z04 K A [ciD A ks hs dd,aS x,aS kd,aI 1,aI 8]=.ok (.val (aI v)) [ciD A ks hs' dd',aS x,aS kd,aI 1,aI 8])
  (t:Z0w K A (jsF A ks kd hs' dd' st n x (.own true (aB false)) (.own true (aI v)) .non .non)=.rt (.val (aB true)) (jsF A ks kd hs' dd' st' n' x (.own true (aB false)) (.own true (aI v)) .non .non)) :
  Zy K A [ciD A ks hs dd,mD kd st n,aS x]=.ok (.val (aB true)) [ciD A ks hs' dd',mD kd st' n',aS x]:=by
 unfold Zy Z3E;simp only [jsF] at *;simp only [mD] at *;walk_at "evd"
def js_x(ks:List Str)(kd:Str)(hs:List Hs)(dd st:List Str)(n:Int)(x:Str)(a:Z04 K A [ciD A ks hs dd,aS x,aS kd,aI 1,aI 8]=.ex "CircleFull" [ciD A ks hs dd,aS x,aS kd,aI 1,aI 8])(s5 s6:DL)
  (t:Z0w K A (jsF A ks kd hs dd st n x (.own true (aB true)) (.own true (.at .non)) .non .non)=.rt (.val (aB true)) (jsF A ks kd hs dd st n x (.own true (aB true)) (.own true (.at .non)) s5 s6)) :
  Zy K A [ciD A ks hs dd,mD kd st n,aS x]=.ok (.val (aB true)) [ciD A ks hs dd,mD kd st n,aS x]:=by
 unfold Zy Z3E;simp only [jsF] at *;simp only [mD] at *;walk_at "evd"
def ZaX(x kd:Str)(n:New ks hs (hN x kd))(hl:hs.length < 60)(h20:(std hs).length < 20)(hd:dd.length < 400) :
  ∃ row,Zy K A [ciD A ks hs dd,mD kd (std hs) hs.length,aS x]=.ok (.val (aB true)) [ciD A ks (hs++[hN x kd]) (dd++[row]),mD kd (std hs++[x]) (hs.length + 1),aS x]:=by
 obtain ⟨row,a⟩:=ZcC (K:=K) (A:=A) ks hs dd (hN x kd) n hl h20 hd;have b:=Z6R (K:=K) (A:=A) ks (hs++[hN x kd]) (dd++[row]) (by rw [Jf];show hs.length + 1<=60;omega);rw [Z6M] at b;exact ⟨row,js_ok ks kd hs _ dd _ _ _ _ _ x _ a (js_7a ks kd _ _ _ hs.length x _ _ (by omega) (by omega) _ (js_15 ks kd _ _ _ hs.length x b (by omega)))⟩
def ZcD(x kd:Str)(n:New ks hs (hN x kd))(lx:x.length<=12)(ly:kd.length<=12)(gk:gd kd=true)(hl:hs.length<=60)(hc:20<=(std hs).length\/60<=hs.length) :
  Zy K A [ciD A ks hs dd,mD kd (std hs) hs.length,aS x]=.ok (.val (aB true)) [ciD A ks hs dd,mD kd (std hs) hs.length,aS x]:=by
 have ls:(std hs).length<=60:=by
  unfold std;rw [Qx];exact Jr (List.length_filter_le _ _) hl
 obtain ⟨s5,s6,t⟩:=js_8 (K:=K) (A:=A) ks kd hs dd (std hs) hs.length x (Zhv ks hs dd x n.ok.o1 n.p) (ZfF _ (im_ci ks hs dd) _ (Zhy ks hs dd x kd n.g gk n.m n.p lx ly hl hc)) (Z6R ks hs dd hl) ls lx ly;exact js_x ks kd hs dd _ _ x (Z9A ks hs dd (hN x kd) n hl hc) s5 s6 (js_7b ks kd hs dd _ _ x _ _ hc _ _ t)
def Z2l(h:Hs)(hs:List Hs):std (h::hs)=if h.st then h.nm::std hs else std hs:=by
 unfold std;rw [Nx]
 split <;> simp
def Z9w:∀ (hs:List Hs) (i:Nat) (x:Str),(std hs)[i]?=some x->∃ j h,hs[j]?=some h/\h.st=true/\h.nm=x/\std (hs.set j { h with st:=false })=(std hs).eraseIdx i
 | [],i,x,h=>by simp [std] at h
 | g::r,i,x,h=>by
  rw [Z2l] at h
  cases q:g.st with
  | false=>
   rw [q,if_neg (by decide)] at h;obtain ⟨j,k,h1,h2,h3,h4⟩:=Z9w r i x h;refine ⟨j + 1,k,h1,h2,h3,?_⟩;rw [Nk,Z2l,Z2l,q,if_neg (by decide),if_neg (by decide),h4]
  | true=>
   rw [q,if_pos rfl] at h
   cases i with
   | zero=>
    rw [Wh] at h;cases h;refine ⟨0,g,rfl,q,rfl,?_⟩;rw [List.set_cons_zero,Z2l,Z2l,q,if_pos rfl,if_neg (fun q=>by cases q)];rfl
   | succ i=>
    rw [Ni] at h;obtain ⟨j,k,h1,h2,h3,h4⟩:=Z9w r i x h;refine ⟨j + 1,k,h1,h2,h3,?_⟩;rw [Nk,Z2l,Z2l,q,if_pos rfl,if_pos rfl,h4];rfl
end
mutual
def Zh0{hs:List Hs}{j:Nat}{h:Hs}(nd:(hs.map Hs.nm).Nodup)(hj:hs[j]?=some h):pos hs h.nm=some j:=by
 cases e:pos hs h.nm with
 | none=>exact absurd (Wa.mpr ⟨h,Qg hj,rfl⟩) (pos_none e)
 | some j'=>
  obtain ⟨y,h1,h2⟩:=Z9k e;have n1:(hs.map Hs.nm)[j]?=some h.nm:=by rw [Qc,hj];rfl
  have n2:(hs.map Hs.nm)[j']?=some h.nm:=by rw [Qc,h1];exact congrArg some h2
  have l1:=(Qd.mp n1).1;rw [(List.getElem?_inj l1 nd).mp (n1.trans n2.symm)]
def ZaY(kd:Str)(jn z:Int)(h:std hs=[]):Z05 K A [ciD A ks hs dd,mD kd (std hs) jn,aI z]=.ok (.val (aB true)) [ciD A ks hs dd,mD kd (std hs) jn,aI z]:=by
 rw [h];clear h;unfold Z05 Z3h;simp only [mD] at *;walk_at "evd"
private abbrev lvF(A:Adr)(ks:List Str)(kd:Str)(hs:List Hs)(dd st:List Str)(jn z:Int)(x:Str):Sd:=[.bor 4 [],.bor 5 [],.own true (aI z),.own true (aS x),.own true (ciD A ks hs dd),.own true (mD kd st jn),.non]
def lv_4(ks:List Str)(kd:Str)(hs hs':List Hs)(dd dd' st:List Str)(jn z:Int)(x:Str)(ls:st.length<=60)(a:Z1m K A [ciD A ks hs dd,aS x]=.ok (.val (.at .non)) [ciD A ks hs' dd',aS x])
  (b:Z0a K A [ciD A ks hs' dd']=.ok (.val (tD st)) [ciD A ks hs' dd']):Z2p K A (lvF A ks kd hs dd st jn z x)=.rt (.val (aB true)) (lvF A ks kd hs' dd' st jn z x):=by
 have s2:=Z9D (A:=A) (dt_up (dt_tD st ls));clear ls;unfold Z2p;simp only [lvF,mD] at *;walk_at "evd"
def ZaZ(ks:List Str)(hs:List Hs)(dd:List Str)(kd:Str)(jn z:Int)(nd:(hs.map Hs.nm).Nodup)(hg:∀ h∈hs,OkT h.nm)(hl:hs.length<=60)(hd:dd.length < 400)(h0:0 < (std hs).length) :
  ∃ hs' row,Z05 K A [ciD A ks hs dd,mD kd (std hs) jn,aI z]=.ok (.val (aB true)) [ciD A ks hs' (dd++[row]),mD kd (std hs') jn,aI z]/\hs'.map Hs.nm=hs.map Hs.nm/\(std hs').length + 1=(std hs).length:=by
 have b1:0<=z % ((std hs).length:Int):=Gu _ (by omega);have b2:z % ((std hs).length:Int) < (std hs).length:=Gb _ (by omega)
 have ls:(std hs).length<=60:=by
  unfold std;rw [Qx];exact Jr (List.length_filter_le _ _) hl
 have hi:(z % ((std hs).length:Int)).toNat < (std hs).length:=by omega
 have e0:=Qk hi;generalize (std hs)[(z % ((std hs).length:Int)).toNat]=x at e0;obtain ⟨j,h,h1,h2,h3,h4⟩:=Z9w hs _ x e0;subst h3;have hp:=Zh0 nd h1;obtain ⟨row,a⟩:=ZfL (K:=K) (A:=A) ks hs dd h.nm j h hp h1 h2 (hg h (Qg h1)) hd;have hj:j < hs.length:=(Qd.mp h1).1;have hl':(hs.set j { h with st:=false }).length<=60:=by rw [List.length_set];exact hl
 refine ⟨hs.set j { h with st:=false },row,?_,?_,?_⟩
 .have b:=Z6R (K:=K) (A:=A) ks (hs.set j { h with st:=false }) (dd++[row]) hl'
  rw [h4] at b ⊢;have t4:=lv_4 (K:=K) ks kd hs _ dd _ _ jn z h.nm (by rw [List.length_eraseIdx];split <;> omega) a b
  generalize hs.set j { h with st:=false }=hs' at *;generalize std hs=st at *;have q0:¬ (st.length:Int)=0:=by omega
  have q1:(st.length:Int) > 0:=by omega
  have b3:z % (st.length:Int) < 9223372036854775808:=by omega
  have c0:0 < (st.length:Int):=by omega
  clear nd hg hl hd h1 h2 h4 hp hj hl' h0 b2 ls hi a b;generalize hz:z % (st.length:Int)=zz at *;have sS:=Zck st;unfold Z05 Z3h;simp only [lvF,mD] at *;walk_at "evd"
 .rw [Wk]
  exact set_same (by rw [Qc,h1];rfl)
 .rw [h4,List.length_eraseIdx,if_pos hi]
  omega
private abbrev ppc:Str :="papercircl"
abbrev crx(st:Str)(j:Int)(a b:Nat):Str:=Txt.slice st none (some j)++(⟨#[a]⟩:Str)++(⟨#[b]⟩:Str)++Txt.slice st (some j) none
abbrev cst(cell:Int):Str:=Txt.slice ppc none (some (cell % 11))
abbrev csp(cell:Int):Int:=cell / 11 % ((cst cell).length + 1)
abbrev cmk(cell:Int)(k:Nat):Str:=crx (cst cell) (csp cell) (sgn ((cell / 121 + 7 * (k:Int)) % 26)) (sgn ((cell / 3146 + (k:Int) / 26) % 26))
abbrev cms(cell:Int)(m:Nat):List Str:=(List.range m).map (cmk cell)
abbrev StG(st:Str)(j:Int):Prop:=(Txt.slice st none (some j)).length + (Txt.slice st (some j) none).length<=10/\ao (Txt.slice st none (some j)) lets=true/\ao (Txt.slice st (some j) none) lets=true
noncomputable instance (st:Str) (j:Int):Decidable (StG st j):=by unfold StG;infer_instance
def ZcI:∀ i:Nat,i < 11->∀ j:Nat,j < (Txt.slice ppc none (some (i:Int))).length + 1->StG (Txt.slice ppc none (some (i:Int))) (j:Int):=by decide +kernel
def Zeh(cell:Int):(cst cell).length<=10:=Jr (PyProof.Txt.length_slice_le ppc none _) (by decide +kernel)
def Zba(cell:Int):StG (cst cell) (csp cell):=by
 have e1:(((cell % 11).toNat:Nat):Int)=cell % 11:=by omega
 have b1:0<=csp cell:=Gu _ (by omega);have b2:csp cell < (cst cell).length + 1:=Gb _ (by omega);have e2:(((csp cell).toNat:Nat):Int)=csp cell:=by omega
 have h:=ZcI (cell % 11).toNat (by omega) (csp cell).toNat (by rw [e1];show _ < (cst cell).length + 1;omega);rw [e1,e2] at h;exact h
def Z9U(cell:Int)(k:Nat):(cmk cell k).length<=12:=by
 have h:=(Zba cell).1;unfold cmk crx;rw [ZK,ZK,ZK,Z17,Z17];omega
def Zce(z:Int)(h0:0<=z)(h1:z < 26):ao ⟨#[sgn z]⟩ lets=true:=by
 have e:((z.toNat:Nat):Int)=z:=by omega
 have h:=Zcg z.toNat (by omega)
 rwa [e] at h
def ZfW(cell:Int)(k:Nat):gd (cmk cell k)=true:=by
 have h:=Zba cell;have h2:=Zce ((cell / 121 + 7 * (k:Int)) % 26) (by omega) (by omega);have h3:=Zce ((cell / 3146 + (k:Int) / 26) % 26) (by omega) (by omega);have l1:=Z9U cell k;have l2:1<=((cmk cell k).length:Int):=by unfold cmk crx;rw [ZK,ZK,ZK,Z17];omega
 unfold gd mo;rw [decide_eq_true l2,decide_eq_true (show ((cmk cell k).length:Int)<=12 by omega)];unfold cmk crx;rw [Z5o,Z5o,Z5o,h.2.1,h.2.2,h2,h3];rfl
def Zcf{a b:Int}(h0:0<=a)(h1:a < 26)(g0:0<=b)(g1:b < 26)(h:sgn a=sgn b):a=b:=by
 have e:((a.toNat:Nat):Int)=a:=by omega
 have e':((b.toNat:Nat):Int)=b:=by omega
 have:=Zar a.toNat (by omega) b.toNat (by omega) (by rw [e,e'];exact h);omega
def Zec(cell:Int)(k m:Nat)(hk:k < 64)(hm:m < 64)(h:cmk cell k=cmk cell m):k=m:=by
 unfold cmk crx at h;have h1:=congrArg (fun x:Str=>x.cps.toList) h;simp only [Z1W] at h1;have h2:=List.append_cancel_right h1;rw [Qn,Qn] at h2;have h3:=List.append_cancel_left h2;have h4:sgn ((cell / 121 + 7 * (k:Int)) % 26)=sgn ((cell / 121 + 7 * (m:Int)) % 26)/\sgn ((cell / 3146 + (k:Int) / 26) % 26)=sgn ((cell / 3146 + (m:Int) / 26) % 26):=by simpa using h3
 have h5:=Zcf (by omega) (by omega) (by omega) (by omega) h4.1;have h6:=Zcf (by omega) (by omega) (by omega) (by omega) h4.2;omega
def Z9V(cell:Int)(m:Nat):(cms cell m).length=m:=by simp [cms]
def Zed{cell:Int}{m:Nat}{x:Str}(h:x∈cms cell m):gd x=true/\x.length<=12:=by
 unfold cms at h;obtain ⟨k,_,rfl⟩:=Wa.mp h;exact ⟨ZfW _ _,Z9U _ _⟩
def Zb6(cell:Int):(cms cell 64).Nodup:=by
 unfold cms;refine List.Pairwise.map _ (R:=fun a b=>a < 64/\b < 64/\a≠b) (fun a b h e=>h.2.2 (Zec cell a b h.1 h.2.1 e)) ?_;have h:(List.range 64).Pairwise (fun a b=>a < b):=List.pairwise_lt_range;refine List.Pairwise.imp_of_mem (fun {a b} ha hb hl=>?_) h;rw [Qaa] at ha hb;exact ⟨by omega,by omega,by omega⟩
private abbrev cwdF(cell m:Int)(st:Str)(j:Int)(acc:List Str)(y:DL):Sd:=[.own true (aI cell),.own true (aI m),.own true (aS st),.own true (aI j),.own true (aS lets),.own true (tD acc),y,.non,.non,.non,.non]
def Zcx(cell m:Int)(st:Str)(j k:Int)(acc:List Str)(h1:st.length<=1000)(hl:acc.length < 16777216) :
  Z1M K A (cwdF cell m st j acc (.own true (aI k)))=.nx (cwdF cell m st j (acc++[crx st j (sgn ((cell / 121 + 7 * k) % 26)) (sgn ((cell / 3146 + k / 26) % 26))]) .non):=by
 have e1:=Z6z ((cell / 121 + 7 * k) % 26) (by omega) (by omega);have e2:=Z6z ((cell / 3146 + k / 26) % 26) (by omega) (by omega);have a1:=PyProof.Txt.length_slice_le st none (some j);have a2:=PyProof.Txt.length_slice_le st (some j) none;unfold crx;generalize hz1:(cell / 121 + 7 * k) % 26=z1 at *;generalize hz2:(cell / 3146 + k / 26) % 26=z2 at *;generalize sgn z1=c1 at *;generalize sgn z2=c2 at *;have b1:(Txt.slice st none (some j)).length + (⟨#[c1]⟩:Str).length<=16777216:=by rw [Z17];omega
 have b2:(Txt.slice st none (some j)++(⟨#[c1]⟩:Str)).length + (⟨#[c2]⟩:Str).length<=16777216:=by rw [ZK,Z17,Z17];omega
 have b3:(Txt.slice st none (some j)++(⟨#[c1]⟩:Str)++(⟨#[c2]⟩:Str)).length + (Txt.slice st (some j) none).length<=16777216:=by rw [ZK,ZK,Z17,Z17];omega
 have b4:st.length<=16777216:=by omega
 have b5:(lets:Str).length<=16777216:=by decide +kernel
 clear a1 a2 h1;unfold Z1M;simp only [lets,cwdF] at *;walk_at "evd";simp
def ZfG(cell:Int):Z2v K A [aI cell,aI 64]=.ok (.val (tD (cms cell 64))) [aI cell,aI 64]:=by
 have hs:=Zeh cell
 obtain ⟨s',h1,rfl⟩:=Z2S (lo:=0) (n:=64) (b:=Zm 6) (body:=Z1M K A) (s:=cwdF cell 64 (cst cell) (csp cell) [] .non)
  (fun j s=>s=cwdF cell 64 (cst cell) (csp cell) (cms cell j) .non) rfl (by
  rintro j s hj rfl;refine ⟨_,_,rfl,.inl (Zcx cell 64 (cst cell) (csp cell) (0 + (j:Int)) (cms cell j) (by omega) (by rw [Z9V];omega)),?_⟩;unfold cms;rw [List.range_succ,Wg];simp only [Qj,Jw,cmk,Int.zero_add])
 have b3:(ppc:Str).length<=16777216:=by decide +kernel
 have b4:(cst cell).length<=16777216:=by omega
 have b5:0 < ((cst cell).length:Int) + 1:=by omega
 have s1:Txt.slice ppc none (some (cell % 11))=cst cell:=rfl;have s2:cell / 11 % ((cst cell).length + 1)=csp cell:=rfl;clear hs;rw [show (64:Nat) + 1=65 from rfl] at h1;unfold Z2v Z5q;simp only [ppc,lets,cwdF,tD,Jw] at *;walk_at "evd"
structure Ns(ns:List Str):Prop where
 len:ns.length=64
 nd:ns.Nodup
 gd:∀ x∈ns,gd x=true/\x.length<=12
structure Kd(ks:List Str)(kd:Str):Prop where
 m:kd∈ks
 g:gd kd=true
 l:kd.length<=12
structure Q(ns:List Str)(hs:List Hs)(dd:List Str):Prop where
 nm:hs.map Hs.nm=ns.take hs.length
 hl:hs.length<=60
 sl:(std hs).length<=20
 dl:dd.length + (std hs).length=2 * hs.length
abbrev Roomy(hs:List Hs):Prop:=hs.length < 60/\(std hs).length < 20
def Q.nd{ns:List Str}{hs:List Hs}{dd:List Str}(N:Ns ns)(q:Q ns hs dd):(hs.map Hs.nm).Nodup:=by
 rw [q.nm];exact N.nd.sublist (Qal _ _)
def Q.ok{ns:List Str}{hs:List Hs}{dd:List Str}(N:Ns ns)(q:Q ns hs dd):∀ h∈hs,OkT h.nm:=fun h hh=>by
 have h1:h.nm∈hs.map Hs.nm:=Wa.mpr ⟨h,hh,rfl⟩;rw [q.nm] at h1;exact Z9c (N.gd _ (Gr h1)).1
def Q.pos{ns:List Str}{hs:List Hs}{dd:List Str}{i:Nat}{x:Str}(N:Ns ns)(q:Q ns hs dd)(hx:ns[i]?=some x)(hi:hs.length<=i):pos hs x=none:=by
 cases e:Pf.pos hs x with
 | none=>rfl
 | some j=>
  obtain ⟨y,h1,h2⟩:=Z9k e;have hj:j < hs.length:=(Qd.mp h1).1;have n1:(hs.map Hs.nm)[j]?=some x:=by rw [Qc,h1];exact congrArg some h2
  rw [q.nm,Qan hj] at n1;have l1:=(Qd.mp n1).1;have:=(List.getElem?_inj l1 N.nd).mp (n1.trans hx.symm);omega
def v_jn(ns ks:List Str)(kd:Str)(hs:List Hs)(dd:List Str)(N:Ns ns)(k:Kd ks kd)(q:Q ns hs dd)(i:Nat)(x:Str)(hx:ns[i]?=some x)(hi:hs.length<=i)(hc:Roomy hs->i=hs.length) :
  ∃ hs' dd',Zy K A [ciD A ks hs dd,mD kd (std hs) hs.length,aS x]=.ok (.val (aB true)) [ciD A ks hs' dd',mD kd (std hs') hs'.length,aS x]/\Q ns hs' dd'/\(Roomy hs->hs'.length=hs.length + 1/\(std hs').length=(std hs).length + 1)/\(¬ Roomy hs->hs'=hs):=by
 have hp:=q.pos N hx hi;obtain ⟨gx,lx⟩:=N.gd x (Qg hx);have n:New ks hs (hN x kd):=ZbN gx k.g k.m hp;have hl:=q.hl;have sl:=q.sl;have dl:=q.dl;by_cases r:Roomy hs
 .have e:=hc r
  subst e;obtain ⟨row,a⟩:=ZaX (K:=K) (A:=A) ks hs dd x kd n r.1 r.2 (by omega);have l1:(hs++[hN x kd]).length=hs.length + 1:=by simp
  have l2:(std (hs++[hN x kd])).length=(std hs).length + 1:=by rw [Z6M];simp
  refine ⟨hs++[hN x kd],dd++[row],?_,⟨?_,?_,?_,?_⟩,fun _=>⟨l1,l2⟩,fun z=>absurd r z⟩
  .rw [Z6M,l1]
   exact a
  .rw [l1,Wg,q.nm,Nr,hx];rfl
  .have:=r.1;omega
  .have:=r.2;omega
  .rw [l1,l2,Jf];show dd.length + 1 + _=_;omega
 .refine ⟨hs,dd,ZcD ks hs dd x kd n lx k.l k.g hl ?_,q,fun z=>absurd z r,fun _=>rfl⟩
  unfold Roomy at r;omega
def v_lv(ns ks:List Str)(kd:Str)(hs:List Hs)(dd:List Str)(N:Ns ns)(q:Q ns hs dd)(z:Int) :
  ∃ hs' dd',Z05 K A [ciD A ks hs dd,mD kd (std hs) hs.length,aI z]=.ok (.val (aB true)) [ciD A ks hs' dd',mD kd (std hs') hs'.length,aI z]/\Q ns hs' dd'/\hs'.length=hs.length/\(0 < (std hs).length->(std hs').length + 1=(std hs).length):=by
 have hl:=q.hl;have sl:=q.sl;have dl:=q.dl;by_cases h0:0 < (std hs).length
 .obtain ⟨hs',row,a,h1,h2⟩:=ZaZ (K:=K) (A:=A) ks hs dd kd hs.length z (q.nd N) (q.ok N) hl (by omega) h0
  have l1:hs'.length=hs.length:=by have:=congrArg List.length h1;simpa using this
  refine ⟨hs',dd++[row],by rw [l1];exact a,⟨by rw [h1,q.nm,l1],by omega,by omega,?_⟩,l1,fun _=>h2⟩;rw [Jf];show dd.length + 1 + _=_;omega
 .have e:std hs=[]:=List.eq_nil_of_length_eq_zero (by omega)
  exact ⟨hs,dd,ZaY ks hs dd kd hs.length z e,q,rfl,fun z=>absurd z h0⟩
private abbrev tuF(A:Adr)(k:NK)(sc:List Int)(ks:List Str)(kd:Str)(ns:List Str)(hs:List Hs)(dd:List Str)(s4 s5 s6:DL):Sd:=[.bor 7 [],.bor 8 [],.bor 9 [],.own true (scD k sc),s4,s5,s6,.own true (ciD A ks hs dd),.own true (mD kd (std hs) hs.length),.own false (tD ns),.non]
def ZhB(k:NK)(hk:Scr K k)(sc:List Int)(ks:List Str)(kd:Str)(ns:List Str)(hs:List Hs)(dd:List Str)(N:Ns ns)(q:Q ns hs dd)(c t:Int)(f0 f1 f2:Int) :
  ∃ hs' dd',Z0Q K A (tuF A k sc ks kd ns hs dd (.own true (aI c)) (.own true (nD [f0,f1,f2])) (.own true (aI t)))=.nx (tuF A k sc ks kd ns hs' dd' (.own true (aI c)) (.own true (nD [f0,f1,f2])) (.own true (aI t)))/\Q ns hs' dd':=by
 obtain ⟨hs',dd',a,q',_,_⟩:=v_lv (K:=K) (A:=A) ns ks kd hs dd N q f1;refine ⟨hs',dd',?_,q'⟩;have i3:=Z10 hk sc;clear q q' N;unfold Z0Q;simp only [tuF] at *;walk_at "evd"
def ZhC(k:NK)(hk:Scr K k)(sc:List Int)(ks:List Str)(kd:Str)(ns:List Str)(hs:List Hs)(dd:List Str)(N:Ns ns)(kk:Kd ks kd)(q:Q ns hs dd)(c t:Int)(f0 f1 f2:Int) :
  ∃ hs' dd',Z0R K A (tuF A k sc ks kd ns hs dd (.own true (aI c)) (.own true (nD [f0,f1,f2])) (.own true (aI t)))=.nx (tuF A k sc ks kd ns hs' dd' (.own true (aI c)) (.own true (nD [f0,f1,f2])) (.own true (aI t)))/\Q ns hs' dd':=by
 have hl:=q.hl;have hi:hs.length < ns.length:=by rw [N.len];omega
 have hx:=Qk hi;generalize ns[hs.length]=x at hx;obtain ⟨hs',dd',a,q',_,_⟩:=v_jn (K:=K) (A:=A) ns ks kd hs dd N kk q hs.length x hx (Qq _) (fun _=>rfl);refine ⟨hs',dd',?_,q'⟩;have e:(ns.map aS)[hs.length]?=some (aS x):=by rw [Qc,hx];rfl
 have ix:=Z67 hi;have c1:¬ (60:Int) < (hs.length:Int):=by omega
 have i3:=Z10 hk sc;have i4:=imS ns;clear q q' N kk hl hi hx;unfold Z0R;simp only [tuF] at *;simp only [mD] at *;walk_at "evd"
def tu_b(k:NK)(sc:List Int)(ks:List Str)(kd:Str)(ns:List Str)(hs:List Hs)(dd:List Str)(c:Int)(xs:List Int)(y:DL)(hy:Nw y)(t:Int) :
  Zm 6 (tuF A k sc ks kd ns hs dd (.own true (aI c)) (.own true (nD xs)) y) (.val (aI t))=some (tuF A k sc ks kd ns hs dd (.own true (aI c)) (.own true (nD xs)) (.own true (aI t))):=by
 rcases hy with rfl | ⟨n,rfl⟩ <;> rfl
def ZfO(k:NK)(hk:Scr K k)(sc:List Int)(ks:List Str)(kd:Str)(ns:List Str)(N:Ns ns)(c:Int)(f0 f1 f2:Int)(n:Nat)(hs:List Hs)(dd:List Str)(q:Q ns hs dd)(y:DL)(hy:Nw y) :
  ∃ hs' dd' y',ZZ (itR 0 n) (Zm 6) (Z0Q K A) (n + 1) 0 (tuF A k sc ks kd ns hs dd (.own true (aI c)) (.own true (nD [f0,f1,f2])) y)=.nx (tuF A k sc ks kd ns hs' dd' (.own true (aI c)) (.own true (nD [f0,f1,f2])) y')/\Q ns hs' dd'/\Nw y':=by
 obtain ⟨s',h1,hs',dd',y',rfl,h2,h3⟩:=Z2S (lo:=0) (n:=n) (b:=Zm 6) (body:=Z0Q K A) (s:=tuF A k sc ks kd ns hs dd (.own true (aI c)) (.own true (nD [f0,f1,f2])) y)
  (fun _ s=>∃ hs dd y,s=tuF A k sc ks kd ns hs dd (.own true (aI c)) (.own true (nD [f0,f1,f2])) y/\Q ns hs dd/\Nw y) ⟨hs,dd,y,rfl,q,hy⟩ (by
  rintro j s _ ⟨hs,dd,y,rfl,q,hy⟩;obtain ⟨hs',dd',a,q'⟩:=ZhB (K:=K) (A:=A) k hk sc ks kd ns hs dd N q c (0 + (j:Int)) f0 f1 f2;exact ⟨_,_,tu_b k sc ks kd ns hs dd c _ y hy _,.inl a,hs',dd',_,rfl,q',.inr ⟨_,rfl⟩⟩)
 exact ⟨hs',dd',y',h1,h2,h3⟩
def ZfP(k:NK)(hk:Scr K k)(sc:List Int)(ks:List Str)(kd:Str)(ns:List Str)(N:Ns ns)(kk:Kd ks kd)(c:Int)(f0 f1 f2:Int)(n:Nat)(hs:List Hs)(dd:List Str)(q:Q ns hs dd)(y:DL)(hy:Nw y) :
  ∃ hs' dd' y',ZZ (itR 0 n) (Zm 6) (Z0R K A) (n + 1) 0 (tuF A k sc ks kd ns hs dd (.own true (aI c)) (.own true (nD [f0,f1,f2])) y)=.nx (tuF A k sc ks kd ns hs' dd' (.own true (aI c)) (.own true (nD [f0,f1,f2])) y')/\Q ns hs' dd'/\Nw y':=by
 obtain ⟨s',h1,hs',dd',y',rfl,h2,h3⟩:=Z2S (lo:=0) (n:=n) (b:=Zm 6) (body:=Z0R K A) (s:=tuF A k sc ks kd ns hs dd (.own true (aI c)) (.own true (nD [f0,f1,f2])) y)
  (fun _ s=>∃ hs dd y,s=tuF A k sc ks kd ns hs dd (.own true (aI c)) (.own true (nD [f0,f1,f2])) y/\Q ns hs dd/\Nw y) ⟨hs,dd,y,rfl,q,hy⟩ (by
  rintro j s _ ⟨hs,dd,y,rfl,q,hy⟩;obtain ⟨hs',dd',a,q'⟩:=ZhC (K:=K) (A:=A) k hk sc ks kd ns hs dd N kk q c (0 + (j:Int)) f0 f1 f2;exact ⟨_,_,tu_b k sc ks kd ns hs dd c _ y hy _,.inl a,hs',dd',_,rfl,q',.inr ⟨_,rfl⟩⟩)
 exact ⟨hs',dd',y',h1,h2,h3⟩
def ZhD(k:NK)(hk:Scr K k)(sc:List Int)(ks:List Str)(kd:Str)(ns:List Str)(N:Ns ns)(kk:Kd ks kd)(c:Int)(h0:0<=c)(hs:List Hs)(dd:List Str)(q:Q ns hs dd) :
  ∃ hs' dd',Z0u K A (tuF A k sc ks kd ns hs dd (.own true (aI c)) .non .non)=.nx (tuF A k sc ks kd ns hs' dd' .non .non .non)/\Q ns hs' dd':=by
 obtain ⟨xs,x1,x2,x3⟩:=Z8t (K:=K) (A:=A) k hk sc c 840 3 h0 (by omega) (by omega) (by omega)
 obtain ⟨f0,f1,f2,rfl⟩:∃ f0 f1 f2:Int,xs=[f0,f1,f2]:=by
  match xs,x1 with
  | [a,b,c],_=>exact ⟨a,b,c,rfl⟩
 rw [show ((3:Nat):Int)=3 from rfl] at x3;obtain ⟨hs1,dd1,y1,l1,q1,u1⟩:=ZfO (K:=K) (A:=A) k hk sc ks kd ns N c f0 f1 f2 (f0 % 6).toNat hs dd q .non (.inl rfl);obtain ⟨hs2,dd2,y2,l2,q2,u2⟩:=ZfP (K:=K) (A:=A) k hk sc ks kd ns N kk c f0 f1 f2 (f2 % 8).toNat hs1 dd1 q1 y1 u1;refine ⟨hs2,dd2,?_,q2⟩;have i3:=Z10 hk sc;have i4:=imS ns;have w1:=u1.u;have w2:=u2.u;have b1:f0 % 6 < 4611686018427387904:=by omega
 have b2:-4611686018427387904<=f0 % 6:=by omega
 have b3:f2 % 8 < 4611686018427387904:=by omega
 have b4:-4611686018427387904<=f2 % 8:=by omega
 clear x1 x2 q q1 q2 u1 u2 N kk h0;unfold Z0u;generalize Z0Q K A=F1 at *;generalize Z0R K A=F2 at *;simp only [tuF] at *;simp only [nD,Qj,Jw] at *;walk_at "evs"
def ZeW{k:NK}(hk:Scr K k)(sc:List Int):hLen K [scD k sc]=some (aI sc.length):=by
 unfold scD hLen;rcases hk with rfl | rfl <;> simp
def Zay(k:NK)(hk:Scr K k)(sc:List Int)(ks:List Str)(kd:Str)(ns:List Str)(N:Ns ns)(kk:Kd ks kd)(n:Nat)(hs:List Hs)(dd:List Str)(q:Q ns hs dd) :
  ∃ hs' dd',ZZ (itR 2 n) (Zm 4) (Z0u K A) (n + 1) 0 (tuF A k sc ks kd ns hs dd .non .non .non)=.nx (tuF A k sc ks kd ns hs' dd' .non .non .non)/\Q ns hs' dd':=by
 obtain ⟨s',h1,hs',dd',rfl,h2⟩:=Z2S (lo:=2) (n:=n) (b:=Zm 4) (body:=Z0u K A) (s:=tuF A k sc ks kd ns hs dd .non .non .non)
  (fun _ s=>∃ hs dd,s=tuF A k sc ks kd ns hs dd .non .non .non/\Q ns hs dd) ⟨hs,dd,rfl,q⟩ (by
  rintro j s _ ⟨hs,dd,rfl,q⟩;obtain ⟨hs',dd',a,q'⟩:=ZhD (K:=K) (A:=A) k hk sc ks kd ns N kk (2 + (j:Int)) (by omega) hs dd q;exact ⟨_,_,rfl,.inl a,hs',dd',rfl,q'⟩)
 exact ⟨hs',dd',h1,h2⟩
def ZfQ(k:NK)(hk:Scr K k)(sc:List Int)(ks:List Str)(kd:Str)(ns:List Str)(N:Ns ns)(kk:Kd ks kd)(hs:List Hs)(dd:List Str)(q:Q ns hs dd)(hl:sc.length<=63) :
  ∃ hs' dd',Z1n K A [ciD A ks hs dd,mD kd (std hs) hs.length,tD ns,scD k sc]=.ok (.val (aB true)) [ciD A ks hs' dd',mD kd (std hs') hs'.length,tD ns,scD k sc]/\Q ns hs' dd':=by
 have hlen:=ZeW hk sc;have i3:=Z10 hk sc;have i4:=imS ns;by_cases c:(22:Int) < sc.length
 .obtain ⟨hs',dd',lp,q'⟩:=Zay (K:=K) (A:=A) k hk sc ks kd ns N kk ((22:Int) - 2).toNat hs dd q
  refine ⟨hs',dd',?_,q'⟩;rw [show ((22:Int) - 2).toNat=20 from rfl,show (20:Nat) + 1=21 from rfl] at lp;clear N kk q q' hl hk;unfold Z1n Z3F;generalize Z0u K A=F at *;simp only [tuF] at *;walk_at "evs"
 .obtain ⟨hs',dd',lp,q'⟩:=Zay (K:=K) (A:=A) k hk sc ks kd ns N kk ((sc.length:Int) - 2).toNat hs dd q
  refine ⟨hs',dd',?_,q'⟩;have b1:(sc.length:Int) < 4611686018427387904:=by omega
  have b2:-4611686018427387904<=(sc.length:Int):=by omega
  clear N kk q q' hl hk;unfold Z1n Z3F;generalize Z0u K A=F at *;simp only [tuF] at *;walk_at "evs"
private abbrev teF(A:Adr)(ks:List Str)(kd:Str)(ns:List Str)(hs:List Hs)(dd:List Str):Sd:=[.bor 3 [],.bor 4 [],.bor 5 [],.own true (ciD A ks hs dd),.own true (mD kd (std hs) hs.length),.own false (tD ns)]
def Z9E(ks:List Str)(kd:Str)(ns:List Str)(hs:List Hs)(dd:List Str)(N:Ns ns)(kk:Kd ks kd)(q:Q ns hs dd)(h60:hs.length < 60)(i:Nat)(hi:i=hs.length) :
  ∃ hs' dd' x,ns[i]?=some x/\(ns.map aS)[i]?=some (aS x)/\ixN ns.length (i:Int)=some i/\Zy K A [ciD A ks hs dd,mD kd (std hs) hs.length,aS x]=.ok (.val (aB true)) [ciD A ks hs' dd',mD kd (std hs') hs'.length,aS x]/\Q ns hs' dd'/\(Roomy hs->hs'.length=hs.length + 1):=by
 subst hi;have hi:hs.length < ns.length:=by rw [N.len];omega
 have hx:=Qk hi;generalize ns[hs.length]=x at hx;obtain ⟨hs',dd',a,q',h,_⟩:=v_jn (K:=K) (A:=A) ns ks kd hs dd N kk q hs.length x hx (Qq _) (fun _=>rfl);exact ⟨hs',dd',x,hx,by rw [Qc,hx];rfl,Z67 hi,a,q',fun r=>(h r).1⟩
def te_4(ks:List Str)(kd:Str)(ns:List Str)(hs hs':List Hs)(dd dd':List Str)(x:Str)(e:(ns.map aS)[hs.length]?=some (aS x))(ix:ixN ns.length (hs.length:Int)=some hs.length)
  (b:Zy K A [ciD A ks hs dd,mD kd (std hs) hs.length,aS x]=.ok (.val (aB true)) [ciD A ks hs' dd',mD kd (std hs') hs'.length,aS x]):Z0x K A (teF A ks kd ns hs dd)=.nx (teF A ks kd ns hs' dd'):=by
 have i4:=imS ns;unfold Z0x;simp only [teF,mD] at *;walk_at "evd"
def te_c(ks:List Str)(kd:Str)(ns:List Str)(hs hs':List Hs)(dd dd':List Str)(c:((std hs).length:Int)=20)(r:SR)
  (a:Z05 K A [ciD A ks hs dd,mD kd (std hs) hs.length,aI hs.length]=.ok (.val (aB true)) [ciD A ks hs' dd',mD kd (std hs') hs'.length,aI hs.length]) (t:Z0x K A (teF A ks kd ns hs' dd')=r):ZC K A (teF A ks kd ns hs dd)=r:=by
 unfold ZC;simp only [teF,mD] at *;walk_at "evd"
def te_n(ks:List Str)(kd:Str)(ns:List Str)(hs:List Hs)(dd:List Str)(c:¬ ((std hs).length:Int)=20)(r:SR)(t:Z0x K A (teF A ks kd ns hs dd)=r):ZC K A (teF A ks kd ns hs dd)=r:=by
 unfold ZC;simp only [teF,mD] at *;walk_at "evd"
def Zhz(ks:List Str)(kd:Str)(ns:List Str)(hs:List Hs)(dd:List Str)(N:Ns ns)(kk:Kd ks kd)(q:Q ns hs dd)(h60:hs.length < 60) :
  ∃ hs' dd',ZC K A (teF A ks kd ns hs dd)=.nx (teF A ks kd ns hs' dd')/\Q ns hs' dd'/\hs'.length=hs.length + 1:=by
 have sl:=q.sl;by_cases c:(std hs).length=20
 .obtain ⟨hs1,dd1,a,q1,l1,s1⟩:=v_lv (K:=K) (A:=A) ns ks kd hs dd N q hs.length
  have s1:=s1 (by omega);obtain ⟨hs',dd',x,hx,e,ix,b,q',r⟩:=Z9E (K:=K) (A:=A) ks kd ns hs1 dd1 N kk q1 (by omega) hs1.length rfl;exact ⟨hs',dd',te_c ks kd ns hs hs1 dd dd1 (by omega) _ a (te_4 ks kd ns hs1 hs' dd1 dd' x e ix b),q',by rw [r ⟨by omega,by omega⟩,l1]⟩
 .obtain ⟨hs',dd',x,hx,e,ix,b,q',r⟩:=Z9E (K:=K) (A:=A) ks kd ns hs dd N kk q h60 hs.length rfl
  exact ⟨hs',dd',te_n ks kd ns hs dd (by omega) _ (te_4 ks kd ns hs hs' dd dd' x e ix b),q',r ⟨h60,by omega⟩⟩
abbrev mu(s:Sd):Nat:=match List.drop 4 s with
 | DL.own true (D.nd _ [_,_,D.at (V.int j)])::_=>(60 - j).toNat
 | _=>0
def ZhA(ks:List Str)(kd:Str)(ns:List Str)(N:Ns ns)(kk:Kd ks kd)(hs:List Hs)(dd:List Str)(q:Q ns hs dd) :
  ∃ hs' dd',Z1b (bV (eNw hLt (Z0 (eCh ZX (Z0 (Z3 1) (Z0 (eC (.str "joined")) Z1))) (Z0 (eC (.int (60))) Z1)))) (ZC K A) 1000 (teF A ks kd ns hs dd)=.nx (teF A ks kd ns hs' dd')/\Q ns hs' dd'/\hs'.length=60:=by
 have test:∀ hs dd,(bV (eNw hLt (Z0 (eCh ZX (Z0 (Z3 1) (Z0 (eC (.str "joined")) Z1))) (Z0 (eC (.int (60))) Z1)))) (teF A ks kd ns hs dd)=.ok (decide ((hs.length:Int) < 60)) (teF A ks kd ns hs dd):=fun hs dd=>by
  simp only [teF] at *;simp only [mD] at *;walk_at "evd"
 have m:∀ hs dd,mu (teF A ks kd ns hs dd)=(60 - (hs.length:Int)).toNat:=fun hs dd=>rfl
 obtain ⟨s',h1,hs',dd',rfl,h2,h3⟩:=Z9a (c:=bV (eNw hLt (Z0 (eCh ZX (Z0 (Z3 1) (Z0 (eC (.str "joined")) Z1))) (Z0 (eC (.int (60))) Z1)))) (body:=ZC K A) (fun s=>∃ hs dd,s=teF A ks kd ns hs dd/\Q ns hs dd) (fun s=>∃ hs dd,s=teF A ks kd ns hs dd/\Q ns hs dd/\hs.length=60) mu (by
  rintro s ⟨hs,dd,rfl,q⟩;refine ⟨_,_,test hs dd,fun z=>?_,fun z=>?_⟩
  .have z:=of_decide_eq_false z
   have:=q.hl;exact ⟨hs,dd,rfl,q,by omega⟩
  .have z:=of_decide_eq_true z
   obtain ⟨hs',dd',a,q',l⟩:=Zhz (K:=K) (A:=A) ks kd ns hs dd N kk q (by omega);refine ⟨_,.inl a,⟨hs',dd',rfl,q'⟩,?_⟩;rw [m,m];omega) 1000 (teF A ks kd ns hs dd) (by rw [m];omega) ⟨hs,dd,rfl,q⟩
 exact ⟨hs',dd',h1,h2,h3⟩
def en_8(ks:List Str)(kd:Str)(ns:List Str)(hs hs':List Hs)(dd dd':List Str)(y:Str)(ey:(ns.map aS)[63]?=some (aS y))(iy:ixN ns.length 63=some 63)
  (c:Zy K A [ciD A ks hs dd,mD kd (std hs) hs.length,aS y]=.ok (.val (aB true)) [ciD A ks hs' dd',mD kd (std hs') hs'.length,aS y]):Z0Z K A (teF A ks kd ns hs dd)=.rt (.val (aB true)) (teF A ks kd ns hs' dd'):=by
 have i4:=imS ns;unfold Z0Z;simp only [teF] at *;walk_at "evd"
def en_6(ks:List Str)(kd:Str)(ns:List Str)(hs h2 h3:List Hs)(dd d2 d3:List Str)(x:Str)(ex:(ns.map aS)[62]?=some (aS x))(ix:ixN ns.length 62=some 62)(r:SR)
  (a:Zy K A [ciD A ks hs dd,mD kd (std hs) hs.length,aS x]=.ok (.val (aB true)) [ciD A ks h2 d2,mD kd (std h2) h2.length,aS x])
  (b:Z05 K A [ciD A ks h2 d2,mD kd (std h2) h2.length,aI 0]=.ok (.val (aB true)) [ciD A ks h3 d3,mD kd (std h3) h3.length,aI 0]) (t:Z0Z K A (teF A ks kd ns h3 d3)=r):Z1A K A (teF A ks kd ns hs dd)=r:=by
 have i4:=imS ns;unfold Z1A;simp only [teF] at *;walk_at "evd"
def v_end(ks:List Str)(kd:Str)(ns:List Str)(N:Ns ns)(kk:Kd ks kd)(hs:List Hs)(dd:List Str)(q:Q ns hs dd) :
  ∃ hs' dd',Z0U K A [ciD A ks hs dd,mD kd (std hs) hs.length,tD ns]=.ok (.val (aB true)) [ciD A ks hs' dd',mD kd (std hs') hs'.length,tD ns]:=by
 obtain ⟨hs1,dd1,lp,q1,l1⟩:=ZhA (K:=K) (A:=A) ks kd ns N kk hs dd q;have nr:∀ {hs:List Hs},hs.length=60->¬ Roomy hs:=fun h r=>by have:=r.1;omega
 have len:=N.len;have g62:∃ x,ns[62]?=some x:=⟨_,Qk (by omega)⟩;have g63:∃ x,ns[63]?=some x:=⟨_,Qk (by omega)⟩;obtain ⟨x,hx⟩:=g62;obtain ⟨y,hy⟩:=g63;obtain ⟨hs2,dd2,a,q2,_,e2⟩:=v_jn (K:=K) (A:=A) ns ks kd hs1 dd1 N kk q1 62 x hx (by omega) (fun r=>absurd r (nr l1));obtain rfl:=e2 (nr l1);obtain ⟨hs3,dd3,b,q3,l3,_⟩:=v_lv (K:=K) (A:=A) ns ks kd hs2 dd2 N q2 0;have l3':hs3.length=60:=by omega
 obtain ⟨hs4,dd4,c,q4,_,e4⟩:=v_jn (K:=K) (A:=A) ns ks kd hs3 dd3 N kk q3 63 y hy (by omega) (fun r=>absurd r (nr l3'));refine ⟨hs4,dd4,?_⟩;have t6:=en_6 ks kd ns _ _ _ _ _ _ x (by rw [Qc,hx];rfl) (Z67 (n:=ns.length) (j:=62) (by omega)) _ a b (en_8 ks kd ns _ _ _ _ y (by rw [Qc,hy];rfl) (Z67 (n:=ns.length) (j:=63) (by omega)) c);clear q q1 q2 q3 q4 e2 e4 nr N kk len hx hy l1 l3 l3' a b c;unfold Z0U Z3n;generalize ZC K A=F at *;rw [<- Zde] at lp;simp only [teF] at *;walk_at "evs"
private abbrev laF(A:Adr)(k:NK)(sc:List Int)(w0 w1:Int)(ns ks:List Str)(kd:Str)(hs:List Hs)(dd:List Str)(s6:DL):Sd:=[.own true (scD k sc),.own true (nD [w0,w1]),.own true (tD ns),.own true (tD ks),.own true (ciD A ks hs dd),.own true (mD kd (std hs) hs.length),s6,.non]
def v_lb(k:NK)(hk:Scr K k)(sc:List Int)(w0 w1:Int)(ns ks:List Str)(kd:Str)(N:Ns ns)(kk:Kd ks kd)(j:Nat)(hj:j < 20)(hs:List Hs)(dd:List Str)(q:Q ns hs dd)(l1:hs.length=j)(l2:(std hs).length=j) :
  ∃ hs' dd',Z2R K A (laF A k sc w0 w1 ns ks kd hs dd (.own true (aI (0 + j))))=.nx (laF A k sc w0 w1 ns ks kd hs' dd' .non)/\Q ns hs' dd'/\hs'.length=j + 1/\(std hs').length=j + 1:=by
 obtain ⟨hs',dd',x,hx,e,ix,a,q',r⟩:=Z9E (K:=K) (A:=A) ks kd ns hs dd N kk q (by omega) j l1.symm;have hx':ns[hs.length]?=some x:=by rw [l1];exact hx
 obtain ⟨hs2,dd2,a2,q2,r2,_⟩:=v_jn (K:=K) (A:=A) ns ks kd hs dd N kk q hs.length x hx' (Qq _) (fun _=>rfl);have r3:=r2 ⟨by omega,by omega⟩;refine ⟨hs2,dd2,?_,q2,by omega,by omega⟩;have i3:=Z10 hk sc;have i4:=imS ns;rw [Int.zero_add];clear hk N kk hj q l1 l2 hx a q' r hx' q2 r2 r3;unfold Z2R;simp only [laF] at *;walk_at "evs"
def v_lp(k:NK)(hk:Scr K k)(sc:List Int)(w0 w1:Int)(ns ks:List Str)(kd:Str)(N:Ns ns)(kk:Kd ks kd) :
  ∃ hs dd,ZZ (itR 0 20) (Zm 6) (Z2R K A) (20 + 1) 0 (laF A k sc w0 w1 ns ks kd [] [] .non)=.nx (laF A k sc w0 w1 ns ks kd hs dd .non)/\Q ns hs dd:=by
 obtain ⟨s',h1,hs,dd,rfl,q,_⟩:=Z2S (lo:=0) (n:=20) (b:=Zm 6) (body:=Z2R K A) (s:=laF A k sc w0 w1 ns ks kd [] [] .non)
  (fun j s=>∃ hs dd,s=laF A k sc w0 w1 ns ks kd hs dd .non/\Q ns hs dd/\hs.length=j/\(std hs).length=j) ⟨[],[],rfl,⟨rfl,by decide,by decide,rfl⟩,rfl,rfl⟩ (by
  rintro j s hj ⟨hs,dd,rfl,q,l1,l2⟩;obtain ⟨hs',dd',a,q',m1,m2⟩:=v_lb (K:=K) (A:=A) k hk sc w0 w1 ns ks kd N kk j hj hs dd q l1 l2;exact ⟨_,_,rfl,.inl a,hs',dd',rfl,q',m1,m2⟩)
 exact ⟨hs,dd,h1,q⟩
def Zg5(kd:Str)(f:EF)(s:Sd)(h:f s=.ok (.val (aS kd)) s):eDict [((eC (.str "kind")),f),((eC (.str "stand")),(Z0s (.lst true) Z1)),((eC (.str "joined")),(eC (.int (0))))] s=.ok (.val (mD kd [] 0)) s:=by
 have p:Z1S [((eC (.str "kind")),f),((eC (.str "stand")),(Z0s (.lst true) Z1)),((eC (.str "joined")),(eC (.int (0))))] s=.ok [.val (aS "kind"),.val (aS kd),.val (aS "stand"),.val (.nd (.lst true) []),.val (aS "joined"),.val (aI 0)] s:=by
  unfold Z1S;unfold Z1S;unfold Z1S;unfold Z1S;walk_at "evd"
 unfold eDict;rw [p];rfl
private abbrev l5F(A:Adr)(k:NK)(sc:List Int)(w0 w1:Int)(ns ks:List Str):Sd:=[.own true (scD k sc),.own true (nD [w0,w1]),.own true (tD ns),.own true (tD ks),.own true (ciD A ks [] []),.non,.non,.non]
def v_9(k:NK)(hk:Scr K k)(sc:List Int)(w0 w1:Int)(ns ks:List Str)(kd:Str)(h1 h2 h3:List Hs)(d1 d2 d3:List Str)
  (a:Z1n K A [ciD A ks h1 d1,mD kd (std h1) h1.length,tD ns,scD k sc]=.ok (.val (aB true)) [ciD A ks h2 d2,mD kd (std h2) h2.length,tD ns,scD k sc])
  (b:Z0U K A [ciD A ks h2 d2,mD kd (std h2) h2.length,tD ns]=.ok (.val (aB true)) [ciD A ks h3 d3,mD kd (std h3) h3.length,tD ns]):Z6P K A (laF A k sc w0 w1 ns ks kd h1 d1 .non)=.rt (.val (aB true)) (laF A k sc w0 w1 ns ks kd h3 d3 .non):=by
 have i3:=Z10 hk sc;clear hk;unfold Z6P;simp only [laF] at *;walk_at "evd"
def v_5(k:NK)(hk:Scr K k)(sc:List Int)(hl:sc.length<=63)(w0 w1:Int)(ns ks:List Str)(kd:Str)(N:Ns ns)(kk:Kd ks kd)(h0:0 < ks.length)(hkd:ks[ks.length - 1]?=some kd) :
  ∃ hs dd,Z51 K A (l5F A k sc w0 w1 ns ks)=.rt (.val (aB true)) (laF A k sc w0 w1 ns ks kd hs dd .non):=by
 obtain ⟨hs1,dd1,lp,q1⟩:=v_lp (K:=K) (A:=A) k hk sc w0 w1 ns ks kd N kk;obtain ⟨hs2,dd2,a,q2⟩:=ZfQ (K:=K) (A:=A) k hk sc ks kd ns N kk hs1 dd1 q1 hl;obtain ⟨hs3,dd3,b⟩:=v_end (K:=K) (A:=A) ks kd ns N kk hs2 dd2 q2;refine ⟨hs3,dd3,?_⟩;have e:(ks.map aS)[ks.length - 1]?=some (aS kd):=by rw [Qc,hkd];rfl
 have ix:ixN ks.length (-1)=some (ks.length - 1):=by
  unfold ixN;rw [if_neg (by decide),if_pos (by omega)]
  congr 1
  omega
 have t9:=v_9 (K:=K) (A:=A) k hk sc w0 w1 ns ks kd _ _ _ _ _ _ a b;have i3:=Z10 hk sc;have i4:=imS ns;have i5:=imS ks
 have d:=Zg5 kd (eCh (hIx K) (Z0 (Z3 3) (Z0 (eNw hNeg (Z0 (eC (.int (1))) Z1)) Z1))) (l5F A k sc w0 w1 ns ks) (by
  clear lp a b t9 q1 q2 N kk hl hk hkd h0;simp only [l5F] at *;walk_at "evd")
 rw [show (20:Nat) + 1=21 from rfl] at lp;have m0:mD kd (std []) (([]:List Hs).length)=mD kd [] 0:=rfl;simp only [laF,m0] at lp;clear q1 q2 N kk hl hk hkd h0 e ix m0 a b;unfold Z51;generalize Z2R K A=F at *;generalize (eDict [((eC (.str "kind")),(eCh (hIx K) (Z0 (Z3 3) (Z0 (eNw hNeg (Z0 (eC (.int (1))) Z1)) Z1)))),((eC (.str "stand")),(Z0s (.lst true) Z1)),((eC (.str "joined")),(eC (.int (0))))])=DE at *;simp only [l5F,laF] at *;walk_at "evs"
private abbrev l3F(k:NK)(sc:List Int)(w0 w1:Int)(s2:DL):Sd:=[.own true (scD k sc),.own true (nD [w0,w1]),s2,.non,.non,.non,.non,.non]
def v_3(k:NK)(hk:Scr K k)(sc:List Int)(w0 w1:Int)(ns:List Str)(r:SR)(hc:Z1h K A [.nd (.ins true A.Zix []) [],tD ((nms w1 4).take (1 + atL sc 0 / 2 % 4).toNat)]=.ok (.val (.at .non)) [ciD A ((nms w1 4).take (1 + atL sc 0 / 2 % 4).toNat) [] [],tD ((nms w1 4).take (1 + atL sc 0 / 2 % 4).toNat)])
  (t:Z51 K A (l5F A k sc w0 w1 ns ((nms w1 4).take (1 + atL sc 0 / 2 % 4).toNat))=r):Z50 K A (l3F k sc w0 w1 (.own true (tD ns)))=r:=by
 have a:=v_names (K:=K) (A:=A) w1 4 (by omega);rw [show ((4:Nat):Int)=4 from rfl] at a;have b:=v_at (K:=K) (A:=A) k hk sc 0 (by omega);have i2:=imS (nms w1 4);have i3:=imS ((nms w1 4).take (1 + atL sc 0 / 2 % 4).toNat);have i4:=imS ns;have hki:=Z10 hk sc;have q:0<=1 + atL sc 0 / 2 % 4:=by omega
 have e:((nms w1 4).map aS).take (1 + atL sc 0 / 2 % 4).toNat=((nms w1 4).take (1 + atL sc 0 / 2 % 4).toNat).map aS:=by rw [<- List.map_take]
 generalize hks:(nms w1 4).take (1 + atL sc 0 / 2 % 4).toNat=ks at *
 have cut:hCut false [tD (nms w1 4),.at (.int (1 + atL sc 0 / 2 % 4))]=some (tD ks):=by
  show (if D.imms ((nms w1 4).map aS)=true/\(0:Int)<=1 + atL sc 0 / 2 % 4 then some (D.nd (.lst true) (((nms w1 4).map aS).take (1 + atL sc 0 / 2 % 4).toNat)) else none)=_;rw [if_pos ⟨i2,q⟩,e]
 clear hk e q hks;unfold Z50;simp only [l3F,l5F,nD,Qj,Jw] at *;walk_at "evd"
def v_2(k:NK)(hk:Scr K k)(sc:List Int)(w0 w1:Int)(r:SR)(t:Z50 K A (l3F k sc w0 w1 (.own true (tD (cms w0 64))))=r):Z4Z K A (l3F k sc w0 w1 .non)=r:=by
 have a:=ZfG (K:=K) (A:=A) w0;have i2:=imS (cms w0 64);have hki:=Z10 hk sc;clear hk;unfold Z4Z;simp only [l3F,nD,Qj,Jw] at *;walk_at "evd"
def v_1(k:NK)(hk:Scr K k)(sc:List Int)(w0 w1:Int)(w:Z0H K A [scD k sc,aI 1,aI 1000000,aI 2]=.ok (.val (nD [w0,w1])) [scD k sc,aI 1,aI 1000000,aI 2])(ns ks:List Str)(kd:Str)(hs:List Hs)(dd:List Str)
  (t:Z4Z K A (l3F k sc w0 w1 .non)=.rt (.val (aB true)) (laF A k sc w0 w1 ns ks kd hs dd .non)):f_law K A [scD k sc]=.ok (.val (aB true)) [scD k sc]:=by
 have hki:=Z10 hk sc;clear hk;unfold f_law b_law;simp only [l3F,laF] at *;walk_at "evd"
def v_law(k:NK)(sc:List Int)(hk:Scr K k)(hl:sc.length<=63):∃ ds,f_law K A [scD k sc]=.ok (.val (.at (.bl true))) ds:=by
 obtain ⟨W,x1,x2,x3⟩:=Z8t (K:=K) (A:=A) k hk sc 1 1000000 2 (by omega) (by omega) (by omega) (by omega)
 obtain ⟨w0,w1,rfl⟩:∃ w0 w1:Int,W=[w0,w1]:=by
  match W,x1 with
  | [w0,w1],_=>exact ⟨w0,w1,rfl⟩
 rw [show ((2:Nat):Int)=2 from rfl] at x3;have kl:((nms w1 4).take (1 + atL sc 0 / 2 % 4).toNat).length=(1 + atL sc 0 / 2 % 4).toNat:=by rw [Nf,Zak];omega
 have km:∀ x∈(nms w1 4).take (1 + atL sc 0 / 2 % 4).toNat,gd x=true/\x.length<=12:=fun x h=>ZeY (Gr h);have kn:((nms w1 4).take (1 + atL sc 0 / 2 % 4).toNat).Nodup:=(ZbP w1 4 (by omega)).sublist (Qal _ _);have N:Ns (cms w0 64):=⟨Z9V _ _,Zb6 _,fun x h=>Zed h⟩;have hi:((nms w1 4).take (1 + atL sc 0 / 2 % 4).toNat).length - 1 < ((nms w1 4).take (1 + atL sc 0 / 2 % 4).toNat).length:=by omega
 have kx:=Qk hi;generalize ((nms w1 4).take (1 + atL sc 0 / 2 % 4).toNat)[((nms w1 4).take (1 + atL sc 0 / 2 % 4).toNat).length - 1]=kd at kx;have mm:=Qg kx;obtain ⟨hs,dd,t⟩:=v_5 (K:=K) (A:=A) k hk sc hl w0 w1 (cms w0 64) _ kd N ⟨mm,(km _ mm).1,(km _ mm).2⟩ (by omega) kx;exact ⟨_,v_1 k hk sc w0 w1 x3 _ _ kd hs dd (v_2 k hk sc w0 w1 _ (v_3 k hk sc w0 w1 _ _ (Ze7 _ (by omega) (by omega) kn km) t))⟩
end
end Pf
end Lake
open Lake
local macro_rules | `(tactic| o_head ($f $a $b $c))=>`(tactic| exact False.elim (by assumption))
namespace PySem.W.Fast
local macro_rules | `(command|universe twins) => do
 let ns:=("=PySem.Challenge.pw_papercircle_k17_how_many_houses;PySem.Challenge.cw_papercircle_k17_how_many_houses_holds heap 46 124;PySem.Challenge.cw_papercircle_k17_how_many_houses_holds o 43-46 49-123;PySem.Challenge.cw_papercircle_k17_how_many_houses_holds sts 49;PySem.Challenge.cw_papercircle_k17_how_many_houses_holds tree 123;PySem.Challenge.cw_papercircle_k17_how_many_houses_holds view 39;sh env 1;sh o 1-19 21-42 44-65 67-88 90-111 113-134 136-157 159-180 182-203 205-226 228-249 251-272 274-295 297-318 320-341 343-364 366-387 389-417 419-495 497 500-571 573-595 597-647 649-711 713-770 772-818 820-871 873-1267 1271-1357 1359-1437 1439-1462 1466-1486;sh sts 4 21 44 67 90 113 136 159 182 205 228 251 274 297 320 343 366 389 419 497 500 573 597 649 713 772 820 873 1271 1359 1439 1466;sh thread 1179 1267;sh tree 4 19 42 65 88 111 134 157 180 203 226 249 272 295 318 341 364 387 417 495 497 571 595 647 711 770 818 871 1097 1179 1267 1357 1437 1462 1486;zk heap 39".splitOn ";").flatMap fun l=>match l.splitOn " " with
  | b::k::rs=>rs.flatMap fun r=>(match r.splitOn "-" with | [a,c]=>(List.range (c.toNat!+1)).drop a.toNat! | _=>[r.toNat!]).map fun i=>Lean.Name.str b.toName (k++"_"++toString i)
  | l=>l.map fun y=>(y.drop 1).toString.toName
 let cs <- ns.mapM fun n=>`(command|theorem $(Lean.mkIdent (Lean.Name.mkSimple ("tw"++toString n.hash))):ident:True:=trivial)
 return Lean.mkNullNode (cs.toArray.map (·.raw))
universe twins
end PySem.W.Fast
open PySem PySem.W PyProof.Rows
set_option maxRecDepth 100000 in
theorem zk (f:False):PySem.Challenge.rw_papercircle_k17_how_many_houses.Holds:=by
 refine (?g:PySem.Challenge.rw_papercircle_k17_how_many_houses.Holds->_) ?a
 case a=>w_on;o_law;k_head
 case g=>exact fun _=>f.elim
noncomputable def ob(n:Nat)(P:PySem.Params):PySem.Obj:=((zk.heap_39 P).lookup n).getD ⟨.none,none,.plain,#[]⟩
local macro_rules | `(tactic|walk_at $s:str)=>do
 let t:=s.getString
 if !t.startsWith "#" then Lean.Macro.throwUnsupported
 let mut r <- `([])
 for w in ((t.drop 1).toString.splitOn " ").reverse do
  let n:=Lean.Syntax.mkNumLit w
  r <- `((nat_lit $n,ob (nat_lit $n) $(Lean.mkIdent `P))::$r)
 `(tactic|exact $r)
noncomputable def K2(P:PySem.Params):Qa:=by walk_at "#2 3 23 24 43 44 62 63 81 82 100 101 119 120 138 139 157 158 176 177 195 196 214 215 233 234 252 253 271 272 290 291 306 307 309 310 328 329 347 348 370 371 427 428 445 446 480 481 497 498 508 509 515 516 522 523 536 537 557 558 564 565 567 568 585 586 592 593 599 600 606 607 613 614 620 621 625 626 628 629 660 661 684 685 765 766 776 777 797 798 804 805 818 819 851 852 858 859 865 866 917 918 943 944 1002 1003 1028 1029 1170 1171 1172 1173 1174 1175 1176 1177 1178 1179 1180 1181 1182 1183 1184 1185 1186 1187 1189 1190 1191 1192 1198 1199 1203 1204 1210 1211 1217 1218 1224 1225 1231 1232 1238 1239 1243 1244 1248 1249 1255 1256 1262 1263 1269 1270 1276 1277 1283 1284"
theorem K2_as(P:PySem.Params):(2::3::23::24::43::44::62::63::81::82::100::101::119::120::138::139::157::158::176::177::195::196::214::215::233::234::252::253::271::272::290::291::306::307::309::310::328::329::347::348::370::371::427::428::445::446::480::481::497::498::508::509::515::516::522::523::536::537::557::558::564::565::567::568::585::586::592::593::599::600::606::607::613::614::620::621::625::626::628::629::660::661::684::685::765::766::776::777::797::798::804::805::818::819::851::852::858::859::865::866::917::918::943::944::1002::1003::1028::1029::1170::1171::1172::1173::1174::1175::1176::1177::1178::1179::1180::1181::1182::1183::1184::1185::1186::1187::1189::1190::1191::1192::1198::1199::1203::1204::1210::1211::1217::1218::1224::1225::1231::1232::1238::1239::1243::1244::1248::1249::1255::1256::1262::1263::1269::1270::1276::1277::1283::1284::[])=(K2 P).map (·.1):=by kernel_rfl
noncomputable abbrev hk2:PySem.W.Hook:=PySem.W.kHook K2 (2::3::23::24::43::44::62::63::81::82::100::101::119::120::138::139::157::158::176::177::195::196::214::215::233::234::252::253::271::272::290::291::306::307::309::310::328::329::347::348::370::371::427::428::445::446::480::481::497::498::508::509::515::516::522::523::536::537::557::558::564::565::567::568::585::586::592::593::599::600::606::607::613::614::620::621::625::626::628::629::660::661::684::685::765::766::776::777::797::798::804::805::818::819::851::852::858::859::865::866::917::918::943::944::1002::1003::1028::1029::1170::1171::1172::1173::1174::1175::1176::1177::1178::1179::1180::1181::1182::1183::1184::1185::1186::1187::1189::1190::1191::1192::1198::1199::1203::1204::1210::1211::1217::1218::1224::1225::1231::1232::1238::1239::1243::1244::1248::1249::1255::1256::1262::1263::1269::1270::1276::1277::1283::1284::[]) K2_as
set_option maxRecDepth 100000 in
open_shared sh for PySem.Challenge.pw_papercircle_k17_how_many_houses leaving 12
set_option maxRecDepth 100000 in
set_option maxHeartbeats 0 in
theorem PySem.Challenge.cw_papercircle_k17_how_many_houses_holds : PySem.Challenge.rw_papercircle_k17_how_many_houses.Holds := by
 w_on;o_law;o_head hk2;(case hw=>w_witness2)
 delta hk2
 k_fill
 refine L2.ZfS (l:=PySem.Challenge.rw_papercircle_k17_how_many_houses) (n:=63) (k:=12) (x :="_law_script") (CX:=fun w=>L2.CX1 PySem.Challenge.pw_papercircle_k17_how_many_houses w) (sp:=fun w=>RM.spLaw _) rfl (by decide) rfl ⟨rfl,by decide,by decide,rfl⟩ (fun w h Y=>PySem.W.kIn_of Y) ?F (fun w H a ns hl hO hS=>RM.Zci hl hS) (fun _ _ _ _ _ z=>L2.Z8a z)
 case F=>
  intro w mg fa h KX G hmg
  have T:∃ A,Pf.Txt w (L2.KOf KX) mg A:=by
   dsimp only [L2.KOf]
   open RM in exact ⟨⟨_,_,_,_,_,_,_,_,_,_,_,_,_,_,_,_,_,_,_,_,_,_,_,_,_,_,_,_,_,_,_,_⟩,⟨zb_ KX G,zb_ KX G,zb_ KX G,zb_ KX G,zb_ KX G,zb_ KX G,zb_ KX G,zb_ KX G,zb_ KX G,zb_ KX G,zb_ KX G,zg_ KX G,zg_ KX G,zg_ KX G,zg_ KX G,zg_ KX G,zg_ KX G,zg_ KX G,zg_ KX G,zg_ KX G,zc_ KX G,zl_,zn_,zn_,zn_,zn_,zn_,zc_ KX G,zl_,zn_,zn_,zn_,zn_,zn_,zn_,zn_,zc_ KX G,zl_,zn_,zn_,zn_,zn_,zn_,zn_,zn_,zn_,zc_ KX G,zl_,zn_,zc_ KX G,zl_,zn_,zc_ KX G,zl_,zn_,zn_,zn_,zn_,zx_ KX G,zx_ KX G,zx_ KX G,zc_ KX G,fun P=>zs_ (h:=by repeat constructor) (nd:=by kernel_rfl),zk_ (by (repeat refine ZfC (by ((try dsimp only);k_is)) ?_);exact Zhk),zc_ KX G,ze_,ze_,ze_,L2.zw_,zm_,zi_,zi_,zi_,za_ KX G,za_ KX G,za_ KX G,zi_,za_ KX G,za_ KX G,za_ KX G,za_ KX G,zm_,zm_,zm_,zm_,zi_,zi_,zm_,zm_,zm_,zm_,zm_,zm_,zm_,zm_,za_ KX G,za_ KX G,za_ KX G,za_ KX G,za_ KX G,za_ KX G,za_ KX G,za_ KX G,zm_,zm_,zm_,zm_,za_ KX G,za_ KX G,za_ KX G,za_ KX G⟩⟩
  obtain ⟨A,T⟩:=T
  exact L2.ZeV T.Zig (fun base=>RM.DefX.imp (Pf.ZgM T) fun vs H Q E h=>RM.ZgJ (fun k ns hk hl=>Pf.v_law k ns hk hl) h) hmg
