import PyProof.Rows.All
import Wide.All
import OpenK.AllK
import Wide.FinOn
import Lean
import PyProof.EqAt
import PyProof.EqKinds
import PyProof.TupleCall
import PySem.Challenge.RW_outweave_k48_whole_folded_and_joined
set_option Elab.async false
set_option linter.all false
set_option maxRecDepth 100000
set_option maxHeartbeats 4000000
section
open PySem PyProof.Rows
abbrev za:=@wpAny_bind
abbrev zb:=@wpAny_pure
abbrev zc:=@Nat.le_refl
abbrev zd:=@List.map_cons
abbrev ze:=@Heap.lt_size
abbrev zf:=@List.length_map
abbrev zg:=@decide_eq_false
abbrev zh:=@Bool.false_ne_true
abbrev zj:=@decide_eq_true
abbrev zk:=@List.mem_cons
abbrev zl:=@List.getElem?_eq_some_iff
abbrev zm:=@Heap.get?_push_of_some
abbrev zn:=@List.mem_singleton
abbrev zo:=@Bool.and_eq_true
abbrev zp:=@List.getElem?_eq_getElem
abbrev zq:=@List.size_toArray
abbrev zr:=@List.getElem?_set_ne
abbrev zt:=@Option.some.inj
abbrev zu:=@Nat.ne_of_lt
abbrev zv:=@List.length_cons
abbrev zw:=@List.getElem?_map
abbrev zx:=@List.mem_cons_self
abbrev zy:=@Heap.get?_push_size
abbrev zz:=@List.length_append
abbrev zA:=@List.getElem?_cons_succ
abbrev zB:=@List.mem_cons_of_mem
abbrev zC:=@List.getElem?_cons_zero
abbrev zD:=@List.getElem?_append_left
abbrev zE:=@List.mem_append
abbrev zF:=@Nat.lt_of_lt_of_le
abbrev zG:=@Nat.le_trans
abbrev zH:=@List.mem_map
abbrev zI:=@List.getElem?_append_right
abbrev zJ:=@List.map_nil
abbrev zK:=@List.nil_append
abbrev zL:=@wpAny_mono
abbrev zM:=@List.mem_of_getElem?
abbrev zN:=@List.length_nil
abbrev zO:=@List.mem_append_right
abbrev zP:=@List.map_map
abbrev zQ:=@List.map_append
abbrev zR:=@Nat.lt_irrefl
abbrev zS:=@List.getElem?_set_self
abbrev zT:=@wpAny_holding
abbrev zU:=@List.set_cons_zero
abbrev zV:=@Int.emod_nonneg
abbrev zW:=@Nat.zero_add
abbrev zX:=@Int.emod_lt_of_pos
abbrev zY:=@List.set_cons_succ
abbrev zZ:=@List.append_nil
abbrev ja:=@List.length_singleton
abbrev jb:=@List.map_congr_left
abbrev jc:=@List.append_assoc
abbrev jd:=@wpAny_rule
abbrev je:=@wpAny_updateSeq
abbrev jf:=@List.getD_eq_getElem?_getD
abbrev jg:=@Nat.lt_succ_of_lt
abbrev jh:=@of_decide_eq_true
abbrev ji:=@codeAny_builtin
abbrev jj:=@Nat.lt_succ_self
abbrev jk:=@Heap.get?_update_other
abbrev jl:=@List.length_set
abbrev jm:=@wpAny_letGo
abbrev jn:=@List.getElem_mem
abbrev jo:=@List.nodup_append
abbrev jp:=@Nat.le_add_right
abbrev jq:=@List.all_eq_true
end
namespace PySem.W.Fast
abbrev tw1832211538109058060:=()
abbrev tw12248424985606717594:=()
abbrev tw8209258532367171346:=()
abbrev tw12671090448873296703:=()
abbrev tw11582202017123077426:=()
abbrev tw14475008296445282422:=()
abbrev tw12206530562590641937:=()
abbrev tw13996118776190323327:=()
abbrev tw7627459098417620072:=()
abbrev tw5663976379154893600:=()
abbrev tw338287531011637368:=()
abbrev tw2692473787168173183:=()
abbrev tw10242926198423406186:=()
abbrev tw12982090336673925526:=()
abbrev tw5914468890814847164:=()
abbrev tw3483010391596119546:=()
abbrev tw4301021782515315141:=()
abbrev tw16183357792483403651:=()
abbrev tw12462509082757225266:=()
abbrev tw3979121633416919440:=()
end PySem.W.Fast
namespace L2
open PySem PySem.Spec PyProof.Rows
abbrev Key:=Sum Int Str
def oh:Key->Value->Bool
 | .inl k,v=>Value.isInt k v
 | .inr x,v=>Value.isStrOf x v
def Ov(w:World):Key->Int
 | .inl k=>hashInt k
 | .inr x=>hashStr w x
theorem jQ:∀{k:Key}{v:Value},oh k v=true->(∃i t,k=Sum.inl i/\v=Value.int i t)\/(∃x t,k=Sum.inr x/\v=Value.str x t)
 | .inl i,v,h=>by
  obtain⟨t,e⟩:=Value.isInt_shape (k:=i) (v:=v) h;exact .inl ⟨i,t,rfl,e⟩
 | .inr x,v,h=>by
  obtain⟨t,e⟩:=Value.isStrOf_shape (x:=x) (v:=v) h;exact .inr ⟨x,t,rfl,e⟩
theorem Ox(i:Int)(t:Tok):oh (.inl i) (.int i t)=true:=by simp[oh,Value.isInt]
theorem Oz(x:Str)(t:Tok):oh (.inr x) (.str x t)=true:=by simp[oh,Value.isStrOf]
theorem OD(a b:Int):decide ((Sum.inl a:Key)=Sum.inl b)=(a == b):=by
 by_cases e:a=b
 ·subst e;simp
 ·have h:¬(Sum.inl a:Key)=Sum.inl b:=λq=>e (Sum.inl.inj q)
  rw[zg h];exact(beq_eq_false_iff_ne.mpr e).symm
theorem OJ(a b:Str):decide ((Sum.inr a:Key)=Sum.inr b)=decide (a=b):=by
 by_cases e:a=b
 ·subst e;simp
 ·have h:¬(Sum.inr a:Key)=Sum.inr b:=λq=>e (Sum.inr.inj q)
  rw[zg h,zg e]
theorem O5(a:Int)(b:Str):decide ((Sum.inl a:Key)=Sum.inr b)=false:=zg (λq=>nomatch q)
theorem O7(a:Str)(b:Int):decide ((Sum.inr a:Key)=Sum.inl b)=false:=zg (λq=>nomatch q)
def d8(prog:Program)(w:World):PySem.KeyKind prog w Key where
 is:=oh
 hash:=Ov w
 inj:=λv a b ha hb=>by
  rcases jQ ha with⟨i,t,rfl,rfl⟩ | ⟨x,t,rfl,rfl⟩
  ·rcases jQ hb with⟨j,u,rfl,e⟩ | ⟨y,u,rfl,e⟩
   ·injection e with e1 _;rw[e1]
   ·exact nomatch e
  ·rcases jQ hb with⟨j,u,rfl,e⟩ | ⟨y,u,rfl,e⟩
   ·exact nomatch e
   ·injection e with e1 _;rw[e1]
 byValue:=λk v h=>by
  rcases jQ h with⟨i,t,rfl,rfl⟩ | ⟨x,t,rfl,rfl⟩<;>rfl
 pyHash:=λhv h=>by
  rcases jQ hv with⟨i,t,rfl,rfl⟩ | ⟨x,t,rfl,rfl⟩
  ·exact wpAny_pyHash_int h
  ·exact wpAny_pyHash_str h
 eqBool:=λhu hv h=>by
  rcases jQ hu with⟨i,t,rfl,rfl⟩ | ⟨x,t,rfl,rfl⟩
  ·rcases jQ hv with⟨j,u,rfl,rfl⟩ | ⟨y,u,rfl,rfl⟩
   ·rw[OD] at h;exact wpAny_eqBool_int h
   ·rw[O5] at h;exact SeqAt.EqAt.int_str i t y u _ _ _ _ h
  ·rcases jQ hv with⟨j,u,rfl,rfl⟩ | ⟨y,u,rfl,rfl⟩
   ·rw[O7] at h;exact SeqAt.EqAt.str_int x t j u _ _ _ _ h
   ·rw[OJ] at h;exact wpAny_eqBool_str h
 «strs»:=λk x t v h=>by
  rcases jQ h with⟨i,u,rfl,e⟩ | ⟨y,u,rfl,e⟩
  ·exact nomatch e
  ·injection e with e1 _
   subst e1
   cases v<;>rfl
theorem O8(prog:Program)(w:World)(i:Int)(t:Tok):(d8 prog w).is (.inl i) (.int i t)=true:=Ox i t
theorem Pa(prog:Program)(w:World)(x:Str)(t:Tok):(d8 prog w).is (.inr x) (.str x t)=true:=Oz x t
inductive V where
 | non | bl (b:Bool) | int (i:Int) | str (x:Str) | byt (b:Array UInt8) | flt (b:UInt64) | ref (a:Addr) | ty (n:String)
 deriving DecidableEq
def RelV:V->Value->Prop
 | .non,u=>u=Value.none
 | .bl b,u=>u=Value.bool b
 | .int i,u=>∃t,u=Value.int i t
 | .str x,u=>∃t,u=Value.str x t
 | .byt b,u=>∃t,u=Value.bytes b t
 | .flt b,u=>∃t,u=Value.float b t
 | .ref a,u=>u=Value.ref a
 | .ty n,u=>u=Value.type n
abbrev aN:List V->List Value->Prop:=Paired RelV
theorem aN.length{xs:List V}{us:List Value}(r:aN xs us):xs.length=us.length:=Paired.length r
theorem aN.get:∀{xs:List V}{us:List Value}{i:Nat}{x:V},aN xs us->xs[i]?=some x->∃u,us[i]?=some u/\RelV x u
 | _,_,_,_,.nil,e=>by simp at e
 | _,_,0,_,.cons r _,e=>by simp at e;subst e;exact⟨_,rfl,r⟩
 | _,_,i+1,x,.cons _ t,e=>by
  obtain⟨u,h1,h2⟩:=aN.get (i:=i) (x:=x) t (by simpa using e);exact⟨u,by simpa using h1,h2⟩
theorem aN.set{x:V}{u:Value}(r:RelV x u):∀{xs:List V}{us:List Value} (i:Nat),aN xs us->aN (xs.set i x) (us.set i u)
 | _,_,_,.nil=>.nil
 | _,_,0,.cons _ t=>.cons r t
 | _,_,i+1,.cons q t=>.cons q (aN.set r i t)
theorem aN.append:∀{xs ys:List V}{us ws:List Value},aN xs us->aN ys ws->aN (xs++ys) (us++ws)
 | _,_,_,_,.nil,s=>s
 | _,_,_,_,.cons r t,s=>.cons r (aN.append t s)
theorem aN.take:∀{xs:List V}{us:List Value} (n:Nat),aN xs us->aN (xs.take n) (us.take n)
 | _,_,0,_=>.nil
 | _,_,_+1,.nil=>.nil
 | _,_,n+1,.cons r t=>.cons r (aN.take n t)
theorem aN.drop:∀{xs:List V}{us:List Value} (n:Nat),aN xs us->aN (xs.drop n) (us.drop n)
 | _,_,0,r=>r
 | _,_,_+1,.nil=>.nil
 | _,_,n+1,.cons _ t=>aN.drop n t
theorem aN.none_of:∀{xs:List V}{us:List Value}{i:Nat},aN xs us->xs[i]?=none->us[i]?=none:=λ{xs us i} r e=>by
 have h1:=r.length;have h2:xs.length<=i:=List.getElem?_eq_none_iff.mp e;exact List.getElem?_eq_none_iff.mpr (by omega)
def eZ:Option V->Option Value->Prop
 |some v,some u=>RelV v u
 |none,none=>True
 | _,_=>False
def KV{κ:Type}:List (κ×V)->List (κ×Value)->Prop:=Paired λ(p:κ×V) (q:κ×Value)=>p.1=q.1/\RelV p.2 q.2
def kV:Key->V
 | .inl i=>.int i
 | .inr x=>.str x
inductive HO where
  | lst (xs:List V)
  | tup (xs:List V)
  | dK (kvs:List (Key×V)) | dT (kvs:List (List Key×V))
  | set (S:Int->Bool) (n:Nat)
  | ins (C dx:Addr) (fs:List (Str×V))
  | own (x:Addr)
  | xd (fs:List (Str×V))
  | met (f x:Addr)
  | rng (lo hi:Int)
  | frz (o:Obj) (u:HO)
  | tbl (ps:Array Value)
  | ext (φ:Heap->Prop)
abbrev Hp:=Addr->Option HO
def upd(H:Hp)(a:Addr)(o:HO):Hp:=λb=>if b=a then some o else H b
theorem bM{H:Hp}{a:Addr}{o:HO}:upd H a o a=some o:=by unfold upd;rw[if_pos rfl]
theorem aO{H:Hp}{a b:Addr}{o:HO}(h:b≠a):upd H a o b=H b:=by unfold upd;rw[if_neg h]
theorem ne_of{H:Hp}{a b:Addr}{o u:HO}(h:H a=some o)(h':H b=some u)(d:o≠u):a≠b:=by
 intro e;subst e;rw[h] at h';exact d (zt h')
theorem cH{H:Hp}{a b:Addr}{o:HO}(h:H a=some o)(h':H b=none):a≠b:=by
 intro e;subst e;rw[h] at h';cases h'
section
variable (P:Program)(w:World)
def cg(H:Hp)(h:Heap)(a:Addr):HO->Prop
 | .lst xs=>xs.length<=sizeLine/\∃(its:List Value) (n:Nat),aN xs its/\h.get? a=some {cls:=.type "list",data:=.seq its.toArray n}
 | .tup xs=>xs.length<=sizeLine/\∃its:List Value,aN xs its/\IsTup h a its.toArray
 | .dK kvs=>kvs.length<=sizeLine/\(a == sysModules)=false/\∃vs,KV kvs vs/\h.DictOf (d8 P w) a vs
 | .dT kvs=>kvs.length<=sizeLine/\(a == sysModules)=false/\∃xs:List (List Key×Addr×Value),
   Paired (λ(p:List Key×V) (q:List Key×Addr×Value)=>p.1=q.1/\H q.2.1=some (.tup (p.1.map kV))/\RelV p.2 q.2.2) kvs xs /\
   ∃o es ep,h.get? a=some o/\o.ExactDict/\o.data=.dict es ep/\es.toList=xs.map (entryOfKey (tupleKind (d8 P w)))/\(xs.map (·.1)).Nodup
 | .set S n=>h.SetOf (intKind P w) a S n
 | .ins C dx fs=>H dx=some (.own a)/\fs.length<=1000/\dx≠a/\h.get? a=some (PySem.W.instObj C dx) /\
   ∃mA,h.Ns1 dx mA/\(∀f,eZ (fs.lookup f) (mA f))/\PySem.Within mA (fs.map (·.1))
 | .own _=>∃o,h.get? a=some o
 | .xd fs=>∃mA,h.Ns1 a mA/\∀f,eZ (fs.lookup f) (mA f)
 | .rng lo hi=>∃t u v,h.get? a=some {cls:=.type "range",data:=.fields #[.int lo t,.int hi u,.int 1 v]}
 | .frz o u=>h.get? a=some o/\cg H h a u
 | .tbl ps=>h.get? a=some {cls:=.none,data:=.fields ps}
 | .met f x=>h.get? a=some (PySem.W.methodObj (.ref f) (.ref x))
 | .ext φ=>φ h/\(∃o,h.get? a=some o)/\∀h1 h2:Heap,φ h1->(∀o,h1.get? a=some o->h2.get? a=some o)->φ h2
def HOk(H:Hp)(h:Heap):Prop:=∀a o,H a=some o->cg P w H h a o
end
section
variable {P:Program}{w:World}{H H':Hp}{h h':Heap}{a:Addr}{o:HO}
theorem cg.lt(x:cg P w H h a o):a<h.objs.size:=by
 cases o with
 |lst xs=>obtain⟨_,_,_,_,e⟩:=x;exact ze e
 |tup xs=>obtain⟨_,_,_,p⟩:=x;exact p.lt
 |dK kvs=>obtain⟨_,_,_,_,o,_,_,e,_⟩:=x;exact ze e
 |dT kvs=>obtain⟨_,_,_,_,o,_,_,e,_⟩:=x;exact ze e
 |set S n=>obtain⟨o,_,_,_,e,_⟩:=x;exact ze e
 |ins C dx fs=>obtain⟨_,_,_,e,_⟩:=x;exact ze e
 |own y=>obtain⟨_,e⟩:=x;exact ze e
 |xd fs=>obtain⟨_,⟨_,_,_,e,_⟩,_⟩:=x;exact ze e
 |rng lo hi=>obtain⟨_,_,_,e⟩:=x;exact ze e
 |frz ob u=>obtain⟨e,_⟩:=x;exact ze e
 |tbl ps=>exact ze (show h.get? a=some _ from x)
 |met f y=>exact ze (show h.get? a=some _ from x)
 |ext φ=>obtain⟨_,⟨_,e⟩,_⟩:=x;exact ze e
theorem Paired.mapP{α β:Type}{F G:α->β->Prop}:∀{l₁:List α}{l₂:List β},Paired F l₁ l₂->(∀a b,F a b->G a b)->Paired G l₁ l₂
 | _,_,.nil,_=>.nil
 | _,_,.cons r t,f=>.cons (f _ _ r) (Paired.mapP t f)
theorem cg.stay(x:cg P w H h a o)(k:∀b u,(b=a\/H b=some (.own a))->h.get? b=some u->h'.get? b=some u)
  (ho:∀b,H b=some (.own a)->H' b=some (.own a)) (ht:∀b xs,H b=some (.tup xs)->H' b=some (.tup xs)):cg P w H' h' a o:=by
 induction o with
 |lst xs=>obtain⟨z,its,n,r,e⟩:=x;exact⟨z,its,n,r,k _ _ (.inl rfl) e⟩
 |tup xs=>obtain⟨z,its,r,ob,e,c⟩:=x;exact⟨z,its,r,ob,k _ _ (.inl rfl) e,c⟩
 |dK kvs=>obtain⟨z,y,vs,r,ob,es,ep,e,c⟩:=x;exact⟨z,y,vs,r,ob,es,ep,k _ _ (.inl rfl) e,c⟩
 |dT kvs =>
  obtain⟨z,y,xs,r,ob,es,ep,e,c⟩:=x;exact⟨z,y,xs,Paired.mapP r λp q z=>⟨z.1,ht _ _ z.2.1,z.2.2⟩,ob,es,ep,k _ _ (.inl rfl) e,c⟩
 |set S n=>obtain⟨ob,es,ep,t,e,c⟩:=x;exact⟨ob,es,ep,t,k _ _ (.inl rfl) e,c⟩
 |ins C dx fs =>
  obtain⟨d,z,ne,e,mA,⟨od,es,ep,e2,c⟩,r⟩:=x;exact⟨ho _ d,z,ne,k _ _ (.inl rfl) e,mA,⟨od,es,ep,k _ _ (.inr d) e2,c⟩,r⟩
 |own y=>obtain⟨ob,e⟩:=x;exact⟨ob,k _ _ (.inl rfl) e⟩
 |xd fs=>obtain⟨mA,⟨od,es,ep,e,c⟩,r⟩:=x;exact⟨mA,⟨od,es,ep,k _ _ (.inl rfl) e,c⟩,r⟩
 |rng lo hi=>obtain⟨t,u,v,e⟩:=x;exact⟨t,u,v,k _ _ (.inl rfl) e⟩
 |frz ob u ih=>obtain⟨e,q⟩:=x;exact⟨k _ _ (.inl rfl) e,ih q⟩
 |tbl ps =>
  have e:h.get? a=some {cls:=.none,data:=.fields ps}:=x;show h'.get? a=some {cls:=.none,data:=.fields ps};exact k a _ (.inl rfl) e
 |met f y =>
  have e:h.get? a=some (PySem.W.methodObj (.ref f) (.ref y)):=x;show h'.get? a=some (PySem.W.methodObj (.ref f) (.ref y));exact k a _ (.inl rfl) e
 |ext φ=>obtain⟨p,⟨o,e⟩,st⟩:=x;exact⟨st _ _ p λo q=>k _ _ (.inl rfl) q,⟨o,k _ _ (.inl rfl) e⟩,st⟩
theorem HOk.lt(x:HOk P w H h)(e:H a=some o):a<h.objs.size:=(x a o e).lt
theorem HOk.fresh(x:HOk P w H h)(e:h.objs.size<=a):H a=none:=by
 cases q:H a with
 |none=>rfl
 |some u=>exact absurd (zF (x.lt q) e) (zR _)
theorem HOk.kept(x:HOk P w H h)(k:∀b u,h.get? b=some u->h'.get? b=some u):HOk P w H h':=λa o e =>
 (x a o e).stay (λb u _ q=>k b u q) (λ_ q=>q) λ_ _ q=>q
theorem HOk.laid(x:HOk P w H h)(k:∀b u,h.get? b=some u->h'.get? b=some u)(hp:h.objs.size<=a)(new:cg P w (upd H a o) h' a o):HOk P w (upd H a o) h':=λb u e=>by
 have hn:=x.fresh hp
 by_cases hb:b=a
 ·subst hb;rw[bM] at e;cases e;exact new
 ·rw[aO hb] at e
  exact(x b u e).stay (λc v _ q=>k c v q) (λc q=>by rw[aO (cH q hn)];exact q) λc xs q=>by rw[aO (cH q hn)];exact q
end
def Rd(H:Hp)(a:Addr)(u:HO):Prop:=H a=some u\/∃o,H a=some (.frz o u)
theorem Rd.of{H:Hp}{a:Addr}{u:HO}(h:H a=some u):Rd H a u:=.inl h
theorem Rd.ok{P:Program}{w:World}{H:Hp}{h:Heap}{a:Addr}{u:HO}(r:Rd H a u)(x:HOk P w H h):cg P w H h a u:=by
 rcases r with r | ⟨o,r⟩
 ·exact x a u r
 ·obtain⟨_,q⟩:=x a _ r;exact q
def Mut:Option HO->Prop
 |some (.lst _)=>True
 |some (.dK _)=>True
 |some (.dT _)=>True
 |some (.set _ _)=>True
 |some (.ins _ _ _)=>True
 |some (.ext _)=>True
 | _=>False
section
variable {P:Program}{w:World}{H:Hp}{h h':Heap}{x e:Addr}{o':HO}
theorem HOk.write(ok:HOk P w H h)(mu:Mut (H x))(he:e=x\/H e=some (.own x))(k:∀b u,b≠e->h.get? b=some u->h'.get? b=some u)(heo:∃u,h'.get? e=some u)
  (new:cg P w (upd H x o') h' x o'):HOk P w (upd H x o') h':=λb u q=>by
 have nown:∀c y,H c=some (.own y)->c≠x:=λc y r z=>by subst z;rw[r] at mu;exact mu
 have ntup:∀c xs,H c=some (.tup xs)->c≠x:=λc xs r z=>by subst z;rw[r] at mu;exact mu
 by_cases hb:b=x
 ·subst hb;rw[bM] at q;cases q;exact new
 ·rw[aO hb] at q
  by_cases hbe:b=e
  ·have q':H b=some (.own x):=by
    rcases he with z | z
    ·exact absurd (hbe.trans z) hb
    ·rw[hbe];exact z
   rw[q] at q';cases q';obtain⟨v,hv⟩:=heo;exact⟨v,by rw[hbe];exact hv⟩
  ·refine(ok b u q).stay (λc v hc r=>k c v ?_ r) (λc r=>by rw[aO (nown c b r)];exact r) λc xs r=>by rw[aO (ntup c xs r)];exact r
   rcases hc with rfl | hc
   ·exact hbe
   ·rintro rfl
    rcases he with z | z
    ·exact nown c b hc z
    ·rw[hc] at z;cases z;exact hb rfl
end
structure Un(fs ex:List Addr)(H H':Hp)(h h':Heap):Prop where
 keep:∀b o,h.get? b=some o->H b=none->b∉fs->b∉ex->h'.get? b=some o
 slot:∀b o,h.get? b=some o->H b=none->b∈fs->b∉ex->∃sl,h'.get? b=some {o with slots:=sl}
 free:∀b o,h.get? b=some o->H b=none->b∉ex->H' b=none
 there:∀b o,h.get? b=some o->b∉ex->∃o',h'.get? b=some o'
 tups:∀b xs,H b=some (.tup xs)->H' b=some (.tup xs)
 frzs:∀b o u,H b=some (.frz o u)->H' b=some (.frz o u)
 tbls:∀b ps,H b=some (.tbl ps)->∃more,H' b=some (.tbl (ps++more))
section
variable {fs fs' ex ex':List Addr}{H H1 H2:Hp}{h h1 h2 h':Heap}{a x e:Addr}{o:HO}
theorem Un.any(u:Un fs ex H H1 h h1){b:Addr}{ob:Obj}(q:h.get? b=some ob)(n:H b=none)(hx:b∉ex):∃sl,h1.get? b=some {ob with slots:=sl}:=by
 by_cases hb:b∈fs
 ·exact u.slot b ob q n hb hx
 ·exact⟨ob.slots,u.keep b ob q n hb hx⟩
theorem Un.trans(a:Un fs ex H H1 h h1)(b:Un fs ex H1 H2 h1 h2):Un fs ex H H2 h h2 where
 keep:=λc ob q n hc hx=>b.keep c ob (a.keep c ob q n hc hx) (a.free c ob q n hx) hc hx
 slot:=λc ob q n hc hx=>by
  obtain⟨sl,e1⟩:=a.slot c ob q n hc hx;obtain⟨sl',e2⟩:=b.slot c _ e1 (a.free c ob q n hx) hc hx;exact⟨sl',e2⟩
 free:=λc ob q n hx=>by
  obtain⟨o',e1⟩:=a.there c ob q hx;exact b.free c o' e1 (a.free c ob q n hx) hx
 there:=λc ob q hx=>by
  obtain⟨o',e1⟩:=a.there c ob q hx;exact b.there c o' e1 hx
 tups:=λc xs q=>b.tups c xs (a.tups c xs q)
 frzs:=λc ob xs q=>b.frzs c ob xs (a.frzs c ob xs q)
 tbls:=λc ps q=>by
  obtain⟨m1,e1⟩:=a.tbls c ps q;obtain⟨m2,e2⟩:=b.tbls c _ e1;exact⟨m1++m2,by rw[e2,Array.append_assoc]⟩
theorem Un.kept(k:∀b u,h.get? b=some u->h'.get? b=some u):Un fs ex H H h h' :=
 ⟨λb ob q _ _ _=>k b ob q,λb ob q _ _ _=>⟨ob.slots,k b ob q⟩,λ_ _ _ n _=>n,λb ob q _=>⟨ob,k b ob q⟩,λ_ _ q=>q,λ_ _ _ q=>q,λ_ ps q=>⟨#[],by rw[q];simp⟩⟩
theorem Un.refl:Un fs ex H H h h:=Un.kept λ_ _ q=>q
theorem Un.laid(k:∀b u,h.get? b=some u->h'.get? b=some u)(hp:h.objs.size<=a)(hn:H a=none):Un fs ex H (upd H a o) h h' where
 keep:=λb u q _ _ _=>k b u q
 slot:=λb u q _ _ _=>⟨u.slots,k b u q⟩
 free:=λb u q n _=>by rw[aO (zu (zF (ze q) hp))];exact n
 there:=λb u q _=>⟨u,k b u q⟩
 tups:=λb xs q=>by rw[aO (cH q hn)];exact q
 frzs:=λb u xs q=>by rw[aO (cH q hn)];exact q
 tbls:=λb ps q=>⟨#[],by rw[aO (cH q hn),q];simp⟩
theorem Un.write(mu:Mut (H x))(he:e=x\/H e=some (.own x))(k:∀b u,b≠e->h.get? b=some u->h'.get? b=some u)(heo:∃u,h'.get? e=some u):Un fs ex H (upd H x o) h h':=by
 have hx:∀b,H b=none->b≠x:=λb n z=>by subst z;rw[n] at mu;exact mu
 have hb:∀b,H b=none->b≠e:=λb n z=>by
  subst z
  rcases he with r | r
  ·exact hx b n r
  ·rw[n] at r;cases r
 have hm:∀b u,H b=some u->¬Mut (some u)->b≠x:=λb u q nm z=>by subst z;rw[q] at mu;exact nm mu
 refine⟨λb u q n _ _=>k b u (hb b n) q,λb u q n _ _=>⟨u.slots,k b u (hb b n) q⟩,λb u q n _=>by rw[aO (hx b n)];exact n,λb u q _=>?_,
  λb xs q=>by rw[aO (hm b _ q λz=>z)];exact q,λb u xs q=>by rw[aO (hm b _ q λz=>z)];exact q,λb ps q=>⟨#[],by rw[aO (hm b _ q λz=>z),q];simp⟩⟩
 by_cases hbe:b=e
 ·subst hbe;exact heo
 ·exact⟨u,k b u hbe q⟩
theorem Un.mono(u:Un fs ex H H1 h h1)(hs:∀b∈fs,b∈fs')(hx:∀b∈ex,b∈ex'):Un fs' ex' H H1 h h1 :=
 ⟨λb ob q n hb he=>u.keep b ob q n (λz=>hb (hs b z)) λz=>he (hx b z),λ_ _ q n _ he=>u.any q n λz=>he (hx _ z),λb ob q n he=>u.free b ob q n λz=>he (hx b z),λb ob q he=>u.there b ob q λz=>he (hx b z),u.tups,u.frzs,u.tbls⟩
end
def trk(h:Heap)(H:Hp):List Addr:=(List.range h.objs.size).filter λa=>(H a).isSome
def fV(h:Heap)(H:Hp):Heap:=PySem.W.hideAll h (trk h H)
theorem Fg(h:Heap)(H:Hp):(fV h H).objs.size=h.objs.size:=PySem.W.hideAll_size _ _
theorem Fi{h:Heap}{H:Hp}{b:Addr}{o:Obj}(e:h.get? b=some o)(n:H b=none):(fV h H).get? b=some o :=
 PySem.W.hideAll_get _ e λhm=>by
  have q:(H b).isSome=true:=(List.mem_filter.mp hm).2;rw[n] at q;simp at q
theorem Fj{h:Heap}{H:Hp}{b:Addr}{o:Obj}(e:(fV h H).get? b=some o):h.get? b=some o/\H b=none:=by
 have e':h.get? b=some o:=PySem.W.of_hideAll (trk h H) e;refine⟨e',?_⟩
 cases q:H b with
 |none=>rfl
 |some x =>
  have hm:b∈trk h H:=List.mem_filter.mpr ⟨List.mem_range.mpr (ze e'),by simp[q]⟩;have z:(fV h H).get? b=none:=PySem.W.hideAll_none (trk h H) hm;rw[z] at e;cases e
def Pb(g h:Heap)(L:Addr):List (Addr×Obj):=(List.range h.objs.size).filterMap λa=>if a=L\/(g.get? a).isSome=true then none else(h.get? a).map λo=>(a,o)
def rest(g h:Heap)(L d:Addr):List (Addr×Obj):=(Pb g h L).filter λp=>decide (p.1≠d)
structure Mod(K:PySem.W.Frag)(mg:Str->Option Value)(base:Heap):Prop where
 kin:K.In base
 glob:base.Ns mainGlobals mg
 blt:∃mb,base.Ns builtinsNs mb/\∀x:Str,x≠"__name__"->mb x=bootBuiltins x
 nolimit:base.NoLimit
structure Cx where
 prog:Program
 w:World
 K:PySem.W.Frag
 mg:Str->Option Value
 base:Heap
 A:Around
 N:List Str
 s₀:Shared
 H₀:Hp
 env:Env
 outer:List Env
 stack:List Env
 ex:List Addr
 fn:Str->Bool
 calm:Bool
 pn:List (Addr×Obj)
 xe:Value->Shared->Prop
def frs(l:List Env):List Addr:=l.filterMap (·.frame)
abbrev Cx.fs(X:Cx):List Addr:=frs X.outer
def Vis(sc:Scope)(x:Str):Prop:=sc.names.lookup x=some .local\/sc.names.lookup x=some .cell\/sc.names.lookup x=some .free
def Loc(sc:Scope)(x:Str):Prop:=sc.names.lookup x=some .local\/sc.names.lookup x=some .cell
def Look(env:Env)(h:Heap)(m:Str->Option Value)(x:Str)(u:Value):Prop :=
 (env.kindOf x=some .local/\m x=some u)\/((env.kindOf x=some .cell\/env.kindOf x=some .free)/\∃c,env.cells.lookup x=some c/\h.IsCell c (some u))
structure Cx.Ok(X:Cx):Prop where
 mod:Mod X.K X.mg X.base
 kind:X.env.scope.kind=.function
 glob:X.env.globals=mainGlobals
 blt:X.env.builtins=builtinsNs
 above:X.s₀.heap.objs.size<=X.env.locals
 inj:∀x y c,X.env.cells.lookup x=some c->X.env.cells.lookup y=some c->x=y
 has:∀x,(X.env.kindOf x=some .cell\/X.env.kindOf x=some .free)->∃c,X.env.cells.lookup x=some c
 cab:∀x c,X.fn x=true->X.env.cells.lookup x=some c->X.s₀.heap.objs.size<=c
 hd:X.calm=true->X.A.handled=none
 frames:X.A.frames=some X.stack
 stk:X.stack=X.outer\/(X.stack=X.env::X.outer/\X.env.frame=some X.env.locals)
 exf:∀b∈X.ex,b≠X.env.locals/\∀x c,X.env.cells.lookup x=some c->c≠b
 bs:∀b o,X.base.get? b=some o->X.s₀.heap.get? b=some o/\X.H₀ b=none
 bsz:X.base.objs.size<=X.s₀.heap.objs.size
 noex:∀b o,X.base.get? b=some o->b∉X.ex
 exfs:∀b∈X.ex,b∉X.fs
 funs:X.s₀.heap.FunFrames X.base X.outer
 frf:∀b∈X.fs,X.H₀ b=none
structure Inv(X:Cx)(pins:List (Addr×Obj))(σ:List (Option V))(H:Hp)(s:Shared):Prop where
 ok:X.Ok
 os:s.os=X.s₀.os
 bare:AllBare s.gens
 base:Un X.fs X.ex X.H₀ H X.s₀.heap s.heap
 loc:∃m,s.heap.Ns X.env.locals m/\∀(i:Nat) (x:Str) (v:V),X.N[i]?=some x->σ[i]?=some (some v)->Vis X.env.scope x->∃u,RelV v u/\Look X.env s.heap m x u
 cell:∀x c,X.env.cells.lookup x=some c->∃v,s.heap.IsCell c v
 free:H X.env.locals=none
 freeC:∀x c,X.env.cells.lookup x=some c->H c=none
 pin:∀p∈X.pn++pins,s.heap.get? p.1=some p.2/\H p.1=none/\p.1≠X.env.locals/\p.1∉X.fs/\∀v,p.2.data≠.cell v
 hok:HOk X.prog X.w H s.heap
 len:σ.length=X.N.length
section
variable {X:Cx}{pins:List (Addr×Obj)}{σ:List (Option V)}{H H':Hp}{s:Shared}{h':Heap}
theorem Cx.Ok.nofr(ok:X.Ok){b:Addr}{o:Obj}(e:X.base.get? b=some o):b∉X.fs:=λhb=>by
 have:=(ok.funs.mem hb).1
 rw[e] at this;cases this
theorem Inv.bs(I:Inv X pins σ H s):∀b o,X.base.get? b=some o->s.heap.get? b=some o/\H b=none:=λb o e =>
 ⟨I.base.keep b o (I.ok.bs b o e).1 (I.ok.bs b o e).2 (I.ok.nofr e) (I.ok.noex b o e),I.base.free b o (I.ok.bs b o e).1 (I.ok.bs b o e).2 (I.ok.noex b o e)⟩
theorem Inv.bk(I:Inv X pins σ H s):∀b o,X.base.get? b=some o->s.heap.get? b=some o:=λb o e=>(I.bs b o e).1
theorem Inv.mod(I:Inv X pins σ H s):Mod X.K X.mg X.base:=I.ok.mod
theorem Inv.kIn(I:Inv X pins σ H s):X.K.In s.heap:=I.ok.mod.kin.keeps I.bk
theorem Inv.nolimit(I:Inv X pins σ H s):s.heap.NoLimit:=I.ok.mod.nolimit.keeps I.bk
theorem Inv.fr(I:Inv X pins σ H s):∃m,Fr X.base X.env.locals s.heap m :=
 let ⟨m,hn,_⟩:=I.loc
 ⟨m,hn,I.bk,zG I.ok.bsz I.ok.above⟩
theorem Inv.lt(I:Inv X pins σ H s):X.env.locals<s.heap.objs.size:=let ⟨_,hn,_⟩:=I.loc;hn.lt
theorem Inv.sz(I:Inv X pins σ H s):X.s₀.heap.objs.size<=s.heap.objs.size:=zG I.ok.above (Nat.le_of_lt I.lt)
theorem Inv.nofs(I:Inv X pins σ H s){a:Addr}(h:s.heap.objs.size<=a):a∉X.fs:=λhb=>by
 obtain⟨_,o,ho,_⟩:=I.ok.funs.mem hb;exact absurd (zF (ze ho) (zG I.sz h)) (zR _)
theorem Inv.cne(I:Inv X pins σ H s):∀x c,X.env.cells.lookup x=some c->c≠X.env.locals:=λx c e z=>by
 obtain⟨v,o,ho,hd⟩:=I.cell x c e;obtain⟨m,⟨o',es,ep,ho',hd',_⟩,_⟩:=I.loc;rw[z,ho'] at ho;cases ho;rw[hd'] at hd;cases hd
theorem Inv.funs(I:Inv X pins σ H s):s.heap.FunFrames X.base X.outer:=by
 have all:∀(l:List Env),(∀b∈frs l,b∈X.fs)->X.s₀.heap.FunFrames X.base l->s.heap.FunFrames X.base l:=by
  intro l
  induction l with
  |nil=>intro _ _;trivial
  |cons env r ih =>
   intro hs hl;obtain⟨hk,⟨L,o,hf,hn,ho,hd⟩,hr⟩:=hl;have hL:L∈X.fs:=hs L (by unfold frs;rw[List.filterMap_cons,hf];exact zx)
   obtain⟨sl,e⟩:=I.base.slot L o ho (I.ok.frf L hL) hL λz=>I.ok.exfs L z hL
   exact⟨hk,⟨L,_,hf,hn,e,hd⟩,ih (λb hb=>hs b (by unfold frs;rw[List.filterMap_cons,hf];exact zB _ hb)) hr⟩
 exact all X.outer (λ_ hb=>hb) I.ok.funs
theorem Inv.stack(I:Inv X pins σ H s):s.heap.FunFrames X.base X.stack:=by
 rcases I.ok.stk with e | ⟨e,hf⟩
 ·rw[e];exact I.funs
 ·rw[e];obtain⟨m,hn,_⟩:=I.loc;refine .cons (by rw[I.ok.kind];decide) hf hn ?_ I.funs;exact Heap.get?_none_of_le (zG I.ok.bsz I.ok.above)
theorem Inv.stkSub(I:Inv X pins σ H s):∀b∈frs X.stack,b∈X.env.locals::X.fs:=λb hb=>by
 rcases I.ok.stk with e | ⟨e,hf⟩
 ·rw[e] at hb;exact zB _ hb
 ·rw[e] at hb;unfold frs at hb;rw[List.filterMap_cons,hf] at hb;exact hb
theorem Inv.stkFree(I:Inv X pins σ H s):∀b∈frs X.stack,H b=none:=λb hb=>by
 rcases zk.mp (I.stkSub b hb) with e | hb
 ·rw[e];exact I.free
 ·obtain⟨_,o,ho,_⟩:=I.ok.funs.mem hb
  exact I.base.free b o ho (I.ok.frf b hb) λz=>I.ok.exfs b z hb
theorem Inv.step{g':Array GenState}{t':Nat}{d':Drawn}{ch:List Addr}(I:Inv X pins σ H s)
  (hch:∀b∈ch,(b∈X.ex\/X.s₀.heap.objs.size<=b)/\b≠X.env.locals/\(∀x c,X.env.cells.lookup x=some c->c≠b)/\∀p∈X.pn++pins,p.1≠b)
  (keep:∀b o,b≠X.env.locals->b∉X.fs->b∉ch->s.heap.get? b=some o->H b=none->h'.get? b=some o)
  (slot:∀b o,b≠X.env.locals->b∈X.fs->b∉ch->s.heap.get? b=some o->H b=none->∃sl,h'.get? b=some {o with slots:=sl}) (free:∀b o,b∉ch->s.heap.get? b=some o->H b=none->H' b=none)
  (there:∀b o,b∉ch->s.heap.get? b=some o->∃o',h'.get? b=some o')
  (tups:∀b xs,H b=some (.tup xs)->H' b=some (.tup xs)) (frzs:∀b o u,H b=some (.frz o u)->H' b=some (.frz o u)) (tbls:∀b ps,H b=some (.tbl ps)->∃more,H' b=some (.tbl (ps++more)))
  (ns:∀m,s.heap.Ns X.env.locals m->h'.Ns X.env.locals m) (hok:HOk X.prog X.w H' h') (hg:AllBare g'):
  Inv X pins σ H' {s with heap:=h',gens:=g',drawn:=d',toks:=t'}:=by
 have neL:∀b o,X.s₀.heap.get? b=some o->b≠X.env.locals:=λb o e=>zu (zF (ze e) I.ok.above)
 have neC:∀b o,X.s₀.heap.get? b=some o->b∉X.ex->b∉ch:=λb o e hx hb=>by
  rcases(hch b hb).1 with z | z
  ·exact hx z
  ·exact absurd (zF (ze e) z) (zR _)
 have cellK:∀x c,X.env.cells.lookup x=some c->∀v,s.heap.IsCell c v->h'.IsCell c v:=λx c e v ⟨o,ho,hd⟩=>by
  have nch:c∉ch:=λz=>(hch c z).2.2.1 x c e rfl
  by_cases hc:c∈X.fs
  ·obtain⟨sl,q⟩:=slot c o (I.cne x c e) hc nch ho (I.freeC x c e);exact⟨_,q,hd⟩
  ·exact⟨o,keep c o (I.cne x c e) hc nch ho (I.freeC x c e),hd⟩
 refine⟨I.ok,I.os,hg,⟨λb o e n hb hx=>?_,λb o e n hb hx=>?_,λb o e n hx=>?_,λb o e hx=>?_,λb xs e=>tups b xs (I.base.tups b xs e),λb o xs e=>frzs b o xs (I.base.frzs b o xs e),λb ps e=>?_⟩,?_,λx c e=>?_,?_,λx c e=>?_,λp hp=>?_,hok,I.len⟩
 ·exact keep b o (neL b o e) hb (neC b o e hx) (I.base.keep b o e n hb hx) (I.base.free b o e n hx)
 ·obtain⟨sl,e1⟩:=I.base.slot b o e n hb hx;obtain⟨sl',e2⟩:=slot b _ (neL b o e) hb (neC b o e hx) e1 (I.base.free b o e n hx);exact⟨sl',e2⟩
 ·obtain⟨o',e1⟩:=I.base.there b o e hx;exact free b o' (neC b o e hx) e1 (I.base.free b o e n hx)
 ·obtain⟨o',e1⟩:=I.base.there b o e hx;exact there b o' (neC b o e hx) e1
 ·obtain⟨m1,e1⟩:=I.base.tbls b ps e;obtain⟨m2,e2⟩:=tbls b _ e1;exact⟨m1++m2,by rw[e2,Array.append_assoc]⟩
 ·obtain⟨m,hn,hl⟩:=I.loc;refine⟨m,ns m hn,λi x v e1 e2 e3=>?_⟩;obtain⟨u,r,l⟩:=hl i x v e1 e2 e3;refine⟨u,r,?_⟩
  rcases l with l | ⟨k,c,e,z⟩
  ·exact .inl l
  ·exact .inr ⟨k,c,e,cellK x c e _ z⟩
 ·obtain⟨v,z⟩:=I.cell x c e;exact⟨v,cellK x c e v z⟩
 ·obtain⟨m,⟨o,_,_,ho,_⟩,_⟩:=I.loc;exact free _ o (λz=>(hch _ z).2.1 rfl) ho I.free
 ·obtain⟨v,o,ho,hd⟩:=I.cell x c e;exact free c o (λz=>(hch c z).2.2.1 x c e rfl) ho (I.freeC x c e)
 ·obtain⟨e,n,ne,nf,d⟩:=I.pin p hp
  have nch:p.1∉ch:=λz=>(hch p.1 z).2.2.2 p hp rfl
  exact⟨keep p.1 p.2 ne nf nch e n,free p.1 p.2 nch e n,ne,nf,d⟩
theorem Inv.un{t':Nat}(I:Inv X pins σ H s)(u:Un X.fs [] H H' s.heap h')(hok:HOk X.prog X.w H' h'):Inv X pins σ H' {s with heap:=h',toks:=t'}:=by
 obtain⟨m,⟨o,es,ep,ho,r⟩,_⟩:=id I.loc;obtain⟨sl,hL⟩:=u.any ho I.free (by simp)
 exact I.step (g':=s.gens) (d':=s.drawn) (ch:=[]) (λ_ z=>nomatch z) (λb o _ hb _ e n=>u.keep b o e n hb (by simp)) (λb o _ hb _ e n=>u.slot b o e n hb (by simp)) (λb o _ e n=>u.free b o e n (by simp)) (λb o _ e=>u.there b o e (by simp)) u.tups u.frzs u.tbls (λm' hm=>by
  obtain⟨o',es',ep',ho',r'⟩:=hm;rw[ho] at ho';cases ho'
  exact⟨_,es',ep',hL,r'⟩) hok I.bare
theorem Inv.call{g':Array GenState}{t':Nat}{d':Drawn}{ch:List Addr}(I:Inv X pins σ H s)(u:Un (frs X.stack) ch H H' s.heap h')(hok:HOk X.prog X.w H' h')(hg:AllBare g')
  (hch:∀b∈ch,(b∈X.ex\/X.s₀.heap.objs.size<=b)/\b≠X.env.locals/\(∀x c,X.env.cells.lookup x=some c->c≠b)/\∀p∈X.pn++pins,p.1≠b):
  Inv X pins σ H' {s with heap:=h',gens:=g',drawn:=d',toks:=t'}:=by
 obtain⟨m,⟨o,es,ep,ho,r⟩,_⟩:=id I.loc
 obtain⟨sl,hL⟩:=u.any ho I.free λz=>(hch _ z).2.1 rfl
 exact I.step (ch:=ch) hch (λb o hL hb hc e n=>u.keep b o e n (λz=>(zk.mp (I.stkSub b z)).elim hL hb) hc) (λb o _ _ hc e n=>u.any e n hc) (λb o hc e n=>u.free b o e n hc) (λb o hc e=>u.there b o e hc) u.tups u.frzs u.tbls (λm' hm=>by
  obtain⟨o',es',ep',ho',r'⟩:=hm;rw[ho] at ho';cases ho'
  exact⟨_,es',ep',hL,r'⟩) hok hg
theorem Inv.turned{t':Nat}{it:Addr}(I:Inv X pins σ H s)(k:∀b o,b≠it->s.heap.get? b=some o->h'.get? b=some o)(hn:H it=none)(hL:it≠X.env.locals)
  (h1:it∈X.ex\/X.s₀.heap.objs.size<=it) (h2:∀x c,X.env.cells.lookup x=some c->c≠it) (h3:∀p∈X.pn++pins,p.1≠it):Inv X pins σ H {s with heap:=h',toks:=t'}:=by
 have nit:∀b u,H b=some u->b≠it:=λb u e z=>by rw[z,hn] at e;cases e
 refine I.step (g':=s.gens) (d':=s.drawn) (ch:=[it]) (λb hb=>?_) (λb o _ _ hc e _=>k b o (λz=>hc (by simp[z])) e) (λb o _ _ hc e _=>⟨o.slots,k b o (λz=>hc (by simp[z])) e⟩) (λ_ _ _ _ n=>n)
  (λb o hc e=>⟨o,k b o (λz=>hc (by simp[z])) e⟩) (λ_ _ e=>e) (λ_ _ _ e=>e) (λb ps e=>⟨#[],by rw[e];simp⟩) (λm hm=>?_) (λb u e=>?_) I.bare
 ·have e:b=it:=by simpa using hb
  subst e;exact⟨h1,hL,h2,h3⟩
 ·obtain⟨o,es,ep,ho,r⟩:=hm;exact⟨o,es,ep,k _ o (Ne.symm hL) ho,r⟩
 ·refine(I.hok b u e).stay (λc v hc q=>k c v ?_ q) (λ_ q=>q) λ_ _ q=>q
  rcases hc with z | z
  ·rw[z];exact nit b u e
  ·exact nit c _ z
theorem Inv.tok(I:Inv X pins σ H s)(t:Nat):Inv X pins σ H {s with toks:=t}:=I.un (h':=s.heap) (t':=t) Un.refl I.hok
theorem Inv.kept{t':Nat}(I:Inv X pins σ H s)(k:∀b u,s.heap.get? b=some u->h'.get? b=some u):Inv X pins σ H {s with heap:=h',toks:=t'}:=I.un (Un.kept k) (I.hok.kept k)
theorem Inv.laid{a:Addr}{o:HO}{t':Nat}(I:Inv X pins σ H s)(k:∀b u,s.heap.get? b=some u->h'.get? b=some u)(hp:s.heap.objs.size<=a)(new:cg X.prog X.w (upd H a o) h' a o):
  Inv X pins σ (upd H a o) {s with heap:=h',toks:=t'}:=I.un (Un.laid k hp (I.hok.fresh hp)) (I.hok.laid k hp new)
theorem Inv.write{x e:Addr}{o:HO}{t':Nat}(I:Inv X pins σ H s)(mu:Mut (H x))(he:e=x\/H e=some (.own x))(k:∀b u,b≠e->s.heap.get? b=some u->h'.get? b=some u)(heo:∃u,h'.get? e=some u)
  (new:cg X.prog X.w (upd H x o) h' x o):Inv X pins σ (upd H x o) {s with heap:=h',toks:=t'}:=I.un (Un.write mu he k heo) (I.hok.write mu he k heo new)
theorem Inv.pins_of{pins':List (Addr×Obj)}(I:Inv X pins σ H s)(h:∀p∈pins',s.heap.get? p.1=some p.2/\H p.1=none/\p.1≠X.env.locals/\p.1∉X.fs/\∀v,p.2.data≠.cell v):Inv X pins' σ H s :=
 ⟨I.ok,I.os,I.bare,I.base,I.loc,I.cell,I.free,I.freeC,λp hp=>(zE.mp hp).elim (λz=>I.pin p (List.mem_append_left _ z)) (h p),I.hok,I.len⟩
theorem Fo{N:List Str}(hN:N.Nodup){i j:Nat}{x:Str}(a:N[i]?=some x)(b:N[j]?=some x):i=j:=by
 obtain⟨h1,e1⟩:=zl.mp a;obtain⟨h2,e2⟩:=zl.mp b;exact(List.getElem_inj hN).mp (e1.trans e2.symm)
theorem Pg{M:Model}{A:Around}{E:Value->Shared->Prop}{i:Nat}{x:Str}{v:V}{u:Value}{Q:Unit->Shared->Prop}(I:Inv X pins σ H s)(hN:X.N.Nodup)(hi:X.N[i]?=some x)(hx:Loc X.env.scope x)(r:RelV v u)
  (h:∀s',Inv X pins (σ.set i (some v)) H s'->(∃a,Heap.SameBut a s.heap s'.heap/\(a=X.env.locals\/X.env.cells.lookup x=some a))->Q () s') (hf:X.fn x=true\/X.env.scope.names.lookup x=some .local:=by first | exact .inl rfl | exact .inr rfl | assumption):wpAny M A (storeName X.env x u) Q E s:=by
 obtain⟨m,hn,hl⟩:=id I.loc
 have hcls:(X.env.scope.kind == .class || (X.env.scope.kind == .module&&X.env.locals != X.env.globals))=false:=by rw[I.ok.kind];rfl
 have hiσ:i<σ.length:=by rw[I.len];exact(zl.mp hi).1
 have cne:=I.cne
 have tracked:∀{a:Addr}{h':Heap},(∃o,s.heap.get? a=some o/\H a=none)->Heap.SameBut a s.heap h'->HOk X.prog X.w H h':=λ{a h'} ha hs b ob e=>by
  obtain⟨_,_,hfree⟩:=ha
  refine(I.hok b ob e).stay (λc w' hc q=>(hs.2 c ?_).trans q) (λ_ q=>q) λ_ _ q=>q
  rintro rfl
  rcases hc with rfl | hc
  ·rw[hfree] at e;cases e
  ·rw[hfree] at hc;cases hc
 rcases hx with hk | hk
 ·refine wpAny_storeName_local hk hn (λh' hn' hs=>?_) hcls;obtain⟨oL,_,_,hoL,_⟩:=id hn;refine h _ ⟨I.ok,I.os,I.bare,⟨λb o e n hb hx=>?_,λb o e n hb hx=>?_,I.base.free,λb o e hx=>?_,I.base.tups,I.base.frzs,I.base.tbls⟩,⟨_,hn',λj y v' e1 e2 e3=>?_⟩,λy c e=>?_,I.free,I.freeC,λp hp=>?_,tracked ⟨oL,hoL,I.free⟩ hs,by simpa using I.len⟩ ⟨_,hs,.inl rfl⟩
  ·exact(hs.2 b (zu (zF (ze e) I.ok.above))).trans (I.base.keep b o e n hb hx)
  ·obtain⟨sl,e1⟩:=I.base.slot b o e n hb hx;exact⟨sl,(hs.2 b (zu (zF (ze e) I.ok.above))).trans e1⟩
  ·obtain⟨o',e1⟩:=I.base.there b o e hx;exact⟨o',(hs.2 b (zu (zF (ze e) I.ok.above))).trans e1⟩
  ·by_cases hj:j=i
   ·subst hj;rw[hi] at e1;cases e1;rw[zS hiσ] at e2;cases e2;exact⟨u,r,.inl ⟨hk,by simp⟩⟩
   ·rw[zr (Ne.symm hj)] at e2;obtain⟨u',r',q⟩:=hl j y v' e1 e2 e3;refine⟨u',r',?_⟩
    rcases q with⟨k,e⟩ | ⟨k,c,e,z⟩
    ·refine .inl ⟨k,?_⟩
     have:y≠x:=λe=>hj (Fo hN e1 (e ▸ hi))
     simp[this,e]
    ·exact .inr ⟨k,c,e,z.sameBut hs (cne y c e)⟩
  ·obtain⟨w',z⟩:=I.cell y c e;exact⟨w',z.sameBut hs (cne y c e)⟩
  ·obtain⟨e,n,ne,nf,d⟩:=I.pin p hp;exact⟨(hs.2 p.1 ne).trans e,n,ne,nf,d⟩
 ·have hfn:X.fn x=true:=by
   rcases hf with z | z
   ·exact z
   ·rw[z] at hk;cases hk
  obtain⟨c,hc⟩:=I.ok.has x (.inl hk);obtain⟨w',z⟩:=I.cell x c hc;refine wpAny_storeName_cell I.ok.kind hk hc z (λh' hc' hs=>?_);obtain⟨oc,hoc,hocd⟩:=id z;refine h {s with heap:=h'} ⟨I.ok,I.os,I.bare,⟨λb o e n hb hx=>?_,λb o e n hb hx=>?_,I.base.free,λb o e hx=>?_,I.base.tups,I.base.frzs,I.base.tbls⟩,⟨m,hn.sameBut hs (Ne.symm (cne x c hc)),λj y v' e1 e2 e3=>?_⟩,λy c' e=>?_,I.free,I.freeC,λp hp=>?_,tracked ⟨oc,hoc,I.freeC x c hc⟩ hs,by simpa using I.len⟩ ⟨c,hs,.inr hc⟩
  ·exact(hs.2 b (zu (zF (ze e) (I.ok.cab x c hfn hc)))).trans (I.base.keep b o e n hb hx)
  ·obtain⟨sl,e1⟩:=I.base.slot b o e n hb hx;exact⟨sl,(hs.2 b (zu (zF (ze e) (I.ok.cab x c hfn hc)))).trans e1⟩
  ·obtain⟨o',e1⟩:=I.base.there b o e hx;exact⟨o',(hs.2 b (zu (zF (ze e) (I.ok.cab x c hfn hc)))).trans e1⟩
  ·by_cases hj:j=i
   ·subst hj;rw[hi] at e1;cases e1;rw[zS hiσ] at e2;cases e2;exact⟨u,r,.inr ⟨.inl hk,c,hc,hc'⟩⟩
   ·rw[zr (Ne.symm hj)] at e2;obtain⟨u',r',q⟩:=hl j y v' e1 e2 e3;refine⟨u',r',?_⟩
    rcases q with q | ⟨k,c',e,z'⟩
    ·exact .inl q
    ·refine .inr ⟨k,c',e,z'.sameBut hs ?_⟩;rintro rfl;exact hj (Fo hN e1 (I.ok.inj _ _ _ e hc ▸ hi))
  ·by_cases hcc:c'=c
   ·subst hcc;exact⟨_,hc'⟩
   ·obtain⟨w2,z2⟩:=I.cell y c' e;exact⟨w2,z2.sameBut hs hcc⟩
  ·obtain⟨e,n,ne,nf,d⟩:=I.pin p hp;refine⟨(hs.2 p.1 ?_).trans e,n,ne,nf,d⟩;intro q;rw[q,hoc] at e;have q':oc=p.2:=zt e;exact d w' (by rw[<-q'];exact hocd)
theorem wJ{M:Model}{A:Around}{E:Value->Shared->Prop}{i:Nat}{x:Str}{v:V}{u:Value}{Q:Unit->Shared->Prop}(I:Inv X pins σ H s)(hN:X.N.Nodup)(hi:X.N[i]?=some x)(hx:Loc X.env.scope x)(r:RelV v u)
  (h:∀s',Inv X pins (σ.set i (some v)) H s'->Q () s') (hf:X.fn x=true\/X.env.scope.names.lookup x=some .local:=by first | exact .inl rfl | exact .inr rfl | assumption):wpAny M A (storeName X.env x u) Q E s :=
 Pg I hN hi hx r (λs' I' _=>h s' I') hf
theorem Inv.call'{s':Shared}{ch:List Addr}(I:Inv X pins σ H s)(ho:s'.os=s.os)(u:Un (frs X.stack) ch H H' s.heap s'.heap)(hok:HOk X.prog X.w H' s'.heap)(hg:AllBare s'.gens)
  (hch:∀b∈ch,(b∈X.ex\/X.s₀.heap.objs.size<=b)/\b≠X.env.locals/\(∀x c,X.env.cells.lookup x=some c->c≠b)/\∀p∈X.pn++pins,p.1≠b):Inv X pins σ H' s':=by
 obtain⟨h',g',d',t',o'⟩:=s';have e:o'=s.os:=ho;subst e;exact I.call (g':=g') (t':=t') (d':=d') u hok hg hch
end
abbrev XK:=Value->Option Addr->Hp->Prop
abbrev St:=List (Option V)
abbrev VK:=V->Hp->Prop
abbrev TE:=St->Hp->VK->Prop
abbrev TT:=St->Hp->(Bool->Hp->Prop)->Prop
abbrev TA:=St->Hp->(List V->Hp->Prop)->Prop
structure Ends where
 nx:St->Hp->Prop
 rt:VK
 bk:St->Hp->Prop:=λ_ _=>False
 ct:St->Hp->Prop:=λ_ _=>False
abbrev TS:=Ends->St->Hp->Prop
def EP(X:Cx)(pins:List (Addr×Obj))(σ:St)(Q:VK)(u:Value)(s':Shared):Prop:=∃v H',Inv X pins σ H' s'/\RelV v u/\Q v H'
def TP(X:Cx)(pins:List (Addr×Obj))(σ:St)(Q:Bool->Hp->Prop)(b:Bool)(s':Shared):Prop:=∃H',Inv X pins σ H' s'/\Q b H'
def AP(X:Cx)(pins:List (Addr×Obj))(σ:St)(Q:List V->Hp->Prop)(us:List Value)(s':Shared):Prop:=∃vs H',Inv X pins σ H' s'/\aN vs us/\Q vs H'
def SP(X:Cx)(pins:List (Addr×Obj))(D:Ends)(f:Flow)(s':Shared):Prop :=
 match f with
 | .next=>∃σ' H',Inv X pins σ' H' s'/\D.nx σ' H'
 | .brk=>∃σ' H',Inv X pins σ' H' s'/\D.bk σ' H'
 | .cont=>∃σ' H',Inv X pins σ' H' s'/\D.ct σ' H'
 | .ret u=>∃v σ' H',Inv X pins σ' H' s'/\RelV v u/\D.rt v H'
def PE(X:Cx)(e:Expr)(t:TE):Prop :=
 ∀(pins:List (Addr×Obj)) (s:Shared) (σ:St) (H:Hp) (Q:VK),Inv X pins σ H s->t σ H Q->wpAny (model X.prog X.w) X.A (eval e X.env) (EP X pins σ Q) X.xe s
def PT(X:Cx)(e:Expr)(t:TT):Prop :=
 ∀(pins:List (Addr×Obj)) (s:Shared) (σ:St) (H:Hp) (Q:Bool->Hp->Prop),Inv X pins σ H s->t σ H Q->wpAny (model X.prog X.w) X.A (isTrue e X.env (eval e X.env)) (TP X pins σ Q) X.xe s
def PW(X:Cx)(e:Expr)(t:TT):Prop :=
 ∀(whole:Sem Value) (pins:List (Addr×Obj)) (s:Shared) (σ:St) (H:Hp) (Q:Bool->Hp->Prop),Inv X pins σ H s->t σ H Q->wpAny (model X.prog X.w) X.A (isTrue e X.env whole) (TP X pins σ Q) X.xe s
theorem PW.pt{X:Cx}{e:Expr}{t:TT}(h:PW X e t):PT X e t:=h _
def PA(X:Cx)(es:List Expr)(t:TA):Prop :=
 ∀(pos:Pos) (pins:List (Addr×Obj)) (s:Shared) (σ:St) (H:Hp) (Q:List V->Hp->Prop),Inv X pins σ H s->t σ H Q->wpAny (model X.prog X.w) X.A (spliced (backTo pos (starEach es X.env))) (AP X pins σ Q) X.xe s
def PS(X:Cx)(st:Stmt)(t:TS):Prop :=
 ∀(pins:List (Addr×Obj)) (s:Shared) (σ:St) (H:Hp) (D:Ends),Inv X pins σ H s->t D σ H->wpAny (model X.prog X.w) X.A (exec st X.env) (SP X pins D) X.xe s
def PSs(X:Cx)(st:List Stmt)(t:TS):Prop :=
 ∀(pins:List (Addr×Obj)) (s:Shared) (σ:St) (H:Hp) (D:Ends),Inv X pins σ H s->t D σ H->wpAny (model X.prog X.w) X.A (execs st X.env) (SP X pins D) X.xe s
theorem thn{α:Type}{t:Sem α}{Q Q':α->Shared->Prop}{M:Model}{A:Around}{E:Value->Shared->Prop}{s:Shared}(h:wpAny M A t Q E s)(hQ:∀a s,Q a s->Q' a s):wpAny M A t Q' E s:=zL h hQ λ_ _ x=>x
section
variable {X:Cx}
def Ph(i:Nat):TE:=λσ H Q=>∃v,σ[i]?=some (some v)/\Q v H
def tC(v:V):TE:=λ_ H Q=>Q v H
theorem ou{i:Nat}{x:Str}{pos:Pos}(hN:X.N[i]?=some x)(hv:Vis X.env.scope x)(hd:(x == ("__debug__":Str))=false:=by decide)(hcd:(x == ("__classdict__":Str))=false:=by decide):PE X (.Name x pos) (Ph i):=by
 intro pins s σ H Q I h;obtain⟨v,e,h⟩:=h;obtain⟨m,hn,hl⟩:=I.loc;obtain⟨u,r,l⟩:=hl i x v hN e hv;have fin:EP X pins σ Q u s:=⟨v,H,I,r,h⟩
 rcases l with⟨hk,hm⟩ | ⟨hk,c,hc,hcell⟩
 ·exact wpAny_Name (wpAny_loadName_local I.ok.kind hk hn hm fin) hd
 ·rcases hk with hk | hk
  ·exact wpAny_Name (wpAny_loadName_cell I.ok.kind hk hc hcell fin) hd
  ·exact wpAny_Name (wpAny_loadName_free I.ok.kind hk hc hcell fin hcd) hd
theorem wK{i j pos}:PE X (.Constant (.int i) j pos) (tC (.int i)):=λ_ _ _ H _ I h=>wpAny_Constant_int ⟨.int i,H,I.tok _,⟨_,rfl⟩,h⟩
theorem Pj{b j pos}:PE X (.Constant (.bool b) j pos) (tC (.bl b)):=λ_ _ _ H _ I h=>Constant_bool ⟨.bl b,H,I,rfl,h⟩
theorem Pk{j pos}:PE X (.Constant .none j pos) (tC .non):=λ_ _ _ H _ I h=>Constant_none ⟨.non,H,I,rfl,h⟩
theorem Fp{x j pos}:PE X (.Constant (.str x) j pos) (tC (.str x)):=λ_ _ _ H _ I h=>Calls.Constant_str ⟨.str x,H,I.tok _,⟨_,rfl⟩,h⟩
def Gl(X:Cx)(x:Str):Prop:=X.env.kindOf x=some .globalImplicit
theorem wL{E:Value->Shared->Prop}{pins:List (Addr×Obj)}{s:Shared}{σ:St}{H:Hp}{x:Str}{u:Value}{pos:Pos}{Q:Value->Shared->Prop}(I:Inv X pins σ H s)(hg:Gl X x)(hm:X.mg x=some u)(h:Q u s)
  (hd:(x == ("__debug__":Str))=false:=by decide):wpAny (model X.prog X.w) X.A (eval (.Name x pos) X.env) Q E s :=
 Calls.Name_function_global I.ok.kind hg (Calls.loadGlobal_global (by rw[I.ok.glob];exact I.mod.glob.keeps I.bk) hm h) hd
theorem jx{E:Value->Shared->Prop}{pins:List (Addr×Obj)}{s:Shared}{σ:St}{H:Hp}{x:Str}{u:Value}{pos:Pos}{Q:Value->Shared->Prop}(I:Inv X pins σ H s)(hg:Gl X x)(hm:X.mg x=none)(hv:bootBuiltins x=some u)(h:Q u s)
  (hn:x≠"__name__":=by decide) (hd:(x == ("__debug__":Str))=false:=by decide):wpAny (model X.prog X.w) X.A (eval (.Name x pos) X.env) Q E s:=by
 obtain⟨mb,h1,h2⟩:=I.mod.blt;exact Calls.Name_function_global I.ok.kind hg (Calls.loadGlobal_builtin (by rw[I.ok.glob];exact I.mod.glob.keeps I.bk) hm (by rw[I.ok.blt];exact h1.keeps I.bk) ((h2 x hn).trans hv) h) hd
theorem Pn{x:Str}{v:V}{u:Value}{pos:Pos}(hg:Gl X x)(hm:X.mg x=some u)(r:RelV v u)(hd:(x == ("__debug__":Str))=false:=by decide):PE X (.Name x pos) (tC v):=
 λ_ _ _ H _ I h=>wL I hg hm ⟨v,H,I,r,h⟩ hd
theorem Pq{x:Str}{v:V}{u:Value}{pos:Pos}(hg:Gl X x)(hm:X.mg x=none)(hv:bootBuiltins x=some u)(r:RelV v u)(hn:x≠"__name__":=by decide)(hd:(x == ("__debug__":Str))=false:=by decide):PE X (.Name x pos) (tC v):=
 λ_ _ _ H _ I h=>jx I hg hm hv ⟨v,H,I,r,h⟩ hn hd
variable {a b:Expr}{ta tb:TE}{pos:Pos}
def PC(X:Cx)(op:CmpOp)(a b:Expr)(t:TE):Prop :=
 ∀(pins:List (Addr×Obj)) (s:Shared) (σ:St) (H:Hp) (Q:VK),Inv X pins σ H s->t σ H Q ->
  wpAny (model X.prog X.w) X.A (eval a X.env) (λv s₁=>wpAny (model X.prog X.w) X.A (eval b X.env) (λu s₂=>wpAny (model X.prog X.w) X.A (compareOp op v u) (EP X pins σ Q) X.xe s₂) X.xe s₁) X.xe s
theorem Pu(b:Expr){op:CmpOp}(h:op≠.In)(h2:op≠.NotIn):behindInMarks op b=false:=by
 have e1:(op == CmpOp.In)=false:=by cases op<;>first | rfl | exact absurd rfl h
 have e2:(op == CmpOp.NotIn)=false:=by cases op<;>first | rfl | exact absurd rfl h2
 cases b<;>simp[behindInMarks,e1,e2]
def Fq(ta:TE):TE:=λσ H Q=>ta σ H λx H1=>Q (.bl (decide (x=.non))) H1
def Ft(ta:TE):TE:=λσ H Q=>ta σ H λx H1=>Q (.bl (!decide (x=.non))) H1
theorem RelV.none_iff{x:V}{v:Value}(r:RelV x v):(v == Value.none)=decide (x=.non):=by
 cases x with
 |non=>cases r;rfl
 |bl _=>cases r;rfl
 |int _=>obtain⟨t,rfl⟩:=r;rfl
 |str _=>obtain⟨t,rfl⟩:=r;rfl
 |byt _=>obtain⟨t,rfl⟩:=r;rfl
 |flt _=>obtain⟨t,rfl⟩:=r;rfl
 |ref _=>cases r;rfl
 |ty _=>cases r;rfl
theorem Px{j pos'}(ha:PE X a ta):PC X .Is a (.Constant .none j pos') (Fq ta):=by
 intro pins s σ H Q I h
 refine thn (ha pins s σ H _ I h) λv s1 ⟨x,H1,I1,r1,q1⟩=>?_
 exact Constant_none (is_none_gen ⟨.bl _,H1,I1,by rw[r1.none_iff];rfl,q1⟩)
theorem Py{j pos'}(ha:PE X a ta):PC X .IsNot a (.Constant .none j pos') (Ft ta):=by
 intro pins s σ H Q I h
 refine thn (ha pins s σ H _ I h) λv s1 ⟨x,H1,I1,r1,q1⟩=>?_
 exact Constant_none (isnot_none_gen ⟨.bl _,H1,I1,by rw[r1.none_iff];rfl,q1⟩)
def tB(t:TE):TT:=λσ H Q=>t σ H λx H1=>∃c,x=.bl c/\Q c H1
theorem wM{op:CmpOp}{t:TE}(h:PC X op a b t)(h1:behindInMarks op b=false:=by first | exact Pu _ (by decide) (by decide) | rfl):PT X (.Compare a [op] [b] pos) (tB t):=by
 intro pins s σ H Q I hw;refine wpAny_isTrue_Compare1 (thn (h pins s σ H _ I hw) λv s1 h1=>thn h1 λu s2 h2=>thn h2 λc s3 ⟨x,H1,I1,r1,q1⟩=>?_) h1;obtain⟨d,rfl,q⟩:=q1;cases r1;exact wpAny_truthy_bool ⟨H1,I1,q⟩
variable {tA tB':TT}{rest:List Expr}
def Fv(t u:TT):TT:=λσ H Q=>t σ H λc H1=>if c=true then u σ H1 Q else Q false H1
def tOr(t u:TT):TT:=λσ H Q=>t σ H λc H1=>if c=true then Q true H1 else u σ H1 Q
def Pz(t:TT):TT:=λσ H Q=>t σ H λc H1=>Q (!c) H1
theorem PB(ha:PT X a tA):PW X (.BoolOp .And [a] pos) tA:=by
 intro wh pins s σ H Q I h;refine isTrue_and (thn (ha pins s σ H Q I h) λc s1 e=>?_)
 cases c with
 |true=>exact isTrue_and_nil e
 |false=>exact e
theorem PJ(ha:PT X a tA):PW X (.BoolOp .Or [a] pos) tA:=by
 intro wh pins s σ H Q I h;refine isTrue_or (thn (ha pins s σ H Q I h) λc s1 e=>?_)
 cases c with
 |false=>exact isTrue_or_nil e
 |true=>exact e
theorem PK(ha:PT X a tA)(hb:PW X (.BoolOp .And (b::rest) pos) tB'):PW X (.BoolOp .And (a::b::rest) pos) (Fv tA tB'):=by
 intro wh pins s σ H Q I h;refine isTrue_and (thn (ha pins s σ H _ I h) λc s1 ⟨H1,I1,q1⟩=>?_)
 cases c with
 |true=>exact hb wh pins s1 σ H1 Q I1 q1
 |false=>exact⟨H1,I1,q1⟩
theorem PL(ha:PT X a tA)(hb:PW X (.BoolOp .Or (b::rest) pos) tB'):PW X (.BoolOp .Or (a::b::rest) pos) (tOr tA tB'):=by
 intro wh pins s σ H Q I h;refine isTrue_or (thn (ha pins s σ H _ I h) λc s1 ⟨H1,I1,q1⟩=>?_)
 cases c with
 |true=>exact⟨H1,I1,q1⟩
 |false=>exact hb wh pins s1 σ H1 Q I1 q1
theorem PN(ha:PT X a tA):PT X (.UnaryOp .Not a pos) (Pz tA):=by
 intro pins s σ H Q I h;exact isTrue_not (ha pins s σ H (λc H1=>Q (!c) H1) I h)
def PP(ta tb:TE):TE:=λσ H Q=>ta σ H λx H1=>∃c,x=.bl c/\if c=true then tb σ H1 Q else Q (.bl false) H1
def PQ(ta:TE):TE:=λσ H Q=>ta σ H λx H1=>∃c,x=.bl c/\Q (.bl (!c)) H1
theorem PX{op}{t:TE}(h:PE X a t):PE X (.BoolOp op [a] pos) t:=λpins s σ H Q I hw=>BoolOp_one (h pins s σ H Q I hw)
theorem P0(ha:PE X a ta)(hb:PE X (.BoolOp .And (b::rest) pos) tb):PE X (.BoolOp .And (a::b::rest) pos) (PP ta tb):=by
 intro pins s σ H Q I h;refine BoolOp_and (thn (ha pins s σ H _ I h) λv s1 ⟨x,H1,I1,r1,q1⟩=>?_);obtain⟨c,rfl,q1⟩:=q1;cases r1;refine wpAny_truthy_bool ?_
 cases c with
 |true=>exact hb pins s1 σ H1 Q I1 q1
 |false=>exact⟨.bl false,H1,I1,rfl,q1⟩
theorem Qa(ha:PE X a ta):PE X (.UnaryOp .Not a pos) (PQ ta):=by
 intro pins s σ H Q I h;refine UnaryOp_ (thn (ha pins s σ H _ I h) λv s1 ⟨x,H1,I1,r1,q1⟩=>?_);obtain⟨c,rfl,q1⟩:=q1;cases r1;exact not_of (wpAny_truthy_bool ⟨.bl (!c),H1,I1,rfl,q1⟩)
def tIf(t:TT)(ta tb:TE):TE:=λσ H Q=>t σ H λc H1=>if c=true then ta σ H1 Q else tb σ H1 Q
theorem Qc{c:Expr}(hc:PT X c tA)(ha:PE X a ta)(hb:PE X b tb):PE X (.IfExp c a b pos) (tIf tA ta tb):=by
 intro pins s σ H Q I h;refine wpAny_IfExp (thn (hc pins s σ H _ I h) λd s1 ⟨H1,I1,q1⟩=>?_)
 cases d with
 |true=>exact ha pins s1 σ H1 Q I1 q1
 |false=>exact hb pins s1 σ H1 Q I1 q1
end
def SqL(K:PySem.W.Frag)(H:Hp)(a:Addr)(xs:List V):Prop :=
 Rd H a (.lst xs) \/
  ∃(o:Obj) (its:Array Value) (n:Nat),K.lookup a=some o/\o.cls=.type "list"/\o.dict=none/\o.data=.seq its n/\its.size<=sizeLine/\aN xs its.toList
def SqT(K:PySem.W.Frag)(H:Hp)(a:Addr)(xs:List V):Prop :=
 Rd H a (.tup xs) \/
  ∃(o:Obj) (its:Array Value) (n:Nat),K.lookup a=some o/\o.cls=.type "tuple"/\o.data=.seq its n/\its.size<=sizeLine/\aN xs its.toList
def Qd:Value->Option V
 | .none=>some .non
 | .bool b=>some (.bl b)
 | .int i _=>some (.int i)
 | .str x _=>some (.str x)
 | .bytes b _=>some (.byt b)
 | .float b _=>some (.flt b)
 | .ref a=>some (.ref a)
 | .type n=>some (.ty n)
 | _=>none
theorem RelV.abs{x:V}{u:Value}(r:RelV x u):Qd u=some x:=by
 cases x with
 |non=>cases r;rfl
 |bl _=>cases r;rfl
 |int _=>obtain⟨t,rfl⟩:=r;rfl
 |str _=>obtain⟨t,rfl⟩:=r;rfl
 |byt _=>obtain⟨t,rfl⟩:=r;rfl
 |flt _=>obtain⟨t,rfl⟩:=r;rfl
 |ref _=>cases r;rfl
 |ty _=>cases r;rfl
theorem RelV.inj{x y:V}{u:Value}(r:RelV x u)(q:RelV y u):x=y:=zt (r.abs.symm.trans q.abs)
theorem aN.inj:∀{xs ys:List V}{us:List Value},aN xs us->aN ys us->xs=ys
 | _,_,_,.nil,.nil=>rfl
 | _,_,_,.cons r t,.cons r' t'=>by rw[r.inj r',aN.inj t t']
section
variable {X:Cx}{pins:List (Addr×Obj)}{σ:St}{H:Hp}{s:Shared}{a:Addr}{xs ys:List V}
theorem SqL.of{K:PySem.W.Frag}(h:H a=some (.lst xs)):SqL K H a xs:=.inl (.inl h)
theorem SqT.of{K:PySem.W.Frag}(h:H a=some (.tup xs)):SqT K H a xs:=.inl (.inl h)
theorem Inv.list(I:Inv X pins σ H s)(h:SqL X.K H a xs):∃its:List Value,aN xs its/\PlainL s.heap a its.toArray/\xs.length<=sizeLine:=by
 rcases h with h | ⟨o,its,n,hk,hc,hd,hs,hz,r⟩
 ·obtain⟨z,its,n,r,e⟩:=h.ok I.hok;exact⟨its,r,⟨_,n,e,rfl,rfl,rfl⟩,z⟩
 ·refine⟨its.toList,r,⟨o,n,I.kIn a o hk,hc,hd,by simpa using hs⟩,?_⟩;have e:=r.length;simp only[Array.length_toList] at e;omega
theorem Inv.tuple(I:Inv X pins σ H s)(h:SqT X.K H a xs):∃its:List Value,aN xs its/\IsTup s.heap a its.toArray/\xs.length<=sizeLine:=by
 rcases h with h | ⟨o,its,n,hk,hc,hs,hz,r⟩
 ·obtain⟨z,its,r,p⟩:=h.ok I.hok;exact⟨its,r,p,z⟩
 ·refine⟨its.toList,r,⟨o,I.kIn a o hk,hc,n,by simpa using hs⟩,?_⟩;have e:=r.length;simp only[Array.length_toList] at e;omega
theorem Inv.list_inj(I:Inv X pins σ H s)(h:SqL X.K H a xs)(h':SqL X.K H a ys):xs=ys:=by
 obtain⟨its,r,⟨o,n,e,_,_,d⟩,_⟩:=I.list h;obtain⟨its',r',⟨o',n',e',_,_,d'⟩,_⟩:=I.list h';rw[e] at e';cases e';rw[d] at d'
 injection d' with d1 _
 have:its=its':=by simpa using congrArg Array.toList d1
 subst this;exact r.inj r'
theorem Inv.tuple_inj(I:Inv X pins σ H s)(h:SqT X.K H a xs)(h':SqT X.K H a ys):xs=ys:=by
 obtain⟨its,r,⟨o,e,_,n,d⟩,_⟩:=I.tuple h;obtain⟨its',r',⟨o',e',_,n',d'⟩,_⟩:=I.tuple h';rw[e] at e';cases e';rw[d] at d'
 injection d' with d1 _
 have:its=its':=by simpa using congrArg Array.toList d1
 subst this;exact r.inj r'
end
abbrev Cx.wish(X:Cx)(E:Value->Shared->Prop):Cx:={X with xe:=E}
abbrev Cx.nox(X:Cx):Cx:=X.wish λ_ _=>False
theorem Cx.Ok.wish{X:Cx}(ok:X.Ok)(E:Value->Shared->Prop):(X.wish E).Ok :=
 ⟨ok.mod,ok.kind,ok.glob,ok.blt,ok.above,ok.inj,ok.has,ok.cab,ok.hd,ok.frames,ok.stk,ok.exf,ok.bs,ok.bsz,ok.noex,ok.exfs,ok.funs,ok.frf⟩
theorem Cx.Ok.unwish{X:Cx}{E:Value->Shared->Prop}(ok:(X.wish E).Ok):X.Ok :=
 ⟨ok.mod,ok.kind,ok.glob,ok.blt,ok.above,ok.inj,ok.has,ok.cab,ok.hd,ok.frames,ok.stk,ok.exf,ok.bs,ok.bsz,ok.noex,ok.exfs,ok.funs,ok.frf⟩
section
variable {X:Cx}{pins:List (Addr×Obj)}{σ:St}{H:Hp}{s:Shared}{E:Value->Shared->Prop}
theorem Inv.wish(I:Inv X pins σ H s)(E:Value->Shared->Prop):Inv (X.wish E) pins σ H s:=⟨I.ok.wish E,I.os,I.bare,I.base,I.loc,I.cell,I.free,I.freeC,I.pin,I.hok,I.len⟩
theorem Inv.unwish(I:Inv (X.wish E) pins σ H s):Inv X pins σ H s:=⟨I.ok.unwish,I.os,I.bare,I.base,I.loc,I.cell,I.free,I.freeC,I.pin,I.hok,I.len⟩
theorem SP.unwish{D:Ends}{f:Flow}{s':Shared}(h:SP (X.wish E) pins D f s'):SP X pins D f s':=by
 cases f with
 |next=>obtain⟨σ',H',I,q⟩:=h;exact⟨σ',H',I.unwish,q⟩
 |brk=>obtain⟨σ',H',I,q⟩:=h;exact⟨σ',H',I.unwish,q⟩
 |cont=>obtain⟨σ',H',I,q⟩:=h;exact⟨σ',H',I.unwish,q⟩
 |ret u=>obtain⟨v,σ',H',I,r,q⟩:=h;exact⟨v,σ',H',I.unwish,r,q⟩
theorem PE.nox{e:Expr}{t:TE}(h:PE X.nox e t):PE X e t:=λpins s σ H Q I hw =>
 zL (h pins s σ H Q (I.wish _) hw) (λ_ _ ⟨v,H',I',r,q⟩=>⟨v,H',I'.unwish,r,q⟩) λ_ _ z=>False.elim z
theorem PT.nox{e:Expr}{t:TT}(h:PT X.nox e t):PT X e t:=λpins s σ H Q I hw =>
 zL (h pins s σ H Q (I.wish _) hw) (λ_ _ ⟨H',I',q⟩=>⟨H',I'.unwish,q⟩) λ_ _ z=>False.elim z
theorem PSs.nox{st:List Stmt}{t:TS}(h:PSs X.nox st t):PSs X st t:=λpins s σ H D I hw =>
 zL (h pins s σ H D (I.wish _) hw) (λ_ _ q=>q.unwish) λ_ _ z=>False.elim z
end
section
variable {X:Cx}{st:Stmt}{rest:List Stmt}{t u:TS}{e:Expr}{te:TE}{pos:Pos}
def Qe:TS:=λD σ H=>D.nx σ H
def Qf(t u:TS):TS:=λD σ H=>t {D with nx:=u D} σ H
theorem Qg:PSs X [] Qe:=λ_ _ σ H _ I h=>wpAny_execs_nil ⟨σ,H,I,h⟩
theorem Qh(h1:PS X st t)(h2:PSs X rest u):PSs X (st::rest) (Qf t u):=by
 intro pins s σ H D I h;refine wpAny_execs_cons (thn (h1 pins s σ H {D with nx:=u D} I h) λf s1 q=>?_)
 cases f with
 |next =>
  obtain⟨σ',H',I',q⟩:=q;exact h2 pins s1 σ' H' D I' q
 |ret v=>exact q
 |brk=>exact q
 |cont=>exact q
theorem Qi(h1:PS X st t):PSs X [st] t:=by
 intro pins s σ H D I h;refine wpAny_execs_cons (thn (h1 pins s σ H D I h) λf s1 q=>?_)
 cases f with
 |next=>exact wpAny_execs_nil q
 |ret v=>exact q
 |brk=>exact q
 |cont=>exact q
def Qj:TS:=λD σ H=>D.bk σ H
theorem Qk:PS X (.Break pos) Qj:=λ_ _ σ H _ I h=>wpAny_Break ⟨σ,H,I,h⟩
theorem Inv.quiet{pins:List (Addr×Obj)}{σ:St}{H:Hp}{s:Shared}(I:Inv X pins σ H s):interactive X.env=false:=by simp[interactive,I.ok.kind]
def Ql(te:TE):TS:=λD σ H=>te σ H λ_ H1=>D.nx σ H1
theorem wN(he:PE X e te)(hs:swapsWith e none pos.line X.env=pure false:=by rfl):PS X (.Expr e pos) (Ql te):=by
 intro pins s σ H D I h;exact wpAny_Expr_any (thn (he pins s σ H _ I h) λv s1 ⟨x,H1,I1,r1,q1⟩=>⟨σ,H1,I1,q1⟩) I.quiet hs
def Qm(te:TE):TS:=λD σ H=>te σ H D.rt
theorem Fw(he:PE X e te):PS X (.Return (some e) pos) (Qm te):=by
 intro pins s σ H D I h;exact wpAny_Return_some (thn (he pins s σ H _ I h) λv s1 ⟨x,H1,I1,r1,q1⟩=>⟨x,σ,H1,I1,r1,q1⟩)
def Qn(c:TT)(t u:TS):TS:=λD σ H=>c σ H λb H1=>if b=true then t D σ H1 else u D σ H1
theorem Qo{c:Expr}{a b:List Stmt}{tc:TT}(hc:PT X c tc)(ha:PSs X a t)(hb:PSs X b u):PS X (.If c a b pos) (Qn tc t u):=by
 intro pins s σ H D I h;refine wpAny_If (thn (hc pins s σ H _ I h) λd s1 ⟨H1,I1,q1⟩=>?_)
 cases d with
 |true=>exact ha pins s1 σ H1 D I1 q1
 |false=>exact hb pins s1 σ H1 D I1 q1
def Qp:TS:=λ_ _ _=>False
theorem Qq:PS X st Qp:=λ_ _ _ _ _ _ h=>h.elim
end
abbrev TG:=V->St->Hp->(St->Hp->Prop)->Prop
abbrev TGs:=List V->St->Hp->(St->Hp->Prop)->Prop
def PG(X:Cx)(target:Expr)(t:TG):Prop :=
 ∀(pins:List (Addr×Obj)) (s:Shared) (σ:St) (H:Hp) (v:V) (u:Value) (Q:St->Hp->Prop),Inv X pins σ H s->RelV v u->t v σ H Q ->
  wpAny (model X.prog X.w) X.A (assign target X.env u) (λ_ s'=>∃σ' H',Inv X pins σ' H' s'/\Q σ' H') X.xe s
def PGs(X:Cx)(ts:List Expr)(t:TGs):Prop :=
 ∀(pins:List (Addr×Obj)) (s:Shared) (σ:St) (H:Hp) (vs:List V) (us:List Value) (Q:St->Hp->Prop),Inv X pins σ H s->aN vs us->t vs σ H Q ->
  wpAny (model X.prog X.w) X.A (assignInOrder ((assignEach ts X.env).map (·.2)) us) (λ_ s'=>∃σ' H',Inv X pins σ' H' s'/\Q σ' H') X.xe s
section
variable {X:Cx}{pos:Pos}
def qi(i:Nat):TG:=λv σ H Q=>Q (σ.set i (some v)) H
theorem Qs{i:Nat}{x:Str}(hN:X.N.Nodup)(hi:X.N[i]?=some x)(hx:Loc X.env.scope x)(hf:X.fn x=true\/X.env.scope.names.lookup x=some .local:=by first | exact .inl rfl | exact .inr rfl | assumption):PG X (.Name x pos) (qi i):=by
 intro pins s σ H v u Q I r h;exact wpAny_assign_Name (wJ I hN hi hx r (λs' I'=>⟨_,H,I',h⟩) hf)
def Qt:TGs:=λvs σ H Q=>vs=[]/\Q σ H
def Qu(t:TG)(u:TGs):TGs:=λvs σ H Q=>∃v r,vs=v::r/\t v σ H λσ' H'=>u r σ' H' Q
theorem Qv:PGs X [] Qt:=by
 intro pins s σ H vs us Q I r h;obtain⟨e,h⟩:=h;subst e;cases r;exact assignInOrder_nil ⟨σ,H,I,h⟩
theorem Qw{e:Expr}{es:List Expr}{t:TG}{u:TGs}(h1:PG X e t)(h2:PGs X es u)
  (hs:(assignEach (e::es) X.env).map (·.2)=assign e X.env::(assignEach es X.env).map (·.2):=by rfl):PGs X (e::es) (Qu t u):=by
 intro pins s σ H vs us Q I r h;obtain⟨v,vr,e1,h⟩:=h;subst e1
 cases r with
 |cons r rr =>
  rw[hs];refine assignInOrder_cons (thn (h1 pins s σ H _ _ _ I r h) λ_ s1 ⟨σ1,H1,I1,q1⟩=>?_);exact h2 pins s1 σ1 H1 _ _ Q I1 rr q1
def Qx(K:PySem.W.Frag)(n:Nat)(t:TGs):TG:=λv σ H Q=>∃a xs,v=.ref a/\SqT K H a xs/\xs.length=n/\t xs σ H Q
theorem Qy{es:List Expr}{k:Nat}{t:TGs}{n:Nat}(hc:X.calm=true)(h:PGs X es t)
  (hn:(assignEach es X.env).length=n:=by rfl) (hst:(assignEach es X.env).findIdx? (·.1)=none:=by rfl):PG X (.Tuple es k pos) (Qx X.K n t):=by
 intro pins s σ H v u Q I r hw;obtain⟨a,xs,e1,hq,hl,hw⟩:=hw;subst e1;cases r;obtain⟨its,rv,ht,hz⟩:=I.tuple hq
 refine assign_Tuple_tuple (I.ok.hd hc) ht (by simp[hn,<-hl,rv.length]) hst λh' hx=>?_
 have I1:Inv X pins σ H {s with heap:=h'}:=I.kept (t':=s.toks) λb o e=>hx b o (zu (ze e)) e
 exact h pins _ σ H xs _ Q I1 (by simpa using rv) hw
def tU(te:TE)(g:TG):TS:=λD σ H=>te σ H λx H1=>g x σ H1 D.nx
theorem Fx{i:Nat}{x:Str}{e:Expr}{te:TE}{pos':Pos}(hN:X.N.Nodup)(hi:X.N[i]?=some x)(hx:Loc X.env.scope x)(he:PE X e te)(hs:swapsWith e (some (.Name x pos')) pos.line X.env=pure false:=by rfl)(hf:X.fn x=true\/X.env.scope.names.lookup x=some .local:=by first | exact .inl rfl | exact .inr rfl | assumption):
  PS X (.Assign [.Name x pos'] e pos) (tU te (qi i)):=by
 intro pins s σ H D I h;refine wpAny_Assign_Name (thn (he pins s σ H _ I h) λv s1 ⟨y,H1,I1,r1,q1⟩=>?_) hs;exact wJ I1 hN hi hx r1 (λs2 I2=>⟨_,H1,I2,q1⟩) hf
end
section
variable {X:Cx}{pos:Pos}
def Fy(c:TT)(tb:TS):TS:=λD σ H=>∃W:Nat->St->Hp->Prop,(∃m,W m σ H)/\∀m σ H,W m σ H ->
 c σ H λb H1=>if b=true then ∃N:St->Hp->Prop,(∀σ' H',N σ' H'->∃m',m'<m/\W m' σ' H')/\tb {D with nx:=N,ct:=N,bk:=D.nx} σ H1 else D.nx σ H1
theorem Qz{c:Expr}{body:List Stmt}{tc:TT}{tb:TS}(hp:PassesOwn (model X.prog X.w) X.A X.env X.xe)(hc:PT X c tc)(hb:PSs X body tb):PS X (.While c body [] pos) (Fy tc tb):=by
 intro pins s σ H D I h;obtain⟨W,⟨m0,w0⟩,turn⟩:=h;refine wpAny_While (codeAny_whileLoop (λn s'=>∃σ' H',Inv X pins σ' H' s'/\W n σ' H') ?_ m0 ⟨σ,H,I,w0⟩);rintro n s1 ⟨σ1,H1,I1,w1⟩;refine wpAny_passesOwn hp (thn (hc pins s1 σ1 H1 _ I1 (turn n σ1 H1 w1)) λb s2 ⟨H2,I2,q2⟩=>?_)
 cases b with
 |true =>
  obtain⟨N,hN,q2⟩:=q2;rw[if_pos rfl];refine wpAny_passesOwn hp (thn (hb pins s2 σ1 H2 _ I2 q2) λf s3 q3=>?_)
  cases f with
  |next =>
   obtain⟨σ3,H3,I3,n3⟩:=q3;obtain⟨m',hm,w3⟩:=hN σ3 H3 n3;exact⟨m',hm,σ3,H3,I3,w3⟩
  |cont =>
   obtain⟨σ3,H3,I3,n3⟩:=q3;obtain⟨m',hm,w3⟩:=hN σ3 H3 n3;exact⟨m',hm,σ3,H3,I3,w3⟩
  |brk=>exact q3
  |ret v=>exact q3
 |false =>
  rw[if_neg zh];exact wpAny_execs_nil ⟨σ1,H2,I2,q2⟩
end
structure It where
 go:Nat->Hp->Prop
 yld:Nat->Hp->V->Hp->Prop
 stop:Nat->Hp->Prop
def gM(X:Cx)(pins:List (Addr×Obj))(H:Hp)(b:Addr):Prop :=
 H b=none/\b≠X.env.locals/\b∉X.fs/\(b∈X.ex\/X.s₀.heap.objs.size<=b)/\(∀x c,X.env.cells.lookup x=some c->c≠b)/\∀p∈X.pn++pins,p.1≠b
theorem Inv.fpOk{X:Cx}{pins:List (Addr×Obj)}{σ:St}{H H':Hp}{s:Shared}{b:Addr}(I:Inv X pins σ H s)(hb:s.heap.objs.size<=b)(hn:H' b=none):gM X pins H' b:=by
 refine⟨hn,Nat.ne_of_gt (zF I.lt hb),I.nofs hb,.inr (zG I.sz hb),λx c e z=>?_,λp hp z=>?_⟩
 ·obtain⟨v,q⟩:=I.cell x c e;exact absurd (zF q.lt (by rw[z];exact hb)) (zR _)
 ·exact absurd (zF (ze (I.pin p hp).1) (by rw[z];exact hb)) (zR _)
structure Turn(P:Program)(w:World)(K:PySem.W.Frag)(tg:Expr)(J:It)(fp:List Addr)(it:Addr)(tn:Nat->Heap->Prop):Prop where
 mem:it∈fp
 obj:∀i h,tn i h->∀b∈fp,∃o,h.get? b=some o/\∀v,o.data≠.cell v
 keep:∀i h h',tn i h->(∀b∈fp,∀o,h.get? b=some o->h'.get? b=some o)->tn i h'
 item:∀(X:Cx),X.prog=P->X.w=w->X.K=K->X.calm=true->∀(i:Nat) (pins:List (Addr×Obj)) (s:Shared) (σ:St) (H:Hp) (E:Value->Shared->Prop),Inv X pins σ H s->(∀b∈fp,gM X pins H b)->tn i s.heap->J.go i H ->
  wpAny (model P w) X.A (pyNext (.ref it)) (λr s1=>∃u,r=some u /\
   wpAny (model P w) X.A (letOwnedTupleGo tg (.ref it) u) (λ_ s2=>∃x H',Inv X pins σ H' s2/\RelV x u/\J.yld i H x H'/\tn (i+1) s2.heap/\∀b∈fp,H' b=none) E s1) E s
 done:∀(X:Cx),X.prog=P->X.w=w->X.K=K->X.calm=true->∀(i:Nat) (pins:List (Addr×Obj)) (s:Shared) (σ:St) (H:Hp) (E:Value->Shared->Prop),Inv X pins σ H s->(∀b∈fp,gM X pins H b)->tn i s.heap->J.stop i H ->
  wpAny (model P w) X.A (pyNext (.ref it)) (λr s1=>r=none/\Inv X pins σ H s1) E s
 self:∀(A:Around) (i:Nat) (s:Shared) (Q:Value->Shared->Prop) (E:Value->Shared->Prop),tn i s.heap->Q (.ref it) s->wpAny (model P w) A (pyIter (.ref it)) Q E s
abbrev TI:=St->Hp->(It->Hp->Prop)->Prop
def PIE(X:Cx)(pins:List (Addr×Obj))(σ:St)(tg:Expr)(R:It->Hp->Prop)(itv:Value)(s2:Shared):Prop :=
 ∃(it:Addr) (fp:List Addr) (tn:Nat->Heap->Prop) (J:It) (H':Hp),itv=.ref it/\Inv X pins σ H' s2/\Turn X.prog X.w X.K tg J fp it tn/\tn 0 s2.heap/\(∀b∈fp,gM X pins H' b)/\R J H'
def PI(X:Cx)(tg iter:Expr)(wi:TI):Prop :=
 ∀(pins:List (Addr×Obj)) (s:Shared) (σ:St) (H:Hp) (R:It->Hp->Prop),Inv X pins σ H s->wi σ H R ->
  wpAny (model X.prog X.w) X.A (eval iter X.env) (λv s1=>wpAny (model X.prog X.w) X.A (pyIter v) (PIE X pins σ tg R) X.xe s1) X.xe s
theorem lY{M:Model}{A:Around}{E:Value->Shared->Prop}{s:Shared}{tg:Expr}{it:Addr}{u:Value}{o:Obj}{n:String}{vs:Array Value}{Q:Unit->Shared->Prop}(ho:s.heap.get? it=some o)(hc:o.cls=.type n)(hd:o.data=.fields vs)
  (hn:["enumerate","zip","dict_itemiterator","dict_reverseitemiterator","odict_iterator","itertools.zip_longest","itertools.pairwise"].contains n=false) (hQ:Q () s):wpAny M A (letOwnedTupleGo tg (.ref it) u) Q E s:=by
 unfold letOwnedTupleGo
 cases tg<;>first
  | exact zb hQ
  | (cases u<;>first
    | exact zb hQ
    | (refine za (wpAny_load ho ?_)
       rw[hc,hd];show wpAny M A (if(["enumerate","zip","dict_itemiterator","dict_reverseitemiterator","odict_iterator","itertools.zip_longest","itertools.pairwise"].contains n&&vs[0]? == some (rawInt _))=true then _ else _) Q E s;rw[if_neg (by intro h;rw[hn,Bool.false_and] at h;cases h)]
       exact zb hQ))
def Itl(K:PySem.W.Frag)(a:Addr):It :=
 ⟨λi H=>∃xs x,SqL K H a xs/\xs[i]?=some x,λi H x H'=>H'=H/\∀xs,SqL K H a xs->xs[i]?=some x,λi H=>∃xs,SqL K H a xs/\xs.length<=i⟩
def Itt(K:PySem.W.Frag)(a:Addr):It :=
 ⟨λi H=>∃xs x,SqT K H a xs/\xs[i]?=some x,λi H x H'=>H'=H/\∀xs,SqT K H a xs->xs[i]?=some x,λi H=>∃xs,SqT K H a xs/\xs.length<=i⟩
def Itr(lo:Int)(n:Nat):It:=⟨λi _=>i<n,λi H x H'=>H'=H/\x=.int (lo+i),λi _=>n<=i⟩
theorem QB{P:Program}{w:World}{K:PySem.W.Frag}{tg:Expr}(a it:Addr):Turn P w K tg (Itl K a) [it] it (λi h=>h.IsListIter it a i) where
 mem:=by simp
 obj:=λi h st b hb=>by
  have e:b=it:=by simpa using hb
  subst e;obtain⟨o,e,c,d⟩:=st;exact⟨o,e,λv z=>by rw[d] at z;cases z⟩
 keep:=λi h h' st k=>st.at λo e=>k it (by simp) o e
 item:=by
  intro X hP hw hK hc i pins s σ H E I hf st hg;subst hP hw hK;obtain⟨xs,x,hq,hx⟩:=hg;obtain⟨its,rv,p,hz⟩:=I.list hq;obtain⟨u,hu,ru⟩:=rv.get hx;obtain⟨f0,f1,f2,f3,f4,f5⟩:=hf it (by simp)
  refine wpAny_pyNext_list_item st p.isList (x:=u) (by simpa using hu) λh' st' sb=>?_
  have I1:Inv X pins σ H {s with heap:=h'}:=I.turned (t':=s.toks) (λb o hb e=>(sb.2 b hb).trans e) f0 f1 f3 f4 f5;obtain⟨o,e,c,d⟩:=id st';exact⟨u,rfl,lY (s:={s with heap:=h'}) e c d (by decide) ⟨x,H,I1,ru,⟨rfl,λys hy=>by rw[I.list_inj hy hq];exact hx⟩,st',λb hb=>(hf b hb).1⟩⟩
 done:=by
  intro X hP hw hK hc i pins s σ H E I hf st hg;subst hP hw hK;obtain⟨xs,hq,hx⟩:=hg;obtain⟨its,rv,p,hz⟩:=I.list hq;obtain⟨f0,f1,f2,f3,f4,f5⟩:=hf it (by simp);have hl:=rv.length
  exact wpAny_pyNext_list_end (I.ok.hd hc) st p.isList (by simp;omega) λh' eb=>⟨rfl,I.turned (t':=s.toks) (λb o hb e=>eb b o hb e) f0 f1 f3 f4 f5⟩
 self:=λ_ _ _ _ _ st h=>wpAny_pyIter_listiter st h
theorem QC{P:Program}{w:World}{K:PySem.W.Frag}{tg:Expr}(a it:Addr):Turn P w K tg (Itt K a) [it] it (λi h=>h.IsTupleIter it a i) where
 mem:=by simp
 obj:=λi h st b hb=>by
  have e:b=it:=by simpa using hb
  subst e;obtain⟨o,e,c,d⟩:=st;exact⟨o,e,λv z=>by rw[d] at z;cases z⟩
 keep:=λi h h' st k=>st.at λo e=>k it (by simp) o e
 item:=by
  intro X hP hw hK hc i pins s σ H E I hf st hg;subst hP hw hK;obtain⟨xs,x,hq,hx⟩:=hg;obtain⟨its,rv,p,hz⟩:=I.tuple hq;obtain⟨u,hu,ru⟩:=rv.get hx;obtain⟨f0,f1,f2,f3,f4,f5⟩:=hf it (by simp)
  refine wpAny_pyNext_tuple_item st (show s.heap.IsTuple a its.toArray from p) (x:=u) (by simpa using hu) λh' st' sb=>?_
  have I1:Inv X pins σ H {s with heap:=h'}:=I.turned (t':=s.toks) (λb o hb e=>(sb.2 b hb).trans e) f0 f1 f3 f4 f5;obtain⟨o,e,c,d⟩:=id st';exact⟨u,rfl,lY (s:={s with heap:=h'}) e c d (by decide) ⟨x,H,I1,ru,⟨rfl,λys hy=>by rw[I.tuple_inj hy hq];exact hx⟩,st',λb hb=>(hf b hb).1⟩⟩
 done:=by
  intro X hP hw hK hc i pins s σ H E I hf st hg;subst hP hw hK;obtain⟨xs,hq,hx⟩:=hg;obtain⟨its,rv,p,hz⟩:=I.tuple hq;obtain⟨f0,f1,f2,f3,f4,f5⟩:=hf it (by simp);have hl:=rv.length
  exact wpAny_pyNext_tuple_end (I.ok.hd hc) st (show s.heap.IsTuple a its.toArray from p) (by simp;omega) λh' eb=>⟨rfl,I.turned (t':=s.toks) (λb o hb e=>eb b o hb e) f0 f1 f3 f4 f5⟩
 self:=λ_ _ _ _ _ st h=>wpAny_pyIter_tupleiter st h
theorem QD{P:Program}{w:World}{K:PySem.W.Frag}{tg:Expr}(it:Addr)(lo:Int)(n:Nat):Turn P w K tg (Itr lo n) [it] it (λi h=>IsRangeIter h it (lo+(i:Nat) * 1) ((n:Int) - (i:Nat)) 1) where
 mem:=by simp
 obj:=λi h st b hb=>by
  have e:b=it:=by simpa using hb
  subst e
  exact⟨_,st,λv z=>by
   have z':Data.fields _=Data.cell v:=z
   cases z'⟩
 keep:=λi h h' st k=>k it (by simp) _ st
 item:=by
  intro X hP hw hK hc i pins s σ H E I hf st hg;subst hP hw hK;obtain⟨f0,f1,f2,f3,f4,f5⟩:=hf it (by simp);have W:=Walks.range (prog:=X.prog) (w:=X.w) (I.ok.hd hc) it lo 1 n
  refine W.item i s _ _ hg st λv h' tk hv st' kk=>?_
  obtain⟨t,rfl⟩:=hv;have I1:Inv X pins σ H {s with heap:=h',toks:=tk}:=I.turned (λb o hb e=>kk b o (by simpa using hb) e) f0 f1 f3 f4 f5;refine⟨_,rfl,lY (s:={s with heap:=h',toks:=tk}) (n:="range_iterator") st' rfl rfl (by decide) ⟨.int (lo+i),H,I1,⟨t,?_⟩,⟨rfl,rfl⟩,st',λb hb=>(hf b hb).1⟩⟩;rw[Int.mul_one]
 done:=by
  intro X hP hw hK hc i pins s σ H E I hf st hg;subst hP hw hK;obtain⟨f0,f1,f2,f3,f4,f5⟩:=hf it (by simp)
  exact wpAny_pyNext_range_end (I.ok.hd hc) st (by have:n<=i:=hg;omega) λh' eb=>⟨rfl,I.turned (t':=s.toks) (λb o hb e=>eb b o hb e) f0 f1 f3 f4 f5⟩
 self:=λ_ _ _ _ _ st h=>wpAny_pyIter_rangeiter st h
section
variable {X:Cx}{tg:Expr}
def QF(K:PySem.W.Frag)(tl:TE):TI:=λσ H R=>tl σ H λx H1=>∃a,x=.ref a/\(∃xs,SqL K H1 a xs)/\R (Itl K a) H1
def QG(K:PySem.W.Frag)(tl:TE):TI:=λσ H R=>tl σ H λx H1=>∃a,x=.ref a/\(∃xs,SqT K H1 a xs)/\R (Itt K a) H1
theorem Fz{l:Expr}{tl:TE}(hl:PE X l tl):PI X tg l (QF X.K tl):=by
 intro pins s σ H R I h
 refine thn (hl pins s σ H _ I h) λv s1 ⟨x,H1,I1,r1,q1⟩=>?_
 obtain⟨a,e,⟨xs,hq⟩,q⟩:=q1;subst e;cases r1;obtain⟨its,rv,p,hz⟩:=I1.list hq;refine wpAny_pyIter_list p.isList ?_;refine⟨s1.heap.objs.size,[s1.heap.objs.size],_,_,H1,rfl,I1.kept (t':=s1.toks) λb o e=>zm _ e,QB a _,⟨_,zy _ rfl,rfl,rfl⟩,λb hb=>?_,q⟩
 have e:b=s1.heap.objs.size:=by simpa using hb
 subst e;exact I1.fpOk (zc _) (I1.hok.fresh (zc _))
theorem QH{l:Expr}{tl:TE}(hl:PE X l tl):PI X tg l (QG X.K tl):=by
 intro pins s σ H R I h
 refine thn (hl pins s σ H _ I h) λv s1 ⟨x,H1,I1,r1,q1⟩=>?_
 obtain⟨a,e,⟨xs,hq⟩,q⟩:=q1;subst e;cases r1;obtain⟨its,rv,p,hz⟩:=I1.tuple hq;refine wpAny_pyIter_tuple (show s1.heap.IsTuple a its.toArray from p) ?_;refine⟨s1.heap.objs.size,[s1.heap.objs.size],_,_,H1,rfl,I1.kept (t':=s1.toks) λb o e=>zm _ e,QC a _,⟨_,zy _ rfl,rfl,rfl⟩,λb hb=>?_,q⟩
 have e:b=s1.heap.objs.size:=by simpa using hb
 subst e;exact I1.fpOk (zc _) (I1.hok.fresh (zc _))
theorem FJ{pins:List (Addr×Obj)}{σ:St}{H:Hp}{s:Shared}{R:It->Hp->Prop}{E:Value->Shared->Prop}{lo hi:Int}{t u v:Tok}{tk:Nat}(I:Inv X pins σ H s)(h1:-(2 ^ 62)<=lo)(h2:lo<2 ^ 62)(h3:-(2 ^ 62)<=hi)(h4:hi<2 ^ 62)
  (q:R (Itr lo (hi - lo).toNat) H):wpAny (model X.prog X.w) X.A (pyIter (.ref s.heap.objs.size)) (PIE X pins σ tg R) E {s with heap:=s.heap.push {cls:=.type "range",data:=.fields #[.int lo t,.int hi u,.int 1 v]},toks:=tk}:=by
 refine wpAny_pyIter_range (IsRange.new ..) (small_one h1 h2 h3 h4) ?_
 have I1:Inv X pins σ H {s with heap:=s.heap.push {cls:=.type "range",data:=.fields #[.int lo t,.int hi u,.int 1 v]},toks:=tk}:=I.kept λb o e=>zm _ e
 refine⟨(s.heap.push {cls:=.type "range",data:=.fields #[.int lo t,.int hi u,.int 1 v]}).objs.size,[(s.heap.push {cls:=.type "range",data:=.fields #[.int lo t,.int hi u,.int 1 v]}).objs.size],_,_,H,rfl,
  I1.kept (t':=tk) λb o e=>zm _ e,QD _ lo (hi - lo).toNat,?_,λb hb=>?_,q⟩
 ·have e1:lo+((0:Nat):Int) * 1=lo:=by simp
  have e2:(((hi - lo).toNat:Nat):Int) - ((0:Nat):Int)=Builtin.Range.rangeSize lo hi 1:=by rw[rangeSize_one];split<;>omega
  show IsRangeIter _ _ (lo+((0:Nat):Int) * 1) ((((hi - lo).toNat:Nat):Int) - ((0:Nat):Int)) 1;rw[e1,e2];exact zy _ rfl
 ·have e:b=(s.heap.push {cls:=.type "range",data:=.fields #[.int lo t,.int hi u,.int 1 v]}).objs.size:=by simpa using hb
  subst e;exact I1.fpOk (zc _) (I1.hok.fresh (zc _))
def QJ(ta:TA):TI:=λσ H R=>ta σ H λvs H1=>∃j:Int,vs=[.int j]/\-(2 ^ 62)<=j/\j<2 ^ 62/\R (Itr 0 j.toNat) H1
def QK(ta:TA):TI:=λσ H R=>ta σ H λvs H1=>∃i j:Int,vs=[.int i,.int j]/\(-(2 ^ 62)<=i/\i<2 ^ 62/\-(2 ^ 62)<=j/\j<2 ^ 62)/\R (Itr i (j - i).toNat) H1
theorem QL{a:Expr}{ta:TA}{p pos:Pos}(hg:Gl X "range")(hm:X.mg "range" = none)(ha:PA X [a] ta)(hs:starEach [a] X.env=[(false,eval a X.env)]:=by rfl):PI X tg (.Call (.Name "range" p) [a] [] pos) (QJ ta):=by
 intro pins s σ H R I h;refine Call_ (jx I hg hm boot_range (PyProof.Rows.callWith_type1 (thn (ha pos pins s σ H _ I h) λus s1 ⟨vs,H1,I1,r1,q1⟩=>?_) hs rfl));obtain⟨j,e,q1,q2,q⟩:=q1;subst e
 cases r1 with
 |cons r rr =>
  cases rr;obtain⟨t,rfl⟩:=r;exact call_range_1 (FJ I1 (by omega) (by omega) q1 q2 (by simpa using q))
theorem QM{a b:Expr}{ta:TA}{p pos:Pos}(hg:Gl X "range")(hm:X.mg "range" = none)(ha:PA X [a,b] ta)(hs:starEach [a,b] X.env=[(false,eval a X.env),(false,eval b X.env)]:=by rfl)(hs2:starEach [b] X.env=[(false,eval b X.env)]:=by rfl):
  PI X tg (.Call (.Name "range" p) [a,b] [] pos) (QK ta):=by
 intro pins s σ H R I h;refine Call_ (jx I hg hm boot_range (PyProof.Rows.callWith_type1 (thn (ha pos pins s σ H _ I h) λus s1 ⟨vs,H1,I1,r1,q1⟩=>?_) (by rw[hs,hs2]) (by rw[hs2];rfl)));obtain⟨i,j,e,⟨q1,q2,q3,q4⟩,q⟩:=q1;subst e
 cases r1 with
 |cons r rr =>
  cases rr with
  |cons r' rr =>
   cases rr;obtain⟨t,rfl⟩:=r;obtain⟨t',rfl⟩:=r';exact call_range_2 (FJ I1 q1 q2 q3 q4 q)
def FN(wi:TI)(g:TG)(tb:TS):TS:=λD σ H=>wi σ H λJ H1=>∃W:Nat->Nat->St->Hp->Prop,(∃m,W 0 m σ H1)/\∀i m σ H,W i m σ H ->
 (J.stop i H/\D.nx σ H)\/(J.go i H/\∃N:St->Hp->Prop,(∀σ' H',N σ' H'->∃m',m'<m/\W (i+1) m' σ' H')/\∀x H',J.yld i H x H'->g x σ H' λσ2 H2=>tb {D with nx:=N,ct:=N,bk:=D.nx} σ2 H2)
def qj(fp:List Addr)(h:Heap):List (Addr×Obj):=fp.filterMap λb=>(h.get? b).map λo=>(b,o)
theorem tV{fp:List Addr}{h:Heap}{b:Addr}{o:Obj}(hb:b∈fp)(e:h.get? b=some o):(b,o)∈qj fp h:=List.mem_filterMap.mpr ⟨b,hb,by rw[e];rfl⟩
theorem QQ{fp:List Addr}{h:Heap}{p:Addr×Obj}(hp:p∈qj fp h):p.1∈fp/\h.get? p.1=some p.2:=by
 obtain⟨b,hb,e⟩:=List.mem_filterMap.mp hp
 cases q:h.get? b with
 |none=>rw[q] at e;cases e
 |some o =>
  rw[q] at e;have e':(b,o)=p:=zt e;subst e';exact⟨hb,q⟩
theorem Inv.pinned{pins:List (Addr×Obj)}{σ:St}{H:Hp}{s:Shared}{fp:List Addr}(I:Inv X pins σ H s)(hf:∀b∈fp,gM X pins H b)(ho:∀b∈fp,∃o,s.heap.get? b=some o/\∀v,o.data≠.cell v):Inv X (pins++qj fp s.heap) σ H s :=
 I.pins_of λp hp=>(zE.mp hp).elim (λz=>I.pin p (zO _ z)) λz=>by
  obtain⟨hb,e⟩:=QQ z;obtain⟨f0,f1,f2,_⟩:=hf p.1 hb;obtain⟨o,e',d⟩:=ho p.1 hb;rw[e] at e';cases e';exact⟨e,f0,f1,f2,d⟩
theorem Inv.unpinned{pins pl:List (Addr×Obj)}{σ:St}{H:Hp}{s:Shared}(I:Inv X (pins++pl) σ H s):Inv X pins σ H s:=I.pins_of λp hp=>I.pin p (zO _ (List.mem_append_left _ hp))
theorem QR{iter:Expr}{body:List Stmt}{wi:TI}{g:TG}{tb:TS}{pos:Pos}(hp:PassesOwn (model X.prog X.w) X.A X.env X.xe)(hc:X.calm=true)(hi:PI X tg iter wi)(hg:PG X tg g)(hb:PSs X body tb)
  (hs:∀x,foldedSetIterable iter X.env x=pure x:=by intro _;rfl):PS X (.For tg iter body [] pos) (FN wi g tb):=by
 intro pins s σ H D I h;refine wpAny_For (thn (hi pins s σ H _ I h) λv s1 h1=>thn h1 λitv s2 h2=>?_) hs;obtain⟨it,fp,tn,J,H2,e,I2,T,st2,f2,W,⟨m0,w0⟩,turn⟩:=h2;subst e
 have stat:∀{H':Hp},(∀b∈fp,H' b=none)->∀b∈fp,gM X pins H' b:=λhn b hb=>⟨hn b hb,(f2 b hb).2⟩
 refine codeAny_forLoop_any (λn s'=>∃i σ' H',Inv X pins σ' H' s'/\tn i s'.heap/\(∀b∈fp,H' b=none)/\W i n σ' H') ?_ m0 ⟨0,σ,H2,I2,st2,λb hb=>(f2 b hb).1,w0⟩;rintro n s3 ⟨i,σ3,H3,I3,st3,fr3,w3⟩
 rcases turn i n σ3 H3 w3 with⟨stop,qn⟩ | ⟨go,N,hN,step⟩
 ·refine wpAny_passesOwn hp (thn (T.done X rfl rfl rfl hc i pins s3 σ3 H3 X.xe I3 (stat fr3) st3 stop) λr s4 ⟨hr,I4⟩=>?_);subst hr;exact wpAny_execs_nil ⟨σ3,H3,I4,qn⟩
 ·refine wpAny_passesOwn hp (thn (T.item X rfl rfl rfl hc i pins s3 σ3 H3 X.xe I3 (stat fr3) st3 go) λr s4 ⟨u,hr,h4⟩=>?_);subst hr;refine wpAny_passesOwn hp (thn h4 λ_ s5 ⟨x,H5,I5,r5,y5,st5,fr5⟩=>?_);have I5':=I5.pinned (stat fr5) (T.obj _ _ st5);refine wpAny_passesOwn hp (thn (hg _ s5 σ3 H5 x u _ I5' r5 (step x H5 y5)) λ_ s6 ⟨σ6,H6,I6,q6⟩=>?_);refine wpAny_passesOwn hp (thn (hb _ s6 σ6 H6 _ I6 q6) λf s7 q7=>?_)
  have again:∀{σ7:St}{H7:Hp},Inv X (pins++qj fp s5.heap) σ7 H7 s7->N σ7 H7->∃m,m<n/\∃i σ' H',Inv X pins σ' H' s7/\tn i s7.heap/\(∀b∈fp,H' b=none)/\W i m σ' H':=λ{σ7 H7} I7 n7=>by
   obtain⟨m',hm,w7⟩:=hN σ7 H7 n7;refine⟨m',hm,i+1,σ7,H7,I7.unpinned,T.keep _ _ _ st5 λb hb o e=>(I7.pin (b,o) (zO _ (zO _ (tV hb e)))).1,λb hb=>?_,w7⟩;obtain⟨o,e,d⟩:=T.obj _ _ st5 b hb;exact(I7.pin (b,o) (zO _ (zO _ (tV hb e)))).2.1
  cases f with
  |next=>obtain⟨σ7,H7,I7,n7⟩:=q7;exact again I7 n7
  |cont=>obtain⟨σ7,H7,I7,n7⟩:=q7;exact again I7 n7
  |brk=>obtain⟨σ7,H7,I7,q7⟩:=q7;exact⟨σ7,H7,I7.unpinned,q7⟩
  |ret v=>obtain⟨x7,σ7,H7,I7,r7,q7⟩:=q7;exact⟨x7,σ7,H7,I7.unpinned,r7,q7⟩
end
abbrev R2:=V->V->Hp->VK->Prop
def OpR(X:Cx)(f:Value->Value->Sem Value)(r:R2):Prop :=
 ∀(pins:List (Addr×Obj)) (s:Shared) (σ:St) (H:Hp) (x y:V) (v u:Value) (Q:VK),Inv X pins σ H s->RelV x v->RelV y u->r x y H Q ->
  wpAny (model X.prog X.w) X.A (f v u) (EP X pins σ Q) X.xe s
def UnR(X:Cx)(f:Value->Sem Value)(r:V->Hp->VK->Prop):Prop :=
 ∀(pins:List (Addr×Obj)) (s:Shared) (σ:St) (H:Hp) (x:V) (v:Value) (Q:VK),Inv X pins σ H s->RelV x v->r x H Q ->
  wpAny (model X.prog X.w) X.A (f v) (EP X pins σ Q) X.xe s
def iG(X:Cx)(f:Value)(r:List V->Hp->VK->Prop):Prop :=
 ∀(pins:List (Addr×Obj)) (s:Shared) (σ:St) (H:Hp) (xs:List V) (us:List Value) (Q:VK),Inv X pins σ H s->aN xs us->r xs H Q ->
  wpAny (model X.prog X.w) X.A (call f us) (EP X pins σ Q) X.xe s
def QS(X:Cx)(r:V->Hp->(Bool->Hp->Prop)->Prop):Prop :=
 ∀(pins:List (Addr×Obj)) (s:Shared) (σ:St) (H:Hp) (x:V) (v:Value) (Q:Bool->Hp->Prop),Inv X pins σ H s->RelV x v->r x H Q ->
  wpAny (model X.prog X.w) X.A (truthy v) (TP X pins σ Q) X.xe s
def tOp(r:R2)(ta tb:TE):TE:=λσ H Q=>ta σ H λx H1=>tb σ H1 λy H2=>r x y H2 Q
def tUn(r:V->Hp->VK->Prop)(ta:TE):TE:=λσ H Q=>ta σ H λx H1=>r x H1 Q
def rI(C:Int->Int->Prop)(g:Int->Int->V):R2:=λx y H Q=>∃i j,x=.int i/\y=.int j/\C i j/\Q (g i j) H
def rI0(g:Int->Int->V):R2:=λx y H Q=>∃i j,x=.int i/\y=.int j/\Q (g i j) H
def rU(g:Int->V):V->Hp->VK->Prop:=λx H Q=>∃i,x=.int i/\Q (g i) H
section
variable {X:Cx}{a b c:Expr}{ta tb tc:TE}{pos:Pos}
theorem wO(ha:PE X a ta)(hb:PE X b tb){pins:List (Addr×Obj)}{s:Shared}{σ:St}{H:Hp}{R:V->V->Hp->Prop}(I:Inv X pins σ H s)
  (h:ta σ H λx H1=>tb σ H1 λy H2=>R x y H2) {Q:Value->Shared->Prop}{f:Value->Value->Sem Value}
  (hf:∀v u s2 x y H2,Inv X pins σ H2 s2->RelV x v->RelV y u->R x y H2->wpAny (model X.prog X.w) X.A (f v u) Q X.xe s2):
  wpAny (model X.prog X.w) X.A (eval a X.env) (λv s₁=>wpAny (model X.prog X.w) X.A (eval b X.env) (λu s₂=>wpAny (model X.prog X.w) X.A (f v u) Q X.xe s₂) X.xe s₁) X.xe s:=by
 refine thn (ha pins s σ H _ I h) λv s1 ⟨x,H1,I1,r1,q1⟩=>?_
 refine thn (hb pins s1 σ H1 _ I1 q1) λu s2 ⟨y,H2,I2,r2,q2⟩=>?_
 exact hf v u s2 x y H2 I2 r1 r2 q2
theorem QT{op:Operator}{r:R2}(ho:OpR X (binaryOp op) r)(ha:PE X a ta)(hb:PE X b tb):PE X (.BinOp a op b pos) (tOp r ta tb):=by
 intro pins s σ H Q I h;exact wpAny_BinOp (wO ha hb I h λv u s2 x y H2 I2 rx ry q=>ho pins s2 σ H2 x y v u Q I2 rx ry q)
theorem QV{op:UnaryOp}{r:V->Hp->VK->Prop}(ho:UnR X (unaryOp op) r)(ha:PE X a ta):PE X (.UnaryOp op a pos) (tUn r ta):=by
 intro pins s σ H Q I h;exact UnaryOp_ (thn (ha pins s σ H _ I h) λv s1 ⟨x,H1,I1,r1,q1⟩=>ho pins s1 σ H1 x v Q I1 r1 q1)
theorem opI{f:Value->Value->Sem Value}{C:Int->Int->Prop}{g:Int->Int->Int}
  (rule:∀(i j:Int) (t u:Tok) (s:Shared) (Q:Value->Shared->Prop) (E:Value->Shared->Prop),C i j->Q (.int (g i j) s.toks) {s with toks:=s.toks+1}->wpAny (model X.prog X.w) X.A (f (.int i t) (.int j u)) Q E s):
  OpR X f (rI C λi j=>.int (g i j)):=by
 intro pins s σ H x y v u Q I rx ry h;obtain⟨i,j,rfl,rfl,hc,q⟩:=h;obtain⟨t,rfl⟩:=rx;obtain⟨t',rfl⟩:=ry;exact rule i j t t' s _ _ hc ⟨.int (g i j),H,I.tok _,⟨_,rfl⟩,q⟩
theorem FP{f:Value->Value->Sem Value}{g:Int->Int->Int}
  (rule:∀(i j:Int) (t u:Tok) (s:Shared) (Q:Value->Shared->Prop) (E:Value->Shared->Prop),Q (.int (g i j) s.toks) {s with toks:=s.toks+1}->wpAny (model X.prog X.w) X.A (f (.int i t) (.int j u)) Q E s):
  OpR X f (rI0 λi j=>.int (g i j)):=by
 intro pins s σ H x y v u Q I rx ry h;obtain⟨i,j,rfl,rfl,q⟩:=h;obtain⟨t,rfl⟩:=rx;obtain⟨t',rfl⟩:=ry;exact rule i j t t' s _ _ ⟨.int (g i j),H,I.tok _,⟨_,rfl⟩,q⟩
theorem wQ{f:Value->Value->Sem Value}{g:Int->Int->Bool}
  (rule:∀(i j:Int) (t u:Tok) (s:Shared) (Q:Value->Shared->Prop) (E:Value->Shared->Prop),Q (.bool (g i j)) s->wpAny (model X.prog X.w) X.A (f (.int i t) (.int j u)) Q E s):
  OpR X f (rI0 λi j=>.bl (g i j)):=by
 intro pins s σ H x y v u Q I rx ry h;obtain⟨i,j,rfl,rfl,q⟩:=h;obtain⟨t,rfl⟩:=rx;obtain⟨t',rfl⟩:=ry;exact rule i j t t' s _ _ ⟨.bl (g i j),H,I,rfl,q⟩
def QW(i j:Int):Prop:=0<j/\j<1073741824
def QX(i j:Int):Prop:=0<=j/\j<=1000000/\i.natAbs<2 ^ 64
def wR(i j:Int):Prop:=(-(2 ^ 64)<i/\i<2 ^ 64)\/(-(2 ^ 64)<j/\j<2 ^ 64)
theorem wR.ok{i j:Int}(h:wR i j):IntMulOk i j:=by
 rcases h with⟨h1,h2⟩ | ⟨h1,h2⟩
 ·exact .of_left (intBits_le_64 h1 h2)
 ·exact .of_right (intBits_le_64 h1 h2)
theorem QZ:OpR X (binaryOp .Add) (rI0 λi j=>.int (i+j)):=FP λ_ _ _ _ _ _ _ q=>add_int q
theorem Q0:OpR X (binaryOp .Sub) (rI0 λi j=>.int (i - j)):=FP λ_ _ _ _ _ _ _ q=>sub_int q
theorem Q3:OpR X (binaryOp .Mult) (rI wR λi j=>.int (i * j)):=opI λ_ _ _ _ _ _ _ hc q=>mul_int q hc.ok
theorem Q4:OpR X (binaryOp .FloorDiv) (rI QW λi j=>.int (i / j)):=opI λi j _ _ _ _ _ hc q=>by
 have h1:(0:Int)<j:=hc.1;have h2:j<1073741824:=hc.2;exact floordiv_int (by omega) (by rw[Int.fdiv_eq_ediv_of_nonneg i (by omega)];exact q) (.inl (PyProof.noPylong_small (by omega)))
theorem Q5:OpR X (binaryOp .Mod) (rI (λ_ j=>0<j) λi j=>.int (i % j)):=opI λi j _ _ _ _ _ hc q=>by
 have h1:(0:Int)<j:=hc;exact mod_int' (by omega) (by rw[Int.fmod_eq_emod_of_nonneg i (by omega)];exact q)
theorem Q6:OpR X (binaryOp .Pow) (rI QX λi j=>.int (i ^ j.toNat)):=opI λ_ _ _ _ _ _ _ hc q=>pow_int_small hc.1 hc.2.1 hc.2.2 q
theorem unI{f:Value->Sem Value}{g:Int->Int}
  (rule:∀(i:Int) (t:Tok) (s:Shared) (Q:Value->Shared->Prop) (E:Value->Shared->Prop),Q (.int (g i) s.toks) {s with toks:=s.toks+1}->wpAny (model X.prog X.w) X.A (f (.int i t)) Q E s):
  UnR X f (rU λi=>.int (g i)):=by
 intro pins s σ H x v Q I rx h;obtain⟨i,rfl,q⟩:=h;obtain⟨t,rfl⟩:=rx;exact rule i t s _ _ ⟨.int (g i),H,I.tok _,⟨_,rfl⟩,q⟩
theorem Q7:UnR X (unaryOp .USub) (rU λi=>.int (-i)):=unI λ_ _ _ _ _ q=>neg_int q
theorem Q8:OpR X (binaryOp .Add) (λx y H Q=>∃i k,x=.int i/\y=.bl k/\Q (.int (i+b2i k)) H):=by
 intro pins s σ H x y v u Q I rx ry h;obtain⟨i,k,rfl,rfl,q⟩:=h;obtain⟨t,rfl⟩:=rx;cases ry;exact add_int_bool ⟨.int (i+b2i k),H,I.tok _,⟨_,rfl⟩,q⟩
end
def FQ:V->V->Bool
 | .non,.non=>true | .non,.int _=>true | .int _,.non=>true | .non,.bl _=>true | .bl _,.non=>true | .non,.str _=>true | .str _,.non=>true
 | .int _,.int _=>true | .bl _,.bl _=>true | .str _,.str _=>true | .byt _,.byt _=>true
 | .int _,.str _=>true | .str _,.int _=>true | .bl _,.str _=>true | .str _,.bl _=>true
 | _,_=>false
def rEq:R2:=λx y H Q=>FQ x y=true/\Q (.bl (decide (x=y))) H
def rNe:R2:=λx y H Q=>FQ x y=true/\Q (.bl (!decide (x=y))) H
theorem FT{i j:Int}:decide (V.int i=V.int j)=(i == j):=by
 rw[Bool.eq_iff_iff];simp
theorem FW{i j:Bool}:decide (V.bl i=V.bl j)=(i == j):=by
 rw[Bool.eq_iff_iff];simp
theorem FZ{i j:Str}:decide (V.str i=V.str j)=(i == j):=by
 rw[Bool.eq_iff_iff];simp
theorem Ga{i j:Array UInt8}:decide (V.byt i=V.byt j)=(i.toList == j.toList):=by
 rw[Bool.eq_iff_iff];cases i;cases j;simp
section
variable {X:Cx}{a b c:Expr}{ta tb tc:TE}{pos:Pos}
theorem cL{pins:List (Addr×Obj)}{σ:St}{H:Hp}{s:Shared}{Q:VK}{k k':Bool}(I:Inv X pins σ H s)(q:Q (.bl k) H)(e:k=k'):EP X pins σ Q (.bool k') s:=by
 subst e;exact⟨.bl k,H,I,rfl,q⟩
theorem wU:OpR X (compareOp .Eq) rEq:=by
 intro pins s σ H x y v u Q I rx ry h;obtain⟨hs,q⟩:=h
 cases x with
 |non =>
  cases rx
  cases y with
  |non=>cases ry;exact PySem.EqNone.eq_none_none (cL I q (by simp))
  |bl j=>cases ry;exact PySem.EqNone.eq_none_bool (cL I q (by simp))
  |int j=>obtain⟨t',rfl⟩:=ry;exact PySem.EqNone.eq_none_int (cL I q (by simp))
  |str j=>obtain⟨t',rfl⟩:=ry;exact PySem.EqNone.eq_none_str (cL I q (by simp))
  | _=>exact absurd (show false=true from hs) zh
 |bl i =>
  cases rx
  cases y with
  |non=>cases ry;exact PySem.EqNone.eq_bool_none (cL I q (by simp))
  |bl j=>cases ry;exact eq_bool (cL I q FW)
  |str j=>obtain⟨t',rfl⟩:=ry;exact PySem.EqMixed.eq_bool_str (cL I q (by simp))
  | _=>exact absurd (show false=true from hs) zh
 |int i =>
  obtain⟨t,rfl⟩:=rx
  cases y with
  |non=>cases ry;exact PySem.EqNone.eq_int_none (cL I q (by simp))
  |int j=>obtain⟨t',rfl⟩:=ry;exact eq_int (cL I q FT)
  |str j=>obtain⟨t',rfl⟩:=ry;exact PySem.EqMixed.eq_int_str (cL I q (by simp))
  | _=>exact absurd (show false=true from hs) zh
 |str i =>
  obtain⟨t,rfl⟩:=rx
  cases y with
  |non=>cases ry;exact PySem.EqNone.eq_str_none (cL I q (by simp))
  |bl j=>cases ry;exact PySem.EqMixed.eq_str_bool (cL I q (by simp))
  |int j=>obtain⟨t',rfl⟩:=ry;exact PySem.EqMixed.eq_str_int (cL I q (by simp))
  |str j=>obtain⟨t',rfl⟩:=ry;exact eq_str (cL I q FZ)
  | _=>exact absurd (show false=true from hs) zh
 |byt i =>
  obtain⟨t,rfl⟩:=rx
  cases y with
  |byt j=>obtain⟨t',rfl⟩:=ry;exact PySem.W.eq_bytes (cL I q Ga)
  | _=>exact absurd (show false=true from hs) zh
 | _=>cases y<;>exact absurd (show false=true from hs) zh
theorem wV:OpR X (compareOp .NotEq) rNe:=by
 intro pins s σ H x y v u Q I rx ry h;obtain⟨hs,q⟩:=h
 cases x with
 |non =>
  cases rx
  cases y with
  |non=>cases ry;exact PySem.EqNone.ne_none_none (cL I q (by simp))
  |bl j=>cases ry;exact PySem.EqNone.ne_none_bool (cL I q (by simp))
  |int j=>obtain⟨t',rfl⟩:=ry;exact PySem.EqNone.ne_none_int (cL I q (by simp))
  |str j=>obtain⟨t',rfl⟩:=ry;exact PySem.EqNone.ne_none_str (cL I q (by simp))
  | _=>exact absurd (show false=true from hs) zh
 |bl i =>
  cases rx
  cases y with
  |non=>cases ry;exact PySem.EqNone.ne_bool_none (cL I q (by simp))
  |bl j=>cases ry;exact ne_bool (cL I q (congrArg not FW))
  |str j=>obtain⟨t',rfl⟩:=ry;exact PySem.EqMixed.ne_bool_str (cL I q (by simp))
  | _=>exact absurd (show false=true from hs) zh
 |int i =>
  obtain⟨t,rfl⟩:=rx
  cases y with
  |non=>cases ry;exact PySem.EqNone.ne_int_none (cL I q (by simp))
  |int j=>obtain⟨t',rfl⟩:=ry;exact ne_int (cL I q (congrArg not FT))
  |str j=>obtain⟨t',rfl⟩:=ry;exact PySem.EqMixed.ne_int_str (cL I q (by simp))
  | _=>exact absurd (show false=true from hs) zh
 |str i =>
  obtain⟨t,rfl⟩:=rx
  cases y with
  |non=>cases ry;exact PySem.EqNone.ne_str_none (cL I q (by simp))
  |bl j=>cases ry;exact PySem.EqMixed.ne_str_bool (cL I q (by simp))
  |int j=>obtain⟨t',rfl⟩:=ry;exact PySem.EqMixed.ne_str_int (cL I q (by simp))
  |str j=>obtain⟨t',rfl⟩:=ry;exact ne_str (cL I q (congrArg not FZ))
  | _=>exact absurd (show false=true from hs) zh
 |byt i =>
  obtain⟨t,rfl⟩:=rx
  cases y with
  |byt j=>obtain⟨t',rfl⟩:=ry;exact PySem.W.ne_bytes (cL I q (congrArg not Ga))
  | _=>exact absurd (show false=true from hs) zh
 | _=>cases y<;>exact absurd (show false=true from hs) zh
theorem Q9:OpR X (compareOp .Lt) (rI0 λi j=>.bl (decide (i<j))):=wQ λ_ _ _ _ _ _ _ q=>lt_int q
theorem Ra:OpR X (compareOp .LtE) (rI0 λi j=>.bl (decide (i<=j))):=wQ λ_ _ _ _ _ _ _ q=>le_int q
theorem Rb:OpR X (compareOp .Gt) (rI0 λi j=>.bl (decide (j<i))):=wQ λ_ _ _ _ _ _ _ q=>gt_int q
theorem Rc:OpR X (compareOp .In) (λx y H Q=>∃i j,x=.str i/\y=.str j/\Q (.bl (!(Builtin.Str.occurrences j i 0 j.length 1).isEmpty)) H):=by
 intro pins s σ H x y v u Q I rx ry h;obtain⟨i,j,rfl,rfl,q⟩:=h;obtain⟨t,rfl⟩:=rx;obtain⟨t',rfl⟩:=ry;exact in_str (cL I q rfl)
theorem bG(b:Expr){op:CmpOp}(h:op≠.In:=by decide)(h2:op≠.NotIn:=by decide):behindInMarks op b=false:=by
 have e1:(op == CmpOp.In)=false:=by cases op<;>first | rfl | exact absurd rfl h
 have e2:(op == CmpOp.NotIn)=false:=by cases op<;>first | rfl | exact absurd rfl h2
 cases b<;>simp[behindInMarks,e1,e2]
theorem Rf{op:CmpOp}{r:R2}(ho:OpR X (compareOp op) r)(ha:PE X a ta)(hb:PE X b tb)(hm:behindInMarks op b=false):PE X (.Compare a [op] [b] pos) (tOp r ta tb):=by
 intro pins s σ H Q I h;exact wpAny_Compare1 (wO ha hb I h λv u s2 x y H2 I2 rx ry q=>ho pins s2 σ H2 x y v u Q I2 rx ry q) hm
def tW(t:TE):TT:=λσ H Q=>t σ H λx H'=>∃k,x=.bl k/\Q k H'
theorem Rg{op:CmpOp}{r:R2}(ho:OpR X (compareOp op) r)(ha:PE X a ta)(hb:PE X b tb)(hm:behindInMarks op b=false):PT X (.Compare a [op] [b] pos) (tW (tOp r ta tb)):=by
 intro pins s σ H Q I h
 refine wpAny_isTrue_Compare1 (thn (ha pins s σ H _ I h) λv s1 ⟨x,H1,I1,r1,q1⟩=>thn (hb pins s1 σ H1 _ I1 q1) λu s2 ⟨y,H2,I2,r2,q2⟩ =>
  thn (ho pins s2 σ H2 x y v u _ I2 r1 r2 q2) λc s3 ⟨z,H3,I3,r3,k,e,q3⟩=>?_) hm
 subst e;cases r3;exact wpAny_truthy_bool ⟨H3,I3,q3⟩
def wW(r r':R2)(ta tb tc:TE):TE:=λσ H Q=>ta σ H λx H1=>tb σ H1 λy H2=>r x y H2 λz H3=>∃k,z=.bl k /\
 (if k=true then tc σ H3 λw' H4=>r' y w' H4 Q else Q (.bl false) H3)
theorem Rh{op op':CmpOp}{r r':R2}(ho:OpR X (compareOp op) r)(ho':OpR X (compareOp op') r')(ha:PE X a ta)(hb:PE X b tb)(hc:PE X c tc)
  (hm:lastMarks [op,op'] [b,c]=false:=by with_unfolding_all rfl):PE X (.Compare a [op,op'] [b,c] pos) (wW r r' ta tb tc):=by
 intro pins s σ H Q I h
 refine Compare_chain (thn (ha pins s σ H _ I h) λv s1 ⟨x,H1,I1,r1,q1⟩=>chain_link (thn (hb pins s1 σ H1 _ I1 q1) λu s2 ⟨y,H2,I2,r2,q2⟩ =>
  thn (ho pins s2 σ H2 x y v u _ I2 r1 r2 q2) λd s3 ⟨z,H3,I3,r3,k,e,q3⟩=>?_)) hm
 subst e;cases r3;refine wpAny_truthy_bool ?_
 cases k with
 |false=>exact ite_ff ⟨.bl false,H3,I3,rfl,q3⟩
 |true=>exact ite_tt (chain_last (thn (hc pins s3 σ H3 _ I3 q3) λw' s4 ⟨z',H4,I4,r4,q4⟩=>ho' pins s4 σ H4 y z' u w' Q I4 r2 r4 q4))
theorem Ri{op op':CmpOp}{r r':R2}(ho:OpR X (compareOp op) r)(ho':OpR X (compareOp op') r')(ha:PE X a ta)(hb:PE X b tb)(hc:PE X c tc)
  (hm:lastMarks [op,op'] [b,c]=false:=by with_unfolding_all rfl):PT X (.Compare a [op,op'] [b,c] pos) (tW (wW r r' ta tb tc)):=by
 intro pins s σ H Q I h
 refine isTrue_chain (thn (ha pins s σ H _ I h) λv s1 ⟨x,H1,I1,r1,q1⟩=>test_link (thn (hb pins s1 σ H1 _ I1 q1) λu s2 ⟨y,H2,I2,r2,q2⟩ =>
  thn (ho pins s2 σ H2 x y v u _ I2 r1 r2 q2) λd s3 ⟨z,H3,I3,r3,k,e,q3⟩=>?_)) hm
 subst e;cases r3;refine wpAny_truthy_bool ?_
 cases k with
 |false =>
  obtain⟨k',e',q'⟩:=q3;cases e';exact ite_ff ⟨H3,I3,q'⟩
 |true =>
  refine ite_tt (test_last (thn (hc pins s3 σ H3 _ I3 q3) λw' s4 ⟨z',H4,I4,r4,q4⟩=>thn (ho' pins s4 σ H4 y z' u w' _ I4 r2 r4 q4) λd' s5 ⟨z2,H5,I5,r5,k2,e2,q5⟩=>?_));subst e2;cases r5;exact wpAny_truthy_bool ⟨H5,I5,q5⟩
def wX(K:PySem.W.Frag)(x:V)(H:Hp)(k:Bool):Prop :=
 match x with
 | .non=>k=false
 | .bl b=>k=b
 | .int i=>k=(i != 0)
 | .str y=>y.length<=sizeLine/\k=((y.length:Int) != 0)
 | .byt y=>y.size<=sizeLine/\k=((y.size:Int) != 0)
 | .ref p=>(∃xs,SqL K H p xs/\k = !xs.isEmpty)\/(∃xs,SqT K H p xs/\k = !xs.isEmpty)\/∃kvs,H p=some (.dK kvs)/\k = !kvs.isEmpty
 | _=>False
theorem Rj{κ:Type}{kvs:List (κ×V)}{vs:List (κ×Value)}(r:KV kvs vs):(!vs.isEmpty) = !kvs.isEmpty:=by
 cases r<;>rfl
theorem Ge{xs:List V}{its:List Value}(r:aN xs its):(!its.toArray.isEmpty) = !xs.isEmpty:=by
 cases r<;>simp
theorem qm:(sizeLine:Nat)<2 ^ 63:=by rw[sizeLine_eq];decide
theorem Rk:QS X (λx H Q=>∃k,wX X.K x H k/\Q k H):=by
 intro pins s σ H x v Q I rx h;obtain⟨k,e,q⟩:=h;have hl:=qm;have hs:sizeLine=16777216:=sizeLine_eq
 cases x with
 |non =>
  cases rx;have e':k=false:=e;subst e';exact truthy_none ⟨H,I,q⟩
 |bl b =>
  cases rx;have e':k=b:=e;subst e';exact wpAny_truthy_bool ⟨H,I,q⟩
 |int i =>
  obtain⟨t,rfl⟩:=rx;have e':k=(i != 0):=e;subst e';exact PySem.P.truthy_int ⟨H,I,q⟩
 |str y =>
  obtain⟨t,rfl⟩:=rx;obtain⟨hy,e'⟩:y.length<=sizeLine/\k=((y.length:Int) != 0):=e;subst e';exact PySem.P.truthy_str (by omega) ⟨H,I.tok _,q⟩
 |byt y =>
  obtain⟨t,rfl⟩:=rx;obtain⟨hy,e'⟩:y.size<=sizeLine/\k=((y.size:Int) != 0):=e;subst e';exact PySem.W.truthy_bytes (by omega) ⟨H,I.tok _,q⟩
 |ref p =>
  cases rx;have e':(∃xs,SqL X.K H p xs/\k = !xs.isEmpty)\/(∃xs,SqT X.K H p xs/\k = !xs.isEmpty)\/∃kvs,H p=some (.dK kvs)/\k = !kvs.isEmpty:=e
  rcases e' with⟨xs,hx,e'⟩ | ⟨xs,hx,e'⟩ | ⟨kvs,hx,e'⟩
  ·subst e';obtain⟨its,r,pl,hz⟩:=I.list hx;have hlen:=r.length;exact wpAny_truthy_list pl.isList (by simp only[zq];omega) ⟨H,I.tok _,by rw[Ge r];exact q⟩
  ·subst e';obtain⟨its,r,pl,hz⟩:=I.tuple hx;have hlen:=r.length;exact truthy_tuple pl (by simp only[zq];omega) ⟨H,I.tok _,by rw[Ge r];exact q⟩
  ·subst e';obtain⟨hz,hS,vs,r,m⟩:kvs.length<=sizeLine/\(p == sysModules)=false/\∃vs,KV kvs vs/\s.heap.DictOf (d8 X.prog X.w) p vs:=I.hok p _ hx;have hlen:kvs.length=vs.length:=Paired.length r;exact wpAny_truthy_dict hS m (by omega) ⟨H,I.tok _,by rw[Rj r];exact q⟩
 | _=>exact(show False from e).elim
theorem Rm(ha:PE X a ta)(he:∀whole,isTrue a X.env whole=(do let v <-whole;standAt a.pos;holding [v] (truthy v))):
  PT X a (λσ H Q=>ta σ H λx H'=>∃k,wX X.K x H' k/\Q k H'):=by
 intro pins s σ H Q I h;exact isTrue_plain (thn (ha pins s σ H _ I h) λv s1 ⟨x,H1,I1,r1,q1⟩=>Rk pins s1 σ H1 x v Q I1 r1 q1) (he _)
theorem Rn:OpR X (binaryOp .Add) (λx y H Q=>∃i j,x=.str i/\y=.str j/\i.length+j.length<=sizeLine/\Q (.str (i++j)) H):=by
 intro pins s σ H x y v u Q I rx ry h;obtain⟨i,j,rfl,rfl,hz,q⟩:=h;obtain⟨t,rfl⟩:=rx;obtain⟨t',rfl⟩:=ry;exact add_str (λt' tk=>⟨.str (i++j),H,I.tok _,⟨_,rfl⟩,q⟩) hz
theorem vals1{x:V}{us:List Value}(r:aN [x] us):∃u,us=[u]/\RelV x u:=by
 cases r with
 |cons r1 r2=>cases r2;exact⟨_,rfl,r1⟩
theorem vals2{x y:V}{us:List Value}(r:aN [x,y] us):∃u w',us=[u,w']/\RelV x u/\RelV y w':=by
 cases r with
 |cons r1 r2 =>
  cases r2 with
  |cons r3 r4=>cases r4;exact⟨_,_,rfl,r1,r3⟩
theorem Ro(hc:X.calm=true):iG X (.builtin "max") (λxs H Q=>∃i j,xs=[.int i,.int j]/\Q (.int (if j>i then j else i)) H):=by
 intro pins s σ H xs us Q I r h;obtain⟨i,j,rfl,q⟩:=h;obtain⟨u,w',rfl,⟨t,rfl⟩,⟨t',rfl⟩⟩:=vals2 r
 refine max_two_ints (I.ok.hd hc) λh' tk k=>⟨_,H,I.kept k,?_,q⟩
 by_cases hj:j>i
 ·rw[if_pos hj,if_pos hj];exact⟨_,rfl⟩
 ·rw[if_neg hj,if_neg hj];exact⟨_,rfl⟩
theorem Rq(hc:X.calm=true):iG X (.builtin "min") (λxs H Q=>∃i j,xs=[.int i,.int j]/\Q (.int (if j<i then j else i)) H):=by
 intro pins s σ H xs us Q I r h;obtain⟨i,j,rfl,q⟩:=h;obtain⟨u,w',rfl,⟨t,rfl⟩,⟨t',rfl⟩⟩:=vals2 r
 refine min_two_ints (I.ok.hd hc) λh' tk k=>⟨_,H,I.kept k,?_,q⟩
 by_cases hj:j<i
 ·rw[if_pos hj,if_pos hj];exact⟨_,rfl⟩
 ·rw[if_neg hj,if_neg hj];exact⟨_,rfl⟩
theorem Gf:iG X (.type "int") (λxs H Q=>(∃i,xs=[.int i]/\Q (.int i) H)\/∃k,xs=[.bl k]/\Q (.int (if k then 1 else 0)) H):=by
 intro pins s σ H xs us Q I r h
 rcases h with⟨i,rfl,q⟩ | ⟨k,rfl,q⟩
 ·obtain⟨u,rfl,t,rfl⟩:=vals1 r;exact call_int_int ⟨.int i,H,I,⟨_,rfl⟩,q⟩
 ·obtain⟨u,rfl,r1⟩:=vals1 r;cases r1;exact call_int_bool ⟨.int (if k then 1 else 0),H,I.tok _,⟨_,rfl⟩,q⟩
theorem Rr:iG X (.type "str") (λxs H Q=>∃i,xs=[.int i]/\i.natAbs.log2<1920/\Q (.str (toString i)) H):=by
 intro pins s σ H xs us Q I r h;obtain⟨i,rfl,hz,q⟩:=h;obtain⟨u,rfl,t,rfl⟩:=vals1 r;exact PySem.P.str_of_int hz ⟨.str _,H,I.tok _,⟨_,rfl⟩,q⟩
def Rt(K:PySem.W.Frag)(x:V)(H:Hp)(n:Nat):Prop :=
 match x with
 | .str y=>y.length<=sizeLine/\n=y.length
 | .byt y=>y.size<=sizeLine/\n=y.size
 | .ref p=>(∃xs,SqL K H p xs/\n=xs.length)\/∃xs,SqT K H p xs/\n=xs.length
 | _=>False
theorem call_len:iG X (.builtin "len") (λxs H Q=>∃x n,xs=[x]/\Rt X.K x H n/\Q (.int n) H):=by
 intro pins s σ H xs us Q I r h;obtain⟨x,n,rfl,e,q⟩:=h;obtain⟨u,rfl,rx⟩:=vals1 r;have hl:=qm;have hs:sizeLine=16777216:=sizeLine_eq
 cases x with
 |str y =>
  obtain⟨t,rfl⟩:=rx;obtain⟨hy,e'⟩:y.length<=sizeLine/\n=y.length:=e;subst e';exact len_str (by omega) ⟨.int _,H,I.tok _,⟨_,rfl⟩,q⟩
 |byt y =>
  obtain⟨t,rfl⟩:=rx;obtain⟨hy,e'⟩:y.size<=sizeLine/\n=y.size:=e;subst e';exact PySem.W.len_bytes (by omega) ⟨.int _,H,I.tok _,⟨_,rfl⟩,q⟩
 |ref p =>
  cases rx;have e':(∃xs,SqL X.K H p xs/\n=xs.length)\/∃xs,SqT X.K H p xs/\n=xs.length:=e
  rcases e' with⟨xs,hx,e'⟩ | ⟨xs,hx,e'⟩
  ·subst e';obtain⟨its,r',pl,hz⟩:=I.list hx;have hlen:=r'.length;exact Calls.call_len_list pl.isList (by simp only[zq];omega) ⟨.int xs.length,H,I.tok _,⟨_,by simp only[zq];rw[hlen]⟩,q⟩
  ·subst e';obtain⟨its,r',pl,hz⟩:=I.tuple hx;have hlen:=r'.length;exact len_tuple pl (by simp only[zq];omega) ⟨.int xs.length,H,I.tok _,⟨_,by simp only[zq];rw[hlen]⟩,q⟩
 | _=>exact(show False from e).elim
end
structure lZ(h:Heap)(x dx C:Addr)(mA:Str->Option Value):Prop where
 obj:h.get? x=some (PySem.W.instObj C dx)
 ns:h.Ns1 dx mA
 ne:dx≠x
theorem Ru{h:Heap}{dx:Addr}{mA:Str->Option Value}(n:h.Ns1 dx mA):∃od,h.get? dx=some od/\∀name,PySem.W.lookIn name od=some (mA name):=by
 obtain⟨o,es,ep,ho,hd,hk,_,hm⟩:=n;refine⟨o,ho,λname=>?_⟩;have e:=hm name;unfold nsFind findBy at e;rw[<-Array.find?_toList] at e;unfold PySem.W.lookIn;rw[hd];dsimp only
 split
 ·rename_i y q;rw[q] at e;exact congrArg some e
 ·rename_i q;rw[q] at e
  have a:es.toList.any (·.refKey)=false:=by
   rw[List.any_eq_false];intro y hy;obtain⟨z,t,hkey⟩:=hk y (Array.mem_toList_iff.mp hy);simp[DictEntry.refKey,hkey]
  have a':¬es.toList.any (·.refKey)=true:=by rw[a];exact zh
  rw[if_neg a'];exact congrArg some e
theorem lZ.look{h:Heap}{x dx C:Addr}{mA:Str->Option Value}(I:lZ h x dx C mA):∃od,PySem.W.InstAt h x (PySem.W.instObj C dx) C (some od)/\∀name,PySem.W.lookIn name od=some (mA name):=
 let ⟨od,ho,hl⟩:=Ru I.ns
 ⟨od,⟨I.obj,rfl,rfl,ho⟩,hl⟩
section
variable {prog:Program}{w:World}{A:Around}{E:Value->Shared->Prop}{s:Shared}{K:PySem.W.Frag}{x dx C f:Addr}{mA:Str->Option Value}{name:Str}{v:Value}
theorem Rv{expr:Bool}{Q:Value->Shared->Prop}(X:K.In s.heap)(I:lZ s.heap x dx C mA)(hg:PySem.W.plainGet K C name=true)(hh:PySem.W.hasDictIn K C=true)
  (ha:PySem.W.findIn K (.ref C) name=some none) (hv:mA name=some v) (hv':PySem.W.handedIn v=true) (h:Q v {s with toks:=s.toks+1}):
  wpAny (model prog w) A (getAttr (.ref x) name expr) Q E s:=by
 obtain⟨od,J,hl⟩:=I.look;exact PySem.W.get_value X J (PySem.W.plainGet_of hg).1 (PySem.W.findObj_own hh ha rfl (by rw[hl,hv])) hv' h
theorem Rw{pl:Sem Bool}{Q:Value×List Value->Shared->Prop}(X:K.In s.heap)(I:lZ s.heap x dx C mA)(hg:PySem.W.plainGet K C name=true)
  (hf:PySem.W.findIn K (.ref C) name=some (some (.ref f))) (ht:PySem.W.isFn K (.ref f)=true) (hv:mA name=none) (h:Q (.ref f,[.ref x]) s):
  wpAny (model prog w) A (getMethod (.ref x) name pl) Q E s:=by
 obtain⟨od,J,hl⟩:=I.look;exact PySem.W.method_fn X J (PySem.W.plainGet_of hg).1 (PySem.W.plainGet_of hg).2 hf (beq_iff_eq.mp ht) (by show(PySem.W.lookIn name od).map (·.isSome)=some false;rw[hl,hv];rfl) h
theorem Rx{ns:List Str}{Q:Unit->Shared->Prop}(X:K.In s.heap)(I:lZ s.heap x dx C mA)
  (hs:PySem.W.findIn K (.ref C) "__setattr__" = some (some (.builtin "object.__setattr__"))) (hp:PySem.W.plainOver K C=true) (ht:PySem.W.takerIn K C name=some none) (hh:PySem.W.hasDictIn K C=true)
  (hw:PySem.Within mA ns) (hsz:ns.length<=sizeLine)
  (h:∀h',lZ h' x dx C (λy=>if y=name then some v else mA y)->Heap.SameBut dx s.heap h'->Q () {s with heap:=h',toks:=s.toks+2}):
  wpAny (model prog w) A (setAttr (.ref x) name v) Q E s:=by
 obtain⟨od,J,hl⟩:=I.look;refine PySem.W.set_plain X J hs (PySem.W.osa_open (s:={s with toks:=s.toks+1}) (r:=none) X J hp ht λb=>?_);obtain⟨cd,hc,hd'⟩:=PySem.W.any_some hh;have hx:s.heap.get? x=some ⟨.ref C,some dx,.plain,#[]⟩:=I.obj;refine za (zb (za (za (wpAny_loadPart hx (za (PySem.W.Looks.here (s:={s with toks:=s.toks+1}) (PySem.W.looks_clsIn X hc) ?_))))));rw[hd'];refine zb (a:=some dx) (za (zb (za ?_)))
 refine wpAny_nsSet1 (s:={s with toks:=s.toks+1}) I.ns λh' hn2 hs2=>?_
 obtain⟨oD,esD,epD,hoD,hdD,hcD⟩:=hn2.count (PySem.Within.cons name v hw);refine za (wpAny_lookBehind hoD (by rw[hdD];exact pastItsLine_dict (zG hcD (by rw[zv];omega))) ?_);exact zb (h _ ⟨(hs2.2 _ (Ne.symm I.ne)).trans I.obj,hn2,I.ne⟩ hs2)
theorem Ry{R:Result->Shared->Prop}{vs:List Value}{kw:List (Str×Value)}(X:K.In s.heap)(hm:PySem.W.makesIn K C=true)
  (hi:PySem.W.findIn K (.ref C) "__init__" = some (some (.ref f))) (hf:PySem.W.typeIn K (.ref f)=some (.type "function"))
  (h:codeAny (model prog w) (A.under (.builtin "type.__call__" ⟨.ref C::vs,kw⟩)) (.call (.ref f) ⟨.ref (s.heap.objs.size+1)::vs,kw⟩) (PySem.W.InitBack (s.heap.objs.size+1) R)
   {s with heap:=(s.heap.push PySem.W.emptyDict).push (PySem.W.instObj C s.heap.objs.size)}):
  codeAny (model prog w) A (.call (.ref C) ⟨vs,kw⟩) R s:=by
 obtain⟨hh,g,d,t,os⟩:=s;exact PySem.W.make_core (PySem.W.makes_of X hm) (PySem.W.looks_findIn X hi) (λself=>PySem.W.bind_fn X self hf) (.inl rfl) h
end
def d9(f:Str)(v:V):List (Str×V)->List (Str×V)
 | []=>[(f,v)]
 | (g,x)::r=>if g=f then(g,v)::r else(g,x)::d9 f v r
theorem Gg(f g:Str)(v:V):∀fs:List (Str×V),(d9 f v fs).lookup g=if g=f then some v else fs.lookup g
 | []=>by
  show List.lookup g [(f,v)]=_
  by_cases h:g=f
  ·have hb:(g == f)=true:=beq_iff_eq.mpr h;simp only[List.lookup,hb,if_pos h]
  ·have hb:(g == f)=false:=beq_eq_false_iff_ne.mpr h;simp only[List.lookup,hb,if_neg h]
 | (k,x)::r=>by
  have ih:=Gg f g v r;rw[show d9 f v ((k,x)::r)=(if k=f then(k,v)::r else(k,x)::d9 f v r) from rfl]
  by_cases hk:k=f
  ·rw[if_pos hk]
   by_cases h:g=k
   ·have hb:(g == k)=true:=beq_iff_eq.mpr h;simp only[List.lookup,hb,if_pos (h.trans hk)]
   ·have hb:(g == k)=false:=beq_eq_false_iff_ne.mpr h;simp only[List.lookup,hb,if_neg (λe:g=f=>h (e.trans hk.symm))]
  ·rw[if_neg hk]
   by_cases h:g=k
   ·have hb:(g == k)=true:=beq_iff_eq.mpr h;simp only[List.lookup,hb,if_neg (λe:g=f=>hk (h.symm.trans e))]
   ·have hb:(g == k)=false:=beq_eq_false_iff_ne.mpr h;simp only[List.lookup,hb];exact ih
theorem wY(f:Str)(v:V):∀fs:List (Str×V),f∈(d9 f v fs).map (·.1)/\∀g,g∈fs.map (·.1)->g∈(d9 f v fs).map (·.1)
 | []=>⟨by simp[d9],λg h=>by simp at h⟩
 | (k,x)::r=>by
  obtain⟨i1,i2⟩:=wY f v r;rw[show d9 f v ((k,x)::r)=(if k=f then(k,v)::r else(k,x)::d9 f v r) from rfl]
  by_cases hk:k=f
  ·rw[if_pos hk];subst hk;exact⟨by simp,λg h=>by simpa using h⟩
  ·rw[if_neg hk];refine⟨?_,λg h=>?_⟩
   ·rw[zd];exact zB _ i1
   ·rw[zd] at h ⊢
    rcases zk.mp h with e | e
    ·exact zk.mpr (.inl e)
    ·exact zB _ (i2 g e)
theorem Gh(f:Str)(v:V):∀fs:List (Str×V),(d9 f v fs).length<=fs.length+1
 | []=>by simp[d9]
 | (k,x)::r=>by
  have ih:=Gh f v r;rw[show d9 f v ((k,x)::r)=(if k=f then(k,v)::r else(k,x)::d9 f v r) from rfl]
  by_cases hk:k=f
  ·rw[if_pos hk,zv,zv];omega
  ·rw[if_neg hk,zv,zv];omega
theorem eZ.some_of{v:V}{o:Option Value}(r:eZ (some v) o):∃u,o=some u/\RelV v u:=by
 cases o with
 |none=>exact(show False from r).elim
 |some u=>exact⟨u,rfl,r⟩
theorem eZ.none_of{o:Option Value}(r:eZ none o):o=none:=by
 cases o with
 |none=>rfl
 |some u=>exact(show False from r).elim
theorem Rz{v:V}{u:Value}(r:RelV v u):PySem.W.handedIn u=true:=by
 cases v with
 |non=>cases(show u=Value.none from r);rfl
 |bl b=>cases(show u=Value.bool b from r);rfl
 |int i=>obtain⟨t,e⟩:=(show ∃t,u=Value.int i t from r);cases e;rfl
 |str x=>obtain⟨t,e⟩:=(show ∃t,u=Value.str x t from r);cases e;rfl
 |byt b=>obtain⟨t,e⟩:=(show ∃t,u=Value.bytes b t from r);cases e;rfl
 |flt b=>obtain⟨t,e⟩:=(show ∃t,u=Value.float b t from r);cases e;rfl
 |ref a=>cases(show u=Value.ref a from r);rfl
 |ty n=>cases(show u=Value.type n from r);rfl
section
variable {P:Program}{w:World}{H H':Hp}{h h':Heap}{a C dx:Addr}{fs fs':List (Str×V)}
theorem tX(hok:HOk P w H h)(e:H a=some (.ins C dx fs)):∃mA,lZ h a dx C mA/\(∀f,eZ (fs.lookup f) (mA f))/\PySem.Within mA (fs.map (·.1))/\fs.length<=1000/\H dx=some (.own a):=by
 obtain⟨d,z,ne,ob,mA,n,r,q⟩:=(show cg P w H h a (.ins C dx fs) from hok a _ e);exact⟨mA,⟨ob,n,ne⟩,r,q,z,d⟩
end
structure Cls(K:PySem.W.Frag)(C:Addr):Prop where
 pg:PySem.W.plainGet K C Str.empty=true
 hd:PySem.W.hasDictIn K C=true
 po:PySem.W.plainOver K C=true
 sa:PySem.W.findIn K (.ref C) "__setattr__" = some (some (.builtin "object.__setattr__"))
theorem Cls.get{K:PySem.W.Frag}{C:Addr}(c:Cls K C)(f:Str):PySem.W.plainGet K C f=true:=c.pg
def mj(K:PySem.W.Frag)(C:Addr)(f:Str):Prop:=PySem.W.findIn K (.ref C) f=some none
theorem mj.taker{K:PySem.W.Frag}{C:Addr}{f:Str}(n:mj K C f):PySem.W.takerIn K C f=some none:=by
 unfold PySem.W.takerIn;rw[show PySem.W.findIn K (.ref C) f=some none from n];rfl
structure Con(K:PySem.W.Frag)(C:Addr)(f:Str)(v:V)(u:Value):Prop where
 at_:PySem.W.findIn K (.ref C) f=some (some u)
 rel:RelV v u
 get:PySem.W.specialIn K u "__get__" = some none
 cp:PySem.W.copiedNames.contains f=false
structure qp(K:PySem.W.Frag)(C:Addr)(m:Str)(f:Addr):Prop where
 at_:PySem.W.findIn K (.ref C) m=some (some (.ref f))
 fn:PySem.W.isFn K (.ref f)=true
 kp:PySem.W.keepIn K (.ref f)=true
section
variable {X:Cx}{pins:List (Addr×Obj)}{σ:St}{H:Hp}{s:Shared}{a C dx:Addr}{fs:List (Str×V)}{f:Str}{v:V}{A:Around}{E:Value->Shared->Prop}
theorem RB{b:Bool}{Q:Value->Shared->Prop}(I:Inv X pins σ H s)(e:H a=some (.ins C dx fs))(c:Cls X.K C)(n:mj X.K C f)(l:fs.lookup f=some v)
  (h:∀u s',Inv X pins σ H s'->RelV v u->Q u s'):wpAny (model X.prog X.w) A (getAttr (.ref a) f b) Q E s:=by
 obtain⟨mA,O,r,_,_,_⟩:=tX I.hok e;obtain⟨u,hu,ru⟩:=eZ.some_of (v:=v) (o:=mA f) (by rw[<-l];exact r f);exact Rv I.kIn O (c.get f) c.hd n hu (Rz ru) (h u _ (I.tok _) ru)
theorem Gi{m:Str}{g:Addr}{pl:Sem Bool}{Q:Value×List Value->Shared->Prop}(I:Inv X pins σ H s)(e:H a=some (.ins C dx fs))(c:Cls X.K C)(k:qp X.K C m g)(l:fs.lookup m=none)
  (h:Q (.ref g,[.ref a]) s):wpAny (model X.prog X.w) A (getMethod (.ref a) m pl) Q E s:=by
 obtain⟨mA,O,r,_,_,_⟩:=tX I.hok e;have hn:mA m=none:=eZ.none_of (by rw[<-l];exact r m);exact Rw I.kIn O (c.get m) k.at_ k.fn hn h
theorem RC{y:V}{u:Value}{Q:Unit->Shared->Prop}(I:Inv X pins σ H s)(e:H a=some (.ins C dx fs))(c:Cls X.K C)(n:mj X.K C f)(hl:fs.length<1000)(ry:RelV y u)
  (h:∀s',Inv X pins σ (upd H a (.ins C dx (d9 f y fs))) s'->Q () s'):wpAny (model X.prog X.w) A (setAttr (.ref a) f u) Q E s:=by
 obtain⟨mA,O,r,wi,_,ho⟩:=tX I.hok e
 have hz:(fs.map (·.1)).length<=sizeLine:=by rw[zf,sizeLine_eq];omega
 refine Rx I.kIn O c.sa c.po n.taker c.hd wi hz λh' O' sb=>h _ ?_
 have hd:∃o,h'.get? dx=some o:=let ⟨o,_,_,e',_⟩:=O'.ns;⟨o,e'⟩;refine I.write (x:=a) (e:=dx) (by rw[e];exact True.intro) (.inr ho) (λb q hb z=>(sb.2 b hb).trans z) hd ?_;refine⟨by rw[aO O.ne];exact ho,?_,O.ne,O'.obj,_,O'.ns,λg=>?_,λg hg=>?_⟩
 ·have:=Gh f y fs;omega
 ·show eZ ((d9 f y fs).lookup g) (if g=f then some u else mA g);rw[Gg]
  by_cases q:g=f
  ·rw[if_pos q,if_pos q];exact ry
  ·rw[if_neg q,if_neg q];exact r g
 ·by_cases q:g=f
  ·rw[q];exact(wY f y fs).1
  ·refine(wY f y fs).2 g (wi g λz=>hg ?_);show(if g=f then some u else mA g)=none;rw[if_neg q];exact z
theorem Inv.made(I:Inv X pins σ H s):Inv X pins σ (upd (upd H s.heap.objs.size (.own (s.heap.objs.size+1))) (s.heap.objs.size+1) (.ins C s.heap.objs.size []))
  {s with heap:=(s.heap.push PySem.W.emptyDict).push (PySem.W.instObj C s.heap.objs.size)}:=by
 have e1:(s.heap.push PySem.W.emptyDict).get? s.heap.objs.size=some PySem.W.emptyDict:=zy s.heap rfl
 have e2:((s.heap.push PySem.W.emptyDict).push (PySem.W.instObj C s.heap.objs.size)).get? (s.heap.objs.size+1)=some (PySem.W.instObj C s.heap.objs.size):=by
  have:=zy (s.heap.push PySem.W.emptyDict) (o:=PySem.W.instObj C s.heap.objs.size) rfl
  rwa [Heap.size_push] at this
 have e3:(s.heap.push PySem.W.emptyDict).Ns s.heap.objs.size (λ_=>none):=⟨PySem.W.emptyDict,#[],_,e1,rfl,(λe he=>absurd he (by simp)),λ_=>rfl⟩;have I1:=I.laid (a:=s.heap.objs.size) (o:=.own (s.heap.objs.size+1)) (h':=s.heap.push PySem.W.emptyDict) (t':=s.toks) (λb u q=>zm _ q) (zc _) ⟨_,e1⟩;refine I1.laid (a:=s.heap.objs.size+1) (o:=.ins C s.heap.objs.size []) (t':=s.toks) (λb u q=>zm _ q) (Nat.le_of_eq (Heap.size_push _ _)) ?_;have ne:s.heap.objs.size≠s.heap.objs.size+1:=zu (jj _);refine⟨by rw[aO ne,bM],Nat.zero_le _,ne,e2,λ_=>none,(Heap.Ns1.of_empty e3).at λo q=>zm _ q,λ_=>True.intro,λy hy=>absurd rfl hy⟩
theorem RD{prog:Program}{w:World}{env:Env}{e:Expr}{f:Str}{pos:Pos}{s:Shared}{Q:Value->Shared->Prop}(hb:attributeBase e f env (eval e env)=eval e env)
  (h:wpAny (model prog w) A (eval e env) (λo s₁=>wpAny (model prog w) A (getAttr o f true) Q E s₁) E s):wpAny (model prog w) A (eval (.Attribute e f pos) env) Q E s :=
 Attribute_any_ h (by rw[arm_eval_Attribute,hb])
end
def RG(K:PySem.W.Frag)(ta:TE)(f:Str):TE:=λσ H Q=>ta σ H λx H1=>∃a C dx fs v,x=.ref a/\H1 a=some (.ins C dx fs)/\Cls K C/\mj K C f/\fs.lookup f=some v/\Q v H1
def RJ(K:PySem.W.Frag)(ta tv:TE)(f:Str):TS:=λD σ H=>tv σ H λy H1=>ta σ H1 λx H2=>∃a C dx fs,x=.ref a/\H2 a=some (.ins C dx fs)/\Cls K C/\mj K C f/\fs.length<1000 /\
 D.nx σ (upd H2 a (.ins C dx (d9 f y fs)))
section
variable {X:Cx}{o e value:Expr}{f:Str}{pos pos' tpos:Pos}{ta tv:TE}
theorem RK(he:PE X e ta)(hb:attributeBase e f X.env (eval e X.env)=eval e X.env):PE X (.Attribute e f pos) (RG X.K ta f):=by
 intro pins s σ H Q I h;refine RD hb (thn (he pins s σ H _ I h) λu s1 ⟨x,H1,I1,rx,a,C,dx,fs,v,ex,ea,c,n,l,q⟩=>?_);subst ex;obtain rfl:u=Value.ref a:=rx
 exact RB I1 ea c n l λu' s2 I2 ru=>⟨v,H1,I2,ru,q⟩
theorem RL(ha:PE X o ta)(hv:PE X value tv)(hs:swapsWith value (some (.Attribute o f pos')) pos.line X.env=pure false):PS X (.Assign [.Attribute o f pos'] value pos) (RJ X.K ta tv f):=by
 intro pins s σ H D I h;refine plainObj_wpAny_Assign_Attribute (thn (hv pins s σ H _ I h) λu s1 ⟨y,H1,I1,ry,q⟩=>thn (ha pins s1 σ H1 _ I1 q) λov s2 ⟨x,H2,I2,rx,a,C,dx,fs,ex,ea,c,n,l,q2⟩=>?_) hs;subst ex;obtain rfl:ov=Value.ref a:=rx
 exact RC I2 ea c n l ry λs3 I3=>⟨σ,_,I3,q2⟩
end
section
variable {X:Cx}{pins:List (Addr×Obj)}{σ:St}{H:Hp}{s:Shared}{A:Around}{E:Value->Shared->Prop}{Q:Value->Shared->Prop}{c:Value}{b:Bool}
inductive gO (K:PySem.W.Frag) (H:Hp):V->Value->Prop where
 | non:gO K H .non (.type "NoneType")
 | bl (x:Bool):gO K H (.bl x) (.type "bool")
 | int (i:Int):gO K H (.int i) (.type "int")
 | str (x:Str):gO K H (.str x) (.type "str")
 | flt (x:UInt64):gO K H (.flt x) (.type "float")
 | lst {a:Addr}{xs:List V} (e:H a=some (.lst xs)):gO K H (.ref a) (.type "list")
 | frz {a:Addr}{o:Obj}{xs:List V} (e:H a=some (.frz o (.lst xs))):gO K H (.ref a) (.type "list")
 | tup {a:Addr}{xs:List V} (e:H a=some (.tup xs)):gO K H (.ref a) (.type "tuple")
 | dK {a:Addr}{kvs:List (Key×V)} (e:H a=some (.dK kvs)):gO K H (.ref a) (.type "dict")
 | dT {a:Addr}{kvs:List (List Key×V)} (e:H a=some (.dT kvs)):gO K H (.ref a) (.type "dict")
 | ins {a C dx:Addr}{fs:List (Str×V)} (e:H a=some (.ins C dx fs)) (cl:Cls K C) (ha:PySem.W.findIn K (.ref C) "__class__" = some (some (.builtin "object.__class__")))
   (hn:PySem.W.specialIn K (.builtin "object.__class__") "__get__" = some (some (.builtin "getset_descriptor.__get__"))) (htk:PySem.W.takesIn K (.builtin "object.__class__")=some true)
   (hm:PySem.W.mroIn K C (.type "object")=some true):gO K H (.ref a) (.ref C)
theorem qt{x:V}{u t:Value}(I:Inv X pins σ H s)(rx:RelV x u)(ty:gO X.K H x t)(e:PySem.W.kitOne X.K t c=some b)(h:∀tk,Q (.bool b) {s with toks:=tk}):
  wpAny (model X.prog X.w) A (call (.builtin "isinstance") [u,c]) Q E s:=by
 cases ty with
 |non=>cases(show u=Value.none from rx);exact PySem.W.kia_one PySem.W.kitx_none I.kIn True.intro e (λz=>nomatch z) h
 |bl y=>cases(show u=Value.bool y from rx);exact PySem.W.kia_one PySem.W.kitx_bool I.kIn True.intro e (λz=>nomatch z) h
 |int i=>obtain⟨t,q⟩:=(show ∃t,u=Value.int i t from rx);cases q;exact PySem.W.kia_one PySem.W.kitx_int I.kIn True.intro e (λz=>nomatch z) h
 |str y=>obtain⟨t,q⟩:=(show ∃t,u=Value.str y t from rx);cases q;exact PySem.W.kia_one PySem.W.kitx_str I.kIn True.intro e (λz=>nomatch z) h
 |flt y=>obtain⟨t,q⟩:=(show ∃t,u=Value.float y t from rx);cases q;exact PySem.W.kia_one PySem.W.kitx_float I.kIn True.intro e (λz=>nomatch z) h
 | @lst a xs ea =>
  cases(show u=Value.ref a from rx);obtain⟨_,_,n,_,h1⟩:=(show cg X.prog X.w H s.heap a (.lst xs) from I.hok a _ ea);exact PySem.W.kia_one PySem.W.kitx_list I.kIn ⟨_,h1,rfl⟩ e (λz=>nomatch z) h
 | @frz a ob xs ea =>
  cases(show u=Value.ref a from rx);obtain⟨_,_,_,n,_,h1⟩:=(show cg X.prog X.w H s.heap a (.frz ob (.lst xs)) from I.hok a _ ea);exact PySem.W.kia_one PySem.W.kitx_list I.kIn ⟨_,h1,rfl⟩ e (λz=>nomatch z) h
 | @tup a xs ea =>
  cases(show u=Value.ref a from rx);obtain⟨_,_,_,p⟩:=(show cg X.prog X.w H s.heap a (.tup xs) from I.hok a _ ea);obtain⟨o,h1,h2,_⟩:=p;exact PySem.W.kia_one PySem.W.kitx_tuple I.kIn ⟨o,h1,h2⟩ e (λz=>nomatch z) h
 | @dK a kvs ea =>
  cases(show u=Value.ref a from rx);obtain⟨_,_,vs,_,p⟩:=(show cg X.prog X.w H s.heap a (.dK kvs) from I.hok a _ ea);obtain⟨o,es,ep,h1,h2,_⟩:=p;exact PySem.W.kia_one PySem.W.kitx_dict I.kIn ⟨o,h1,h2.1⟩ e (λz=>nomatch z) h
 | @dT a kvs ea =>
  cases(show u=Value.ref a from rx);obtain⟨_,_,xs,_,o,es,ep,h1,h2,_⟩:=(show cg X.prog X.w H s.heap a (.dT kvs) from I.hok a _ ea);exact PySem.W.kia_one PySem.W.kitx_dict I.kIn ⟨o,h1,h2.1⟩ e (λz=>nomatch z) h
 | @ins a C dx fs ea cl ha hn htk hm =>
  cases(show u=Value.ref a from rx);obtain⟨mA,O,_⟩:=tX I.hok ea;obtain⟨od,J,_⟩:=O.look;exact PySem.W.kia_one (PySem.W.kitx_own (cl.get _) cl.hd ha hn htk hm) I.kIn J e (λz=>nomatch z) h
end
structure bw(k:Nat)(A:Around):Prop where
 hd:A.handled=none
 dp:A.depth+3 * k+5<recursionLimit
 un:A.units+16 * k+200<cLine
theorem bw.mono{j k:Nat}{A:Around}(r:bw k A)(h:j<=k):bw j A:=⟨r.hd,by have:=r.dp;omega,by have:=r.un;omega⟩
theorem bw.deeper{k:Nat}{A:Around}(r:bw (k+1) A)(env:Env):bw k (A.deeper env):=
 ⟨r.hd,by have:=r.dp;show A.depth+1+3 * k+5<_;omega,by have:=r.un;show A.units+3+16 * k+200<_;omega⟩
theorem bw.in1{k:Nat}{A:Around}(r:bw (k+1) A):bw k A.in1 :=
 ⟨r.hd,by have:=r.dp;show A.depth+3 * k+5<_;omega,by have:=r.un;show A.units+1+16 * k+200<_;omega⟩
theorem RM{A:Around}{C:Addr}{us:List Value}{kw:List (Str×Value)}:(A.under (.builtin "type.__call__" ⟨.ref C::us,kw⟩)).depth=A.depth+1:=by
 first | rfl | simp[Around.under,Code.weight,Code.isCreation,Code.isGuard,Code.isCaller,Code.frames,Code.isFrame,guardIds]
theorem RN{A:Around}{C:Addr}{us:List Value}{kw:List (Str×Value)}:(A.under (.builtin "type.__call__" ⟨.ref C::us,kw⟩)).units=A.units+1:=by
 first | rfl | simp[Around.under,Code.cUnits,Code.frames,Code.isFrame]
theorem bw.make{k:Nat}{A:Around}(r:bw (k+1) A)(C:Addr)(us:List Value)(kw:List (Str×Value)):bw k (A.under (.builtin "type.__call__" ⟨.ref C::us,kw⟩)):=
 ⟨r.hd,by have:=r.dp;rw[RM];omega,by have:=r.un;rw[RN];omega⟩
theorem bw.depth{k:Nat}{A:Around}(r:bw k A):A.depth<recursionLimit:=by have:=r.dp;omega
theorem bw.units{k:Nat}{A:Around}(r:bw k A):A.units+64<cLine:=by have:=r.un;omega
def Gj:TA:=λ_ H Q=>Q [] H
def RP(ta:TE)(tr:TA):TA:=λσ H Q=>ta σ H λx H1=>tr σ H1 λxs H2=>Q (x::xs) H2
section
variable {X:Cx}{e:Expr}{es:List Expr}{te:TE}{t:TA}{pos:Pos}
theorem qw:PA X [] Gj:=λ_ _ _ _ H Q I h=>Calls.spliced_nil ⟨[],H,I,.nil,h⟩
theorem oA(ha:PE X e te)(hr:PA X es t)(hs:starEach (e::es) X.env=(false,eval e X.env)::starEach es X.env:=by rfl):PA X (e::es) (RP te t):=by
 intro pos pins s σ H Q I h;rw[hs];show wpAny _ _ (spliced ((false,eval e X.env)::backTo pos (starEach es X.env))) _ _ s;refine Calls.spliced_cons (thn (ha pins s σ H _ I h) λu s1 ⟨x,H1,I1,r1,q1⟩=>?_)
 exact thn (hr pos pins s1 σ H1 _ I1 q1) λus s2 ⟨xs,H2,I2,r2,q2⟩=>⟨x::xs,H2,I2,.cons r1 r2,q2⟩
def RQ(t:TA):TE:=λσ H Q=>t σ H λxs H1=>xs.length<=sizeLine/\∀p,H1 p=none->Q (.ref p) (upd H1 p (.tup xs))
def RT(t:TA):TE:=λσ H Q=>t σ H λxs H1=>xs.length<=sizeLine/\∀p,H1 p=none->Q (.ref p) (upd H1 p (.lst xs))
theorem RV{x1}(h:PA X es t):PE X (.Tuple es x1 pos) (RQ t):=by
 intro pins s σ H Q I hq;refine wpAny_Tuple_spliced (thn (h pos pins s σ H _ I hq) λus s1 ⟨xs,H1,I1,r,z,q⟩=>⟨by rw[<-r.length];exact z,?_⟩);have hf:H1 s1.heap.objs.size=none:=I1.hok.fresh (zc _);refine⟨.ref s1.heap.objs.size,upd H1 s1.heap.objs.size (.tup xs),I1.laid (t':=s1.toks) (λb u e=>zm _ e) (zc _) ?_,rfl,q _ hf⟩;exact⟨z,us,r,⟨_,zy _ rfl,rfl,_,rfl⟩⟩
theorem RW(h:PA X es t):PE X (.List es pos) (RT t):=by
 intro pins s σ H Q I hq;refine wpAny_List_spliced (thn (h pos pins s σ H _ I hq) λus s1 ⟨xs,H1,I1,r,z,q⟩=>⟨by rw[<-r.length];exact z,?_⟩);have hf:H1 s1.heap.objs.size=none:=I1.hok.fresh (zc _);refine⟨.ref s1.heap.objs.size,upd H1 s1.heap.objs.size (.lst xs),I1.laid (t':=s1.toks) (λb u e=>zm _ e) (zc _) ?_,rfl,q _ hf⟩;exact⟨z,us,0,r,zy _ rfl⟩
end
abbrev Sp:=List V->Hp->VK->XK->Prop
abbrev CXT:=List Env->Hp->Shared->XK->Value->Shared->Prop
structure iH(P:Program)(w:World)(K:PySem.W.Frag)(mg:Str->Option Value)(base:Heap)(A:Around)(outer:List Env)(s:Shared)(H:Hp):Prop where
 frames:A.frames=some outer
 mod:Mod K mg base
 bs:∀b o,base.get? b=some o->s.heap.get? b=some o/\H b=none
 bsz:base.objs.size<=s.heap.objs.size
 funs:s.heap.FunFrames base outer
 frf:∀b∈frs outer,H b=none
 hok:HOk P w H s.heap
 bare:AllBare s.gens
def CE(outer:List Env)(P:Program)(w:World)(H:Hp)(s:Shared)(Q:VK)(u:Value)(s':Shared):Prop :=
 ∃v H',s'.os=s.os/\AllBare s'.gens/\Un (frs outer) [] H H' s.heap s'.heap/\HOk P w H' s'.heap/\RelV v u/\Q v H'
def CR(CX:CXT)(outer:List Env)(P:Program)(w:World)(H:Hp)(s:Shared)(Q:VK)(E:XK)(r:Result)(s':Shared):Prop :=
 match r with
 | .ok (.ret u)=>CE outer P w H s Q u s'
 | .ok _=>False
 | .error e=>CX outer H s E e s'
structure dg(P:Program)(w:World)(K:PySem.W.Frag)(mg:Str->Option Value)(base:Heap)(CX:CXT)(k:Nat)(f:Addr)(fd:FuncData)(ps:List Str)(sp:Sp):Prop where
 len:∀vs H Q E,sp vs H Q E->vs.length=ps.length
 run:∀(A:Around) (outer:List Env) (s:Shared) (H:Hp) (args:Args) (us:List Value) (vs:List V) (Q:VK) (E:XK),bw k A->iH P w K mg base A outer s H->BindsTo s fd args (ps.zip us)->aN vs us->sp vs H Q E ->
  codeAny (model P w) A (.call (.ref f) args) (CR CX outer P w H s Q E) s
theorem dg.mono{P:Program}{w:World}{K:PySem.W.Frag}{mg:Str->Option Value}{base:Heap}{CX:CXT}{j k:Nat}{f:Addr}{fd:FuncData}{ps:List Str}{sp:Sp}(F:dg P w K mg base CX j f fd ps sp)(h:j<=k):
  dg P w K mg base CX k f fd ps sp:=⟨F.len,λA outer s H args us vs Q E hr=>F.run A outer s H args us vs Q E (hr.mono h)⟩
theorem dg.imp{P:Program}{w:World}{K:PySem.W.Frag}{mg:Str->Option Value}{base:Heap}{CX:CXT}{k:Nat}{f:Addr}{fd:FuncData}{ps:List Str}{sp sp':Sp}(F:dg P w K mg base CX k f fd ps sp)
  (h:∀vs H Q E,sp' vs H Q E->sp vs H Q E):dg P w K mg base CX k f fd ps sp' :=
 ⟨λvs H Q E q=>F.len vs H Q E (h _ _ _ _ q),λA outer s H args us vs Q E hr he hb hv hs=>F.run A outer s H args us vs Q E hr he hb hv (h _ _ _ _ hs)⟩
theorem iH.make{P:Program}{w:World}{K:PySem.W.Frag}{mg:Str->Option Value}{base:Heap}{A:Around}{outer:List Env}{s:Shared}{H:Hp}(e:iH P w K mg base A outer s H)(C:Addr)(us:List Value)(kw:List (Str×Value)):
  iH P w K mg base (A.under (.builtin "type.__call__" ⟨.ref C::us,kw⟩)) outer s H:=⟨by first | exact e.frames | (simpa [Around.under,Code.envs,Code.isFrame,pushEnvs] using e.frames),e.mod,e.bs,e.bsz,e.funs,e.frf,e.hok,e.bare⟩
theorem iH.in1{P:Program}{w:World}{K:PySem.W.Frag}{mg:Str->Option Value}{base:Heap}{A:Around}{outer:List Env}{s:Shared}{H:Hp}(e:iH P w K mg base A outer s H):
  iH P w K mg base A.in1 outer s H:=⟨e.frames,e.mod,e.bs,e.bsz,e.funs,e.frf,e.hok,e.bare⟩
section
variable {X:Cx}{pins:List (Addr×Obj)}{σ:St}{H:Hp}{s s':Shared}
theorem Inv.env0(I:Inv X pins σ H s):iH X.prog X.w X.K X.mg X.base X.A X.stack s H :=
 ⟨I.ok.frames,I.ok.mod,I.bs,zG I.ok.bsz I.sz,I.stack,I.stkFree,I.hok,I.bare⟩
theorem Inv.after{Q:VK}{u:Value}(I:Inv X pins σ H s)(h:CE X.stack X.prog X.w H s Q u s'):EP X pins σ Q u s':=by
 obtain⟨v,H',os,bare,un,hok,r,q⟩:=h;obtain⟨hh,g,d,t,os'⟩:=s';obtain rfl:os'=s.os:=os;exact⟨v,H',I.call (h':=hh) (g':=g) (d':=d) (t':=t) (ch:=[]) un hok bare (λb z=>absurd z (by simp)),r,q⟩
end
def wZ(sp:Sp)(dvs:List V)(E:XK)(t:TA):TE:=λσ H Q=>t σ H λvs H1=>sp (vs++dvs) H1 Q E
def w5(C:Addr)(m:Str)(sp:Sp)(dvs:List V)(E:XK)(ta:TE)(t:TA):TE:=λσ H Q=>ta σ H λx H1=>∃a dx fs,x=.ref a/\H1 a=some (.ins C dx fs)/\fs.lookup m=none /\
 t σ H1 λvs H2=>sp (x::(vs++dvs)) H2 Q E
def Gk(C:Addr)(sp:Sp)(dvs:List V)(E:XK)(t:TA):TE:=λσ H Q=>t σ H λvs H1=>∀x dx,H1 x=none->H1 dx=none->dx≠x ->
 sp (.ref x::(vs++dvs)) (upd (upd H1 dx (.own x)) x (.ins C dx [])) (λv H2=>v=.non/\Q (.ref x) H2) E
def Binds(K:PySem.W.Frag)(fd:FuncData)(ps:List Str)(ds:List Value):Prop :=
 ∀(s:Shared) (us:List Value),K.In s.heap->(us++ds).length=ps.length->BindsTo s fd ⟨us,[]⟩ (ps.zip (us++ds))
theorem Binds.all{K:PySem.W.Frag}{fd:FuncData}{ps:List Str}(h:∀us:List Value,us.length=ps.length->bindArgs fd ⟨us,[]⟩=pure (ps.zip us)):Binds K fd ps []:=λs us _ hl=>by
 rw[zZ] at hl ⊢;exact .of_eq (h us hl)
def mq(CX:CXT)(X:Cx)(E:XK):Prop:=∀(pins:List (Addr×Obj)) (σ:St) (H:Hp) (s:Shared) (e:Value) (s':Shared),Inv X pins σ H s->CX X.stack H s E e s'->X.xe e s'
section
variable {X:Cx}{CX:CXT}{k:Nat}{f C:Addr}{fd:FuncData}{ps:List Str}{sp:Sp}{dvs:List V}{ds:List Value}{E:XK}{x m:Str}{p pos apos:Pos}{e o:Expr}{es:List Expr}{ta:TE}{t:TA}
theorem w6{pins:List (Addr×Obj)}{σ:St}{H:Hp}{s:Shared}{Q:VK}{us:List Value}{vs:List V}(F:dg X.prog X.w X.K X.mg X.base CX k f fd ps sp)(hr:bw k X.A)(hb:Binds X.K fd ps ds)(hd:aN dvs ds)(hx:mq CX X E)
  (I:Inv X pins σ H s) (r:aN vs us) (h:sp (vs++dvs) H Q E):wpAny (model X.prog X.w) X.A (call (.ref f) us) (EP X pins σ Q) X.xe s:=by
 have r2:aN (vs++dvs) (us++ds):=r.append hd
 have hl:(us++ds).length=ps.length:=by rw[<-r2.length];exact F.len _ _ _ _ h
 refine wpAny_call (codeAny_mono (F.run X.A X.stack s H ⟨us,[]⟩ (us++ds) (vs++dvs) Q E hr I.env0 (hb s us I.kIn hl) r2 h) λr s' hq=>?_)
 cases r with
 |error e=>exact hx pins σ H s e s' I hq
 |ok fl =>
  cases fl with
  |ret u=>exact I.after hq
  |next=>exact False.elim hq
  |brk=>exact False.elim hq
  |cont=>exact False.elim hq
theorem RX(F:dg X.prog X.w X.K X.mg X.base CX k f fd ps sp)(hr:bw k X.A)(hg:Gl X x)(hm:X.mg x=some (.ref f))(hk:PySem.W.keepIn X.K (.ref f)=true)(hb:Binds X.K fd ps ds)(hd:aN dvs ds)(hx:mq CX X E)
  (ha:PA X (e::es) t) (hdb:(x == ("__debug__":Str))=false:=by decide) (he:starEach (e::es) X.env=(false,eval e X.env)::starEach es X.env:=by rfl) (hpl:(backTo pos (starEach es X.env)).any (·.1)=false:=by rfl):
  PE X (.Call (.Name x p) (e::es) [] pos) (wZ sp dvs E t):=by
 intro pins s σ H Q I h;refine wpAny_Call_Name_kw (wL I hg hm ?_ hdb);refine PySem.W.callWith_K (h₀:=X.base) I.ok.mod.kin hk (thn (ha pos pins s σ H _ I h) λus s1 ⟨vs,H1,I1,r,q⟩=>⟨I1.kIn,?_⟩) he hpl;exact w6 F hr hb hd hx I1 r q
theorem RZ{pl:Sem Bool}(he:PE X o ta)(c:Cls X.K C)(hm:qp X.K C m f)(F:dg X.prog X.w X.K X.mg X.base CX k f fd ps sp)(hr:bw k X.A)(hb:Binds X.K fd ps ds)(hd:aN dvs ds)(hx:mq CX X E)(ha:PA X (e::es) t)
  (hst:starEach (e::es) X.env=(false,eval e X.env)::starEach es X.env:=by rfl) (hpl:(backTo pos (starEach es X.env)).any (·.1)=false:=by rfl)
  (ht:eval (.Call (.Attribute o m apos) (e::es) [] pos) X.env=(do
   let ov <-eval o X.env
   standAt apos.atName
   let (f,first) <-holding [ov] (getMethod ov m pl)
   callWith pos f first (backTo pos (starEach (e::es) X.env)) (backToKw pos (keywordEach [] X.env))):=by rfl):
  PE X (.Call (.Attribute o m apos) (e::es) [] pos) (w5 C m sp dvs E ta t):=by
 intro pins s σ H Q I h;refine PySem.W.methodCall_KW (pl:=pl) (thn (he pins s σ H _ I h) λu s1 ⟨x,H1,I1,rx,a,dx,fs,ex,ea,l,q⟩=>?_) ht;subst ex;obtain rfl:u=Value.ref a:=rx;refine Gi I1 ea c hm l ?_;refine PySem.W.callWith_K (first:=[.ref a]) (h₀:=X.base) I.ok.mod.kin hm.kp (thn (ha pos pins s1 σ H1 _ I1 q) λus s2 ⟨vs,H2,I2,r,q2⟩=>⟨I2.kIn,?_⟩) hst hpl;exact w6 (us:=.ref a::us) (vs:=.ref a::vs) F hr hb hd hx I2 (.cons rfl r) q2
theorem R0{pl:Sem Bool}(he:PE X o ta)(c:Cls X.K C)(hm:qp X.K C m f)(F:dg X.prog X.w X.K X.mg X.base CX k f fd ps sp)(hr:bw k X.A)(hb:Binds X.K fd ps ds)(hd:aN dvs ds)(hx:mq CX X E)
  (ht:eval (.Call (.Attribute o m apos) [] [] pos) X.env=(do
   let ov <-eval o X.env
   standAt apos.atName
   let (f,first) <-holding [ov] (getMethod ov m pl)
   callWith pos f first (backTo pos (starEach [] X.env)) (backToKw pos (keywordEach [] X.env))):=by rfl):
  PE X (.Call (.Attribute o m apos) [] [] pos) (w5 C m sp dvs E ta Gj):=by
 intro pins s σ H Q I h;refine PySem.W.methodCall_KW (pl:=pl) (thn (he pins s σ H _ I h) λu s1 ⟨x,H1,I1,rx,a,dx,fs,ex,ea,l,q⟩=>?_) ht;subst ex;obtain rfl:u=Value.ref a:=rx;refine Gi I1 ea c hm l ?_;exact PySem.W.callWith_K0 (first:=[.ref a]) I1.kIn hm.kp (w6 (us:=[.ref a]) (vs:=[.ref a]) F hr hb hd hx I1 (.cons rfl .nil) q)
structure Mk(K:PySem.W.Frag)(C f:Addr):Prop where
 makes:PySem.W.makesIn K C=true
 init:PySem.W.findIn K (.ref C) "__init__" = some (some (.ref f))
 fn:PySem.W.isFn K (.ref f)=true
 kp:PySem.W.keepIn K (.ref C)=true
theorem R1{pins:List (Addr×Obj)}{σ:St}{H:Hp}{s:Shared}{Q:VK}{us:List Value}{vs:List V}(M:Mk X.K C f)(F:dg X.prog X.w X.K X.mg X.base CX k f fd ps sp)(hr:bw (k+1) X.A)(hb:Binds X.K fd ps ds)(hd:aN dvs ds)
  (hx:mq CX X E) (I:Inv X pins σ H s) (r:aN vs us)
  (h:∀x dx,H x=none->H dx=none->dx≠x->sp (.ref x::(vs++dvs)) (upd (upd H dx (.own x)) x (.ins C dx [])) (λv H2=>v=.non/\Q (.ref x) H2) E):
  wpAny (model X.prog X.w) X.A (call (.ref C) us) (EP X pins σ Q) X.xe s:=by
 have hq:=h (s.heap.objs.size+1) s.heap.objs.size (I.hok.fresh (Nat.le_succ _)) (I.hok.fresh (zc _)) (zu (jj _));have I2:=Inv.made (C:=C) I;have r2:aN (V.ref (s.heap.objs.size+1)::(vs++dvs)) (Value.ref (s.heap.objs.size+1)::(us++ds)):=.cons rfl (r.append hd)
 have hl:(Value.ref (s.heap.objs.size+1)::us++ds).length=ps.length:=by
  have e:=r2.length;rw[F.len _ _ _ _ hq] at e;exact e.symm
 refine wpAny_call (Ry (f:=f) I.kIn M.makes M.init (beq_iff_eq.mp M.fn) (codeAny_mono (F.run _ X.stack _ _ ⟨Value.ref (s.heap.objs.size+1)::us,[]⟩ (Value.ref (s.heap.objs.size+1)::(us++ds)) _ _ E (hr.make C us [])
  (I2.env0.make C us []) (hb _ (Value.ref (s.heap.objs.size+1)::us) I2.kIn hl) r2 hq) λr s' hq'=>?_))
 cases r with
 |error e=>exact hx pins σ _ _ e s' I2 hq'
 |ok fl =>
  cases fl with
  |ret u =>
   obtain⟨v,H',I3,rv,ev,q3⟩:=I2.after hq';subst ev;exact⟨rv,⟨V.ref (s.heap.objs.size+1),H',I3,rfl,q3⟩⟩
  |next=>exact False.elim hq'
  |brk=>exact False.elim hq'
  |cont=>exact False.elim hq'
theorem R3(M:Mk X.K C f)(F:dg X.prog X.w X.K X.mg X.base CX k f fd ps sp)(hr:bw (k+1) X.A)(hg:Gl X x)(hm:X.mg x=some (.ref C))(hb:Binds X.K fd ps ds)(hd:aN dvs ds)(hx:mq CX X E)
  (ha:PA X (e::es) t) (hdb:(x == ("__debug__":Str))=false:=by decide) (he:starEach (e::es) X.env=(false,eval e X.env)::starEach es X.env:=by rfl) (hpl:(backTo pos (starEach es X.env)).any (·.1)=false:=by rfl):
  PE X (.Call (.Name x p) (e::es) [] pos) (Gk C sp dvs E t):=by
 intro pins s σ H Q I h;refine wpAny_Call_Name_kw (wL I hg hm ?_ hdb);refine PySem.W.callWith_K (h₀:=X.base) I.ok.mod.kin M.kp (thn (ha pos pins s σ H _ I h) λus s1 ⟨vs,H1,I1,r,q⟩=>⟨I1.kIn,?_⟩) he hpl;exact R1 M F hr hb hd hx I1 r q
end
section
variable {X:Cx}{CX:CXT}{k:Nat}{f C:Addr}{fd:FuncData}{ps ks:List Str}{sp:Sp}{E:XK}{x m:Str}{p pos apos kpos:Pos}{e o:Expr}{es:List Expr}{kws:List Keyword}{te ta:TE}{t tk:TA}{nm:Option Str}
structure QAj(K:PySem.W.Frag)(fd:FuncData)(ps ks:List Str)(g:List Value->List Value->List Value)(gV:List V->List V->List V):Prop where
 to:∀(s:Shared) (us ws:List Value),K.In s.heap->(g us ws).length=ps.length->BindsTo s fd ⟨us,ks.zip ws⟩ (ps.zip (g us ws))
 rel:∀{vs:List V}{us:List Value}{zs:List V}{ws:List Value},aN vs us->aN zs ws->aN (gV vs zs) (g us ws)
variable {g:List Value->List Value->List Value}{gV:List V->List V->List V}
end
structure bK(N P:List Str)(sc:Scope):Prop where
 kind:sc.kind=.function
 co:sc.isCoroutine=false
 gen:sc.isGenerator=false
 nd:N.Nodup
 pre:N.take P.length=P
 par:∀x∈P,sc.names.lookup x=some .local\/sc.names.lookup x=some .cell
 nofree:∀y∈sc.names,y.2≠.free
theorem Gm{kindOf:Str->Option NameKind}{x:Str}:∀{binds:List (Str×Value)}{m:Str->Option Value},(∀v,(x,v)∉binds)->bindL kindOf binds m x=m x
 | [],_,_=>rfl
 | (n,v)::r,m,h=>by
  unfold bindL;rw[Gm λw hw=>h w (zB _ hw)]
  split
  ·have:x≠n:=by rintro rfl;exact h v zx
   simp[this]
  ·rfl
theorem Gn{kindOf:Str->Option NameKind}{x:Str}:∀{binds:List (Str×Value)}{m:Str->Option Value},(∀v,(x,v)∉binds)->bindC kindOf binds m x=m x
 | [],_,_=>rfl
 | (n,v)::r,m,h=>by
  unfold bindC;rw[Gn λw hw=>h w (zB _ hw)]
  split
  ·rfl
  ·have:x≠n:=by rintro rfl;exact h v zx
   simp[this]
theorem Gp{kindOf:Str->Option NameKind}{x:Str}{v:Value}:∀{P:List Str}{vs:List Value}{i:Nat}{m:Str->Option Value},P.Nodup->P[i]?=some x->vs[i]?=some v->kindOf x=some .local ->
  bindL kindOf (P.zip vs) m x=some v
 | [],_,_,_,_,h,_,_=>by simp at h
 | _::_,[],_,_,_,_,h,_=>by simp at h
 |p::P,w::vs,0,m,nd,h1,h2,hk=>by
  simp at h1 h2;subst h1;subst h2
  show bindL kindOf ((p,w)::P.zip vs) m p=_;unfold bindL;rw[Gm λv hv=>(List.nodup_cons.mp nd).1 (List.of_mem_zip hv).1,if_pos hk];simp
 |p::P,w::vs,i+1,m,nd,h1,h2,hk=>by
  show bindL kindOf ((p,w)::P.zip vs) m x=_;unfold bindL;exact Gp (i:=i) (List.nodup_cons.mp nd).2 (by simpa using h1) (by simpa using h2) hk
theorem Gq{kindOf:Str->Option NameKind}{x:Str}{v:Value}:∀{P:List Str}{vs:List Value}{i:Nat}{m:Str->Option Value},P.Nodup->P[i]?=some x->vs[i]?=some v->kindOf x≠some .local ->
  bindC kindOf (P.zip vs) m x=some v
 | [],_,_,_,_,h,_,_=>by simp at h
 | _::_,[],_,_,_,_,h,_=>by simp at h
 |p::P,w::vs,0,m,nd,h1,h2,hk=>by
  simp at h1 h2;subst h1;subst h2
  show bindC kindOf ((p,w)::P.zip vs) m p=_;unfold bindC;rw[Gn λv hv=>(List.nodup_cons.mp nd).1 (List.of_mem_zip hv).1,if_neg hk];simp
 |p::P,w::vs,i+1,m,nd,h1,h2,hk=>by
  show bindC kindOf ((p,w)::P.zip vs) m x=_;unfold bindC;exact Gq (i:=i) (List.nodup_cons.mp nd).2 (by simpa using h1) (by simpa using h2) hk
def start(N:List Str)(vs:List V):St:=vs.map some++List.replicate (N.length - vs.length) none
def iI(CX:CXT)(P:Program)(w:World)(K:PySem.W.Frag)(mg:Str->Option Value)(base:Heap)(N:List Str)(qual:Str)(scope:Scope)(f:Addr)(cd:Value)(A:Around)(outer:List Env)(s:Shared)(H:Hp)(E:XK):Cx where
 prog:=P
 w:=w
 K:=K
 mg:=mg
 base:=base
 A:=A.deeper (envOfC qual scope s.heap.objs.size f cd)
 N:=N
 s₀:=s
 H₀:=H
 env:=envOfC qual scope s.heap.objs.size f cd
 outer:=outer
 stack:=envOfC qual scope s.heap.objs.size f cd::outer
 ex:=[]
 calm:=true
 fn:=λ_=>true
 pn:=[]
 xe:=λe s'=>wpAny (model P w) (A.deeper (envOfC qual scope s.heap.objs.size f cd)) (leaving (envOfC qual scope s.heap.objs.size f cd) e) (λ_ s''=>CX outer H s E e s'') (λe' s''=>CX outer H s E e' s'') s'
theorem Gs{sc:Scope}{n:Nat}{x:Str}(h:sc.names.lookup x=some .cell):∃c,(cellsFrom n sc.names []).lookup x=some c:=by
 have q:=PySem.W.cellsFrom_some sc.names n [] (.inl h);exact Option.isSome_iff_exists.mp q
theorem R4{CX:CXT}{P:Program}{w:World}{K:PySem.W.Frag}{mg:Str->Option Value}{base:Heap}{N ps:List Str}{qual:Str}{scope:Scope}{f:Addr}{cd:Value}{A:Around}{outer:List Env}{s s1:Shared}{H:Hp}{E:XK}{us:List Value}{vs:List V}
  (S:bK N ps scope) (hd:A.handled=none) (e0:iH P w K mg base A outer s H) (hl:vs.length=ps.length) (r:aN vs us)
  (x:InCallC s s.heap.objs.size (bindL (envOfC qual scope s.heap.objs.size f cd).kindOf (ps.zip us) λ_=>none) (cellsFrom (s.heap.objs.size+1) scope.names []) (bindC (envOfC qual scope s.heap.objs.size f cd).kindOf (ps.zip us) λ_=>none) s1):
  Inv (iI CX P w K mg base N qual scope f cd A outer s H E) [] (start N vs) H s1:=by
 have hpl:ps.length<=N.length:=by have:=congrArg List.length S.pre;rw[List.length_take] at this;omega
 obtain⟨h1,tk,rfl,hk⟩:=x.done
 have noA:∀b:Addr,b∉(iI CX P w K mg base N qual scope f cd A outer s H E).ex:=λb z=>absurd (show b∈([]:List Addr) from z) (by simp)
 refine⟨⟨e0.mod,S.kind,rfl,rfl,zc _,λy z c h1 h2=>?_,λy hy=>?_,λy c _ h=>?_,λ_=>hd,Around.frames_deeper e0.frames,.inr ⟨rfl,rfl⟩,λb z=>absurd z (noA b),e0.bs,e0.bsz,λb _ _=>noA b,λb z=>absurd z (noA b),e0.funs,e0.frf⟩,
  rfl,e0.bare,Un.kept hk,⟨_,x.toInCall.ns,λi y v h1 h2 h3=>?_⟩,λy c h=>⟨_,x.cell y c h⟩,e0.hok.fresh (zc _),λy c h=>?_,λp hp=>absurd (show p∈([]:List (Addr×Obj)) from hp) (by simp),e0.hok.kept hk,?_⟩
 ·exact name_of_addr x.apart (PySem.mem_of_lookup h1) (PySem.mem_of_lookup h2)
 ·have hy:scope.names.lookup y=some .cell\/scope.names.lookup y=some .free:=hy
  rcases hy with hy | hy
  ·exact Gs hy
  ·exact absurd rfl (S.nofree _ (PySem.mem_of_lookup hy))
 ·exact Nat.le_of_lt (x.above y c (PySem.mem_of_lookup h))
 ·have hi:i<vs.length:=by
   unfold start at h2
   by_cases hi:i<vs.length
   ·exact hi
   ·rw[zI (by simpa using hi)] at h2;rw[List.getElem?_replicate] at h2
    split at h2<;>cases h2
  have ha:vs[i]?=some v:=by
   unfold start at h2;rw[zD (by simpa using hi),zw] at h2
   cases e:vs[i]? with
   |none=>rw[e] at h2;cases h2
   |some a=>rw[e] at h2;cases h2;rfl
  obtain⟨u,hu,rv⟩:=r.get ha
  have hp:ps[i]?=some y:=by
   rw[<-S.pre,List.getElem?_take_of_lt (by omega)];exact h1
  have ndP:ps.Nodup:=by rw[<-S.pre];exact S.nd.sublist (List.take_sublist _ _)
  refine⟨u,rv,?_⟩
  rcases S.par y (zM hp) with k | k
  ·exact .inl ⟨k,Gp ndP hp hu k⟩
  ·obtain⟨c,e⟩:=Gs (n:=s.heap.objs.size+1) k;refine .inr ⟨.inl k,c,e,?_⟩;have q:=x.cell y c e;rw[Gq ndP hp hu (by show scope.names.lookup y≠_;rw[k];decide)] at q;exact q
 ·exact e0.hok.fresh (Nat.le_of_lt (x.above y c (PySem.mem_of_lookup h)))
 ·unfold start;show _=N.length;rw[zz,zf,List.length_replicate];omega
theorem R5{CX:CXT}{P:Program}{w:World}{K:PySem.W.Frag}{mg:Str->Option Value}{base:Heap}{k:Nat}{f:Addr}{name qual:Str}{params:Arguments}{body:List Stmt}{scope:Scope}{dV kV doc pm cdv ct oc:Value}{an od:Option Addr}
  {osl:Array (Option Value)}{N ps:List Str}{sp:Sp} (lk:K.lookup f=some ⟨oc,od,.func (PySem.W.fnOf name qual params body scope dV kV doc pm an cdv ct),osl⟩) (hcd:PySem.W.codeIn K cdv qual=true) (S:bK N ps scope)
  (len:∀vs H Q E,sp vs H Q E->vs.length=ps.length)
  (hbody:∀(A:Around) (outer:List Env) (s:Shared) (H:Hp) (vs:List V) (Q:VK) (E:XK),bw k (A.deeper (envOfC qual scope s.heap.objs.size f cdv))->sp vs H Q E ->
   ∃t,PSs (iI CX P w K mg base N qual scope f cdv A outer s H E) body t/\t {nx:=λ_ H'=>Q .non H',rt:=Q} (start N vs) H):
  dg P w K mg base CX (k+1) f (PySem.W.fnOf name qual params body scope dV kV doc pm an cdv ct) ps sp:=by
 refine⟨len,λA outer s H args us vs Q E hr e0 hb r hsp=>?_⟩;have hl:=len _ _ _ _ hsp
 have KX:K.In s.heap:=e0.mod.kin.keeps λb o e=>(e0.bs b o e).1
 have lim:s.heap.NoLimit:=e0.mod.nolimit.keeps λb o e=>(e0.bs b o e).1
 have hkind:∀y∈ps.zip us,scope.names.lookup y.1=some .local\/(scope.names.lookup y.1=some .cell/\((cellsFrom (s.heap.objs.size+1) scope.names []).lookup y.1).isSome=true):=λ⟨n,v⟩ hy=>by
  rcases S.par n (List.of_mem_zip hy).1 with q | q
  ·exact .inl q
  ·exact .inr ⟨q,PySem.W.cellsFrom_some _ _ _ (.inl q)⟩
 refine codeAny_call_function hr.depth (KX _ _ lk) rfl S.co S.gen rfl (PySem.W.codeRec_of KX hcd) (hb _ _ _ _ ?_)
 refine wpAny_newFunctionEnv_cells S.kind hkind λenv he s1 x=>?_
 subst he;refine⟨lim.keeps x.toInCall.keep,codeAny_func ?_⟩;obtain⟨t,ht,hq⟩:=hbody A outer s H vs Q E (hr.deeper _) hsp;have I:Inv (iI CX P w K mg base N qual scope f cdv A outer s H E) [] (start N vs) H s1:=R4 S hr.hd e0 hl r x
 refine zL (ht [] s1 (start N vs) H _ I hq) (λfl s' hs=>?_) λe s' hs=>hs
 have fin:∀{σ':St}{H':Hp}{v:V}{u:Value},Inv (iI CX P w K mg base N qual scope f cdv A outer s H E) [] σ' H' s'->RelV v u->Q v H'->CE outer P w H s Q u s' :=
  λ{σ' H' v u} J rv q=>⟨v,H',J.os,J.bare,J.base,J.hok,rv,q⟩
 cases fl with
 |ret u =>
  obtain⟨v,σ',H',J,rv,q⟩:=hs;exact fin J rv q
 |next =>
  obtain⟨σ',H',J,q⟩:=hs;exact fin (v:=V.non) (u:=Value.none) J rfl q
 |brk =>
  obtain⟨_,_,_,q⟩:=hs;exact False.elim q
 |cont =>
  obtain⟨_,_,_,q⟩:=hs;exact False.elim q
section
variable {X:Cx}{x:Str}{p pos:Pos}{e:Expr}{es:List Expr}{t:TA}{id T:String}{r:List V->Hp->VK->Prop}
def tCB(r:List V->Hp->VK->Prop)(t:TA):TE:=λσ H Q=>t σ H λvs H1=>r vs H1 Q
theorem Gu(hc:iG X (.builtin id) r)(hg:Gl X x)(hm:X.mg x=none)(hv:bootBuiltins x=some (.builtin id))(ha:PA X (e::es) t)(hn:x≠"__name__":=by decide)(hdb:(x == ("__debug__":Str))=false:=by decide)
  (he:starEach (e::es) X.env=(false,eval e X.env)::starEach es X.env:=by rfl) (hpl:(backTo pos (starEach es X.env)).any (·.1)=false:=by rfl):PE X (.Call (.Name x p) (e::es) [] pos) (tCB r t):=by
 intro pins s σ H Q I h;refine wpAny_Call_Name_kw (jx I hg hm hv ?_ hn hdb);exact PyProof.Rows.callWith_builtin1 (thn (ha pos pins s σ H _ I h) λus s1 ⟨vs,H1,I1,r1,q1⟩=>hc pins s1 σ H1 vs us Q I1 r1 q1) he hpl
theorem R6(hc:iG X (.type T) r)(hg:Gl X x)(hm:X.mg x=none)(hv:bootBuiltins x=some (.type T))(ha:PA X (e::es) t)(hn:x≠"__name__":=by decide)(hdb:(x == ("__debug__":Str))=false:=by decide)
  (he:starEach (e::es) X.env=(false,eval e X.env)::starEach es X.env:=by rfl) (hpl:(backTo pos (starEach es X.env)).any (·.1)=false:=by rfl):PE X (.Call (.Name x p) (e::es) [] pos) (tCB r t):=by
 intro pins s σ H Q I h;refine wpAny_Call_Name_kw (jx I hg hm hv ?_ hn hdb);exact PyProof.Rows.callWith_type1 (thn (ha pos pins s σ H _ I h) λus s1 ⟨vs,H1,I1,r1,q1⟩=>hc pins s1 σ H1 vs us Q I1 r1 q1) he hpl
end
end L2
namespace HT
open PySem PyProof.Rows
section
open PySem.SeqAt
open PySem.AutoSeq1 (wpAny_loadPart')
open PySem.MeetsSeq PySem.MeetsSeq2 PySem.MeetsSeq3
end
section
variable {prog:Program}{w:World}{A:Around}{E:Value->Shared->Prop}{s:Shared}
theorem cat_tup{t b:Addr}{vs ws:List Value}{Q:Value->Shared->Prop}(ht:IsTup s.heap t vs.toArray)(hb:IsTup s.heap b ws.toArray)(hv:vs≠[])
  (h1:ws=[]->Q (.ref t) s) (h2:ws≠[]->Q (.ref s.heap.objs.size) {s with heap:=s.heap.push {cls:=.type "tuple",data:=.seq (vs++ws).toArray}})
  (hsz:vs.length+ws.length<=sizeLine):wpAny (model prog w) A (binaryOp .Add (.ref t) (.ref b)) Q E s:=by
 obtain⟨⟨cls,dd,data,sl⟩,ho,hc,n,hd⟩:=id ht;obtain⟨⟨cls2,dd2,data2,sl2⟩,ho2,hc2,n2,hd2⟩:=id hb;simp only at hc hd hc2 hd2;subst hc hd hc2 hd2
 have e:vs.toArray++ws.toArray=(vs++ws).toArray:=by simp
 by_cases hw:ws=[]
 ·exact concat_meets ⟨_,ho,rfl⟩ ⟨_,ho2,rfl⟩ noFill_tuple_add seq_tuple_add PySem.F.slot_tuple_add PySem.F.entry_tuple_add (PySem.F.args_tuple_add_2 _ _)
   (tuple_addW1 t b vs.toArray ws.toArray n n2 dd dd2 sl sl2 (by simpa using hv) (by simp[hw])) ⟨ho,ho2,h1 hw⟩
 ·refine concat_meets ⟨_,ho,rfl⟩ ⟨_,ho2,rfl⟩ noFill_tuple_add seq_tuple_add PySem.F.slot_tuple_add PySem.F.entry_tuple_add (PySem.F.args_tuple_add_2 _ _)
   (tuple_addW2 t b vs.toArray ws.toArray n n2 dd dd2 sl sl2 (by simpa using hv) (by simpa using hw) (by rw[zq,zq];exact hsz)) ⟨ho,ho2,?_⟩
  rw[e];exact h2 hw
def sIx(n d:Nat):Option Int->Nat
 |none=>d
 |some v=>if v<0 then(v+(n:Int)).toNat else min v.toNat n
theorem sIx_nat(n d k:Nat):sIx n d (some (k:Int))=min k n:=by
 show(if(k:Int)<0 then((k:Int)+(n:Int)).toNat else min (k:Int).toNat n)=min k n;rw[if_neg (by omega),Int.toNat_natCast]
theorem sIx_le(n d:Nat)(hd:d<=n)(o:Option Int):sIx n d o<=n:=by
 cases o with
 |none=>exact hd
 |some v =>
  show(if v<0 then(v+(n:Int)).toNat else min v.toNat n)<=n
  by_cases hv:v<0
  ·rw[if_pos hv];omega
  ·rw[if_neg hv];exact Nat.min_le_right _ _
theorem Gv(v:Int)(n d:Nat):(if v<0 then max (v+(n:Int)) 0 else min v (n:Int))=((sIx n d (some v):Nat):Int):=by
 show(if v<0 then max (v+(n:Int)) 0 else min v (n:Int))=(((if v<0 then(v+(n:Int)).toNat else min v.toNat n):Nat):Int)
 by_cases hv:v<0
 ·simp only[if_pos hv];omega
 ·simp only[if_neg hv];omega
theorem R7(lo hi:Option Int)(n:Nat):Builtin.Slice.sliceAdjust lo hi 1 (n:Int)=(((sIx n 0 lo:Nat):Int),((sIx n n hi:Nat):Int)):=by
 have h1:¬((1:Int)<0):=by omega
 unfold Builtin.Slice.sliceAdjust;simp only[h1,if_false];refine Prod.ext ?_ ?_
 ·cases lo with
  |none=>rfl
  |some v=>exact Gv v n 0
 ·cases hi with
  |none=>rfl
  |some v=>exact Gv v n n
theorem R8(i j:Nat):Builtin.Slice.slicePlaces (i:Int) (j:Int) 1=j - i:=by
 unfold Builtin.Slice.slicePlaces
 have h1:(1:Int)>0:=by omega
 simp only[h1,if_true,Int.ediv_one]
 split<;>omega
theorem Gw{v:Value}{o:Option Int}{Q:Option Int->Shared->Prop}(p:IsPart v o)(h:Q o s):wpAny (model prog w) A (Builtin.Slice.slicePartIndex v) Q E s:=by
 cases p with
 |none=>exact slicePart_none h
 |int i t=>exact slicePart_int h
theorem sliceApplied_gen{sl:Addr}{vl vu:Value}{lo hi:Option Int}{n:Nat}{Q:Int×Int×Nat->Shared->Prop}(hs:s.heap.IsSliceOf sl vl vu .none)(pl:IsPart vl lo)(pu:IsPart vu hi)
  (h:Q (((sIx n 0 lo:Nat):Int),1,sIx n n hi - sIx n 0 lo) s):wpAny (model prog w) A (Builtin.Slice.sliceApplied (.ref sl) (pure (n:Int))) Q E s:=by
 obtain⟨os,hos,hcs,hds⟩:=id hs;unfold Builtin.Slice.sliceApplied Builtin.Slice.sliceFields;refine za (za (wpAny_field hos hds (x:=vl) rfl (za (wpAny_field hos hds (x:=vu) rfl (za (wpAny_field hos hds (x:=.none) rfl (zb ?_)))))));refine za (slicePart_none ?_);show wpAny _ _ (if((1:Int) == 0)=true then _ else _) _ _ s;rw[if_neg (by decide)];refine za (Gw pl (za (Gw pu (za (zb ?_)))));show wpAny _ _ (match Builtin.Slice.sliceAdjust lo hi 1 (n:Int) with | (lo,hi)=>pure (lo,(1:Int),Builtin.Slice.slicePlaces lo hi 1)) _ _ s;rw[R7 lo hi n];show wpAny _ _ (pure (((sIx n 0 lo:Nat):Int),(1:Int),Builtin.Slice.slicePlaces ((sIx n 0 lo:Nat):Int) ((sIx n n hi:Nat):Int) 1)) _ _ s
 rw[R8];exact zb h
theorem R9(xs:Array Value)(i k:Nat):((List.range k).filterMap λ(m:Nat)=>xs[((i:Int)+(m:Int) * 1).toNat]?).toArray=((xs.toList.drop i).take k).toArray:=by
 have e:(λ(m:Nat)=>xs[((i:Int)+(m:Int) * 1).toNat]?)=λm=>xs[i+m]?:=by
  funext m
  have:((i:Int)+(m:Int) * 1).toNat=i+m:=by omega
  rw[this]
 rw[e]
 have:=pick_run xs i k
 rw[List.filterMap_map] at this
 have e2:((λx=>xs[x]?) ∘ λx=>i+x)=λm=>xs[i+m]?:=rfl
 rw[e2] at this;rw[this]
theorem getItem_tuple_cut{t sl:Addr}{items:Array Value}{vl vu:Value}{lo hi:Option Int}{Q:Value->Shared->Prop}(ht:IsTup s.heap t items)(hs:s.heap.IsSliceOf sl vl vu .none)(pl:IsPart vl lo)(pu:IsPart vu hi)
  (hw:¬(sIx items.size 0 lo=0/\sIx items.size items.size hi=items.size))
  (h:Q (.ref s.heap.objs.size) {s with heap:=s.heap.push {cls:=.type "tuple",data:=.seq ((items.toList.drop (sIx items.size 0 lo)).take (sIx items.size items.size hi - sIx items.size 0 lo)).toArray}})
  (hsz:items.size<=sizeLine):wpAny (model prog w) A (getItem (.ref t) (.ref sl)) Q E s:=by
 have htake:sizeOk (.seq ((items.toList.drop (sIx items.size 0 lo)).take (sIx items.size items.size hi - sIx items.size 0 lo)).toArray):=by
  show((items.toList.drop (sIx items.size 0 lo)).take (sIx items.size items.size hi - sIx items.size 0 lo)).toArray.size<=sizeLine;rw[zq,List.length_take,List.length_drop,Array.length_toList];omega
 have hj:sIx items.size items.size hi<=items.size:=sIx_le _ _ (zc _) hi;obtain⟨os,hos,hcs,hds⟩:=id hs;have hTs:s.TypeIs (.ref sl) "slice":=⟨os,hos,hcs⟩;unfold getItem
 try with_reducible refine zT ?_
 first | refine za (zb ?_) | skip
 refine za (wpAny_sequenceKey ht.typeIs (by decide) ?_)
 refine za (wpAny_callSpecial?_slot (name:=Str.ofString "__getitem__") ht.typeIs PyProof.Rows.slot_tuple_getitem
  (wpAny_call_entry PyProof.Rows.slot_tuple_getitem ht.typeIs entry_tuple_getitem ?_ (args_tuple_getitem _ _)))
 show wpAny _ _ (Builtin.Tuple.tupleItemsOf (.ref t) >>= _) _ _ s;refine za (tupleItemsOf_ ht ?_);refine za (wpAny_typeOf hTs ?_);rw[if_pos (by decide)];refine za (sliceApplied_gen hs pl pu ?_)
 have hno:¬((((sIx items.size 0 lo:Nat):Int) == 0&&(1:Int) == 1&&(sIx items.size items.size hi - sIx items.size 0 lo) == items.size)=true):=by
  intro q;rw[zo,zo] at q;have q1:((sIx items.size 0 lo:Nat):Int)=0:=eq_of_beq q.1.1;have q2:sIx items.size items.size hi - sIx items.size 0 lo=items.size:=eq_of_beq q.2;exact hw ⟨by omega,by omega⟩
 show wpAny _ _ (if(((sIx items.size 0 lo:Nat):Int) == 0&&(1:Int) == 1&&(sIx items.size items.size hi - sIx items.size 0 lo) == items.size)=true then _ else _) _ _ s;rw[if_neg hno,R9]
 first
  | exact za (m:=Builtin.Tuple.tupleExact _) (wpAny_newObj_type (zb ⟨_,rfl,zb h⟩) htake)
  | exact za (m:=Builtin.Tuple.tupleExact _) (wpAny_newObj_type (za (zb (zb ⟨_,rfl,zb h⟩))) htake)
  | exact za (za (m:=Builtin.Tuple.tupleExact _) (wpAny_newObj_type (zb (zb ⟨_,rfl,zb h⟩)) htake))
  | exact za (za (m:=Builtin.Tuple.tupleExact _) (wpAny_newObj_type (zb ⟨_,rfl,zb h⟩) htake))
end
end HT
namespace L2
open PySem PySem.Spec PyProof.Rows
abbrev TO:=St->Hp->(Option Int->Hp->Prop)->Prop
def PO(X:Cx)(e:Option Expr)(t:TO):Prop :=
 ∀(pins:List (Addr×Obj)) (s:Shared) (σ:St) (H:Hp) (Q:Option Int->Hp->Prop),Inv X pins σ H s->t σ H Q ->
  wpAny (model X.prog X.w) X.A (evalPart e X.env) (λu s'=>∃o H',Inv X pins σ H' s'/\IsPart u o/\Q o H') X.xe s
def Sd:TO:=λ_ H Q=>Q none H
def Sg(t:TE):TO:=λσ H Q=>t σ H λx H1=>∃i,x=.int i/\Q (some i) H1
section
variable {X:Cx}{e:Expr}{te:TE}{lo hi:Option Expr}{tl th:TO}{pos p2:Pos}
theorem Sh:PO X none Sd:=by
 intro pins s σ H Q I h;rw[evalPart_none];exact zb ⟨none,H,I,.none,h⟩
theorem Sq(h:PE X e te):PO X (some e) (Sg te):=by
 intro pins s σ H Q I hw;rw[evalPart_some]
 refine thn (h pins s σ H _ I hw) λu s1 ⟨x,H1,I1,r1,q1⟩=>?_
 obtain⟨i,rfl,q⟩:=q1;obtain⟨t,rfl⟩:=r1;exact⟨some i,H1,I1,.int i t,q⟩
def SlR(X:Cx)(r:V->Option Int->Option Int->Hp->VK->Prop):Prop :=
 ∀(pins:List (Addr×Obj)) (s:Shared) (σ:St) (H:Hp) (x:V) (v vl vu:Value) (lo hi:Option Int) (sl:Addr) (Q:VK),Inv X pins σ H s->RelV x v->s.heap.IsSliceOf sl vl vu .none->IsPart vl lo->IsPart vu hi->r x lo hi H Q ->
  ∃T id,typeLookup (.type T) "__getitem__" = pure (some (.builtin id))/\s.TypeIs v T/\wpAny (model X.prog X.w) X.A (getItem v (.ref sl)) (EP X pins σ Q) X.xe s
def tSl(r:V->Option Int->Option Int->Hp->VK->Prop)(te:TE)(tl th:TO):TE:=λσ H Q=>te σ H λx H1=>tl σ H1 λl H2=>th σ H2 λu H3=>r x l u H3 Q
theorem Ss{r:V->Option Int->Option Int->Hp->VK->Prop}(hr:SlR X r)(he:PE X e te)(hl:PO X lo tl)(hu:PO X hi th):PE X (.Subscript e (.Slice lo hi none p2) pos) (tSl r te tl th):=by
 intro pins s σ H Q I h;refine Subscript_ (thn (he pins s σ H _ I h) λv s1 ⟨x,H1,I1,r1,q1⟩=>?_);refine wpAny_Slice (thn (hl pins s1 σ H1 _ I1 q1) λvl s2 ⟨l,H2,I2,pl,q2⟩=>thn (hu pins s2 σ H2 _ I2 q2) λvu s3 ⟨u,H3,I3,pu,q3⟩=>?_);rw[evalPart_none];refine zb ?_
 have I4:Inv X pins σ H3 {s3 with heap:=s3.heap.push {cls:=.type "slice",data:=.fields #[vl,vu,.none]}}:=I3.kept (t':=s3.toks) λb ob q=>zm _ q
 obtain⟨T,id,hT,ht,hg⟩:=hr pins {s3 with heap:=s3.heap.push {cls:=.type "slice",data:=.fields #[vl,vu,.none]}} σ H3 x v vl vu l u s3.heap.objs.size Q I4 r1 (Heap.IsSliceOf.new ..) pl pu q3;show wpAny (model X.prog X.w) X.A (subscriptTail e (.Slice lo hi none p2) v (.ref s3.heap.objs.size)) (EP X pins σ Q) X.xe {s3 with heap:=s3.heap.push {cls:=.type "slice",data:=.fields #[vl,vu,.none]}};exact tail_any (ops:=[.ref s3.heap.objs.size,v]) ht hT hg (by with_unfolding_all rfl)
def jR(xs:List V)(lo hi:Option Int):List V:=(xs.drop (HT.sIx xs.length 0 lo)).take (HT.sIx xs.length xs.length hi - HT.sIx xs.length 0 lo)
theorem Gx(xs:List V)(lo hi:Option Int):(jR xs lo hi).length<=xs.length:=by
 unfold jR;rw[List.length_take,List.length_drop];omega
def Su(K:PySem.W.Frag):V->Option Int->Option Int->Hp->VK->Prop:=λx lo hi H Q=>∃a xs,x=.ref a/\SqT K H a xs /\
 ¬(HT.sIx xs.length 0 lo=0/\HT.sIx xs.length xs.length hi=xs.length)/\∀p,H p=none->Q (.ref p) (upd H p (.tup (jR xs lo hi)))
theorem Sw:SlR X (Su X.K):=by
 intro pins s σ H x v vl vu lo hi sl Q I rx hs pl pu h;obtain⟨a,xs,rfl,hx,hw,q⟩:=h;cases rx;obtain⟨its,r,ht,hz⟩:=I.tuple hx
 have hlen:its.toArray.size=xs.length:=by rw[zq];exact r.length.symm
 refine⟨"tuple",_,PyProof.Rows.slot_tuple_getitem.lookup,ht.typeIs,?_⟩;refine HT.getItem_tuple_cut ht hs pl pu (by rw[hlen];exact hw) ?_ (by rw[hlen];exact hz);rw[hlen];refine⟨.ref s.heap.objs.size,_,I.laid (t':=s.toks) (o:=.tup (jR xs lo hi)) (λb ob q=>zm _ q) (zc _) ?_,rfl,q _ (I.hok.fresh (zc _))⟩;exact⟨zG (Gx xs lo hi) hz,_,(r.drop (HT.sIx xs.length 0 lo)).take (HT.sIx xs.length xs.length hi - HT.sIx xs.length 0 lo),IsTup.new _ _⟩
def Sx(K:PySem.W.Frag):R2:=λx y H Q=>∃a b xs ys,x=.ref a/\y=.ref b/\SqT K H a xs/\SqT K H b ys/\xs≠[]/\xs.length+ys.length<=sizeLine /\
 (ys=[]->Q (.ref a) H)/\(ys≠[]->∀p,H p=none->Q (.ref p) (upd H p (.tup (xs++ys))))
theorem aN.nil_iff{xs:List V}{us:List Value}(r:aN xs us):us=[]↔xs=[]:=by
 cases r with
 |nil=>simp
 |cons _ _=>simp
theorem Sy:OpR X (binaryOp .Add) (Sx X.K):=by
 intro pins s σ H x y v u Q I rx ry h;obtain⟨a,b,xs,ys,rfl,rfl,ha,hb,hx,hz,q1,q2⟩:=h;cases rx;cases ry;obtain⟨its,r1,p1,_⟩:=I.tuple ha;obtain⟨its2,r2,p2,_⟩:=I.tuple hb;refine HT.cat_tup p1 p2 (λz=>hx (r1.nil_iff.mp z)) (λz=>⟨.ref a,H,I,rfl,q1 (r2.nil_iff.mp z)⟩) (λz=>?_) (by rw[<-r1.length,<-r2.length];exact hz);refine⟨.ref s.heap.objs.size,_,I.laid (t':=s.toks) (o:=.tup (xs++ys)) (λb ob q=>zm _ q) (zc _) ?_,rfl,q2 (λw=>z (r2.nil_iff.mpr w)) _ (I.hok.fresh (zc _))⟩;exact⟨by rw[zz];exact hz,_,r1.append r2,IsTup.new _ _⟩
end
def ixN(n:Nat)(i:Int):Option Nat:=if 0<=i then(if i<n then some i.toNat else none) else if -(n:Int)<=i then some (i+n).toNat else none
def atI{α:Type}(xs:List α)(i:Int):Option α:=(ixN xs.length i).bind λj=>xs[j]?
theorem SJ{n:Nat}{i:Int}{j:Nat}(h:ixN n i=some j):seqIndex? i n=some j/\j<n/\-(n:Int)<=i/\i<n:=by
 unfold ixN at h
 by_cases h0:0<=i
 ·rw[if_pos h0] at h
  by_cases h1:i<n
  ·rw[if_pos h1] at h;have e:i.toNat=j:=zt h;exact⟨by rw[seqIndex_of h0 h1,e],by omega,by omega,h1⟩
  ·rw[if_neg h1] at h;cases h
 ·rw[if_neg h0] at h
  by_cases h1:-(n:Int)<=i
  ·rw[if_pos h1] at h;have e:(i+n).toNat=j:=zt h;exact⟨by rw[seqIndex_neg (by omega) h1,e],by omega,h1,by omega⟩
  ·rw[if_neg h1] at h;cases h
theorem xf{α:Type}{xs:List α}{i:Int}{v:α}(h:atI xs i=some v):∃j,seqIndex? i xs.length=some j/\xs[j]?=some v/\j<xs.length/\-(xs.length:Int)<=i/\i<xs.length:=by
 unfold atI at h
 cases e:ixN xs.length i with
 |none=>rw[e] at h;cases h
 |some j =>
  rw[e] at h;obtain⟨h1,h2,h3,h4⟩:=SJ e;exact⟨j,h1,h,h2,h3,h4⟩
def qx(b:Expr):Prop:=∀o i,subscripted b false o i=operate [o,i] (getItem o i)
def IxR(X:Cx)(r:R2):Prop :=
 ∀(value slice:Expr) (pins:List (Addr×Obj)) (s:Shared) (σ:St) (H:Hp) (x y:V) (v u:Value) (Q:VK),Inv X pins σ H s->RelV x v->RelV y u->r x y H Q ->
  subscripted slice false v u=operate [v,u] (getItem v u)->wpAny (model X.prog X.w) X.A (subscriptTail value slice v u) (EP X pins σ Q) X.xe s
def MtR(X:Cx)(id:String)(r:V->List V->Hp->VK->Prop):Prop :=
 ∀(pins:List (Addr×Obj)) (s:Shared) (σ:St) (H:Hp) (x:V) (xs:List V) (v:Value) (us:List Value) (Q:VK),Inv X pins σ H s->RelV x v->aN xs us->r x xs H Q ->
  wpAny (model X.prog X.w) X.A (call (.builtin id) (v::us)) (EP X pins σ Q) X.xe s
section
variable {X:Cx}{a b:Expr}{ta tb:TE}{pos:Pos}
theorem SM{r:R2}(hr:IxR X r)(ha:PE X a ta)(hb:PE X b tb)(hs:qx b):PE X (.Subscript a b pos) (tOp r ta tb):=by
 intro pins s σ H Q I h;exact Subscript_ (wO ha hb I h λv u s2 x y H2 I2 rx ry q=>hr a b pins s2 σ H2 x y v u Q I2 rx ry q (hs _ _))
def SN(K:PySem.W.Frag):R2:=λx y H Q=>∃p xs i v,x=.ref p/\y=.int i/\SqL K H p xs/\atI xs i=some v/\Q v H
def SQ(K:PySem.W.Frag):R2:=λx y H Q=>∃p xs i v,x=.ref p/\y=.int i/\SqT K H p xs/\atI xs i=some v/\Q v H
def SX:R2:=λx y H Q=>∃z i c,x=.str z/\y=.int i/\z.length<=sizeLine/\atI z.cps.toList i=some c/\Q (.str ⟨#[c]⟩) H
theorem S8:IxR X (SN X.K):=by
 intro value slice pins s σ H x y v u Q I rx ry h hs;obtain⟨p,xs,i,z,rfl,rfl,hq,he,q⟩:=h;cases rx;obtain⟨t,rfl⟩:=ry;obtain⟨its,r,pl,hz⟩:=I.list hq;obtain⟨j,h1,h2,h3,h4,h5⟩:=xf he;obtain⟨w,ew,rw'⟩:=r.get h2;have hl:=r.length;have hn:=qm;have fin:EP X pins σ Q w s:=⟨z,H,I,rw',q⟩
 by_cases h0:0<=i
 ·have hj:i.toNat=j:=by
   rw[seqIndex_of h0 h5] at h1;exact zt h1
  exact item_listR pl.isList h0 (by omega) (by rw[hj];simpa using ew) fin hs
 ·have hj:(i+(its.toArray.size:Int)).toNat=j:=by
   rw[seqIndex_neg (by omega) h4] at h1;rw[zq,<-hl];exact zt h1
  exact subscriptTail_builtinR (x:=w) pl.isList.typeIs slot_list_getitem.lookup
   (wpAny_getItem_list_neg (Q:=λr s'=>r=w/\EP X pins σ Q r s') pl.isList (by omega) (by rw[zq]<;>omega) (by omega) (by rw[hj];simpa using ew) ⟨rfl,fin⟩) hs
theorem S9:IxR X (SQ X.K):=by
 intro value slice pins s σ H x y v u Q I rx ry h hs;obtain⟨p,xs,i,z,rfl,rfl,hq,he,q⟩:=h;cases rx;obtain⟨t,rfl⟩:=ry;obtain⟨its,r,pl,hz⟩:=I.tuple hq;obtain⟨j,h1,h2,h3,h4,h5⟩:=xf he;obtain⟨w,ew,rw'⟩:=r.get h2;have hl:=r.length;have hn:=qm;have fin:EP X pins σ Q w s:=⟨z,H,I,rw',q⟩;exact subscriptTail_builtinR (x:=w) pl.typeIs slot_tuple_getitem.lookup
  (getItem_tuple (j:=j) (Q:=λr s'=>r=w/\EP X pins σ Q r s') pl (by omega) (by omega) (by rw[zq,<-hl];exact h1) (by simpa using ew) ⟨rfl,fin⟩) hs
theorem Tc:IxR X SX:=by
 intro value slice pins s σ H x y v u Q I rx ry h hs;obtain⟨z,i,c,rfl,rfl,hz,he,q⟩:=h;obtain⟨t,rfl⟩:=rx;obtain⟨t',rfl⟩:=ry;obtain⟨j,h1,h2,h3,h4,h5⟩:=xf he
 have hl:z.cps.toList.length=z.length:=by simp[Str.length]
 rw[hl] at h1 h4 h5;have hn:=qm
 exact tail_any (typeIs_str s z t) slot_str_getitem.lookup (getItem_str (c:=c) (by
  have e1:decide (i < -(2 ^ 63:Int))=false:=zg (by omega);have e2:decide (i>=2 ^ 63)=false:=zg (by omega)
  rw[e1,e2,Bool.or_false]) (by rw[h1];simpa using h2) ⟨.str ⟨#[c]⟩,H,I.tok _,⟨_,rfl⟩,q⟩) hs
theorem Inv.lst{pins:List (Addr×Obj)}{σ:St}{H:Hp}{s:Shared}{p:Addr}{xs:List V}(I:Inv X pins σ H s)(h:H p=some (.lst xs)):
  ∃(its:List Value) (n:Nat),aN xs its/\s.heap.get? p=some {cls:=.type "list",data:=.seq its.toArray n}/\xs.length<=sizeLine:=by
 obtain⟨z,its,n,r,e⟩:=I.hok p _ h;exact⟨its,n,r,e,z⟩
theorem Gy(lo hi:Option Int)(n:Nat):(sliceBounds lo hi none n).1=((HT.sIx n 0 lo:Nat):Int)/\(sliceBounds lo hi none n).2.1=((HT.sIx n n hi:Nat):Int)/\(sliceBounds lo hi none n).2.2=1:=by
 refine⟨?_,?_,rfl⟩
 ·cases lo with
  |none=>simp[sliceBounds,HT.sIx]
  |some i =>
   simp only[sliceBounds,HT.sIx,Option.getD_none,show(1:Int)>0 by decide,if_true]
   by_cases h:i<0
   ·simp only[h,if_true]<;>omega
   ·simp only[h,if_false]<;>omega
 ·cases hi with
  |none=>simp[sliceBounds,HT.sIx]
  |some i =>
   simp only[sliceBounds,HT.sIx,Option.getD_none,show(1:Int)>0 by decide,if_true]
   by_cases h:i<0
   ·simp only[h,if_true]<;>omega
   ·simp only[h,if_false]<;>omega
theorem Td(its:List Value)(lo hi:Option Int):slicePick its.toArray lo hi none=((its.drop (HT.sIx its.length 0 lo)).take (HT.sIx its.length its.length hi - HT.sIx its.length 0 lo)).toArray:=by
 obtain⟨h1,h2,h3⟩:=Gy lo hi its.toArray.size;unfold slicePick;rw[h1,h2,h3]
 simp only[sliceRange_one,pick_run,zq]<;>rfl
def Te(K:PySem.W.Frag):V->Option Int->Option Int->Hp->VK->Prop:=λx lo hi H Q=>∃a xs,x=.ref a/\SqL K H a xs/\∀p,H p=none->Q (.ref p) (upd H p (.lst (jR xs lo hi)))
theorem Tf:SlR X (Te X.K):=by
 intro pins s σ H x v vl vu lo hi sl Q I rx hs pl pu h;obtain⟨a,xs,rfl,hx,q⟩:=h;cases rx;obtain⟨its,r,ht,hz⟩:=I.list hx;have hlen:=r.length;refine⟨"list",_,slot_list_getitem.lookup,ht.isList.typeIs,?_⟩;refine wpAny_getItem_list_slice ht.isList hs pl pu .none (by simp) ?_ (by rw[zq]<;>omega);rw[Td,<-hlen];refine⟨.ref s.heap.objs.size,_,I.laid (t':=s.toks) (o:=.lst (jR xs lo hi)) (λb ob q=>zm _ q) (zc _) ?_,rfl,q _ (I.hok.fresh (zc _))⟩;exact⟨zG (Gx xs lo hi) hz,_,0,(r.drop (HT.sIx xs.length 0 lo)).take (HT.sIx xs.length xs.length hi - HT.sIx xs.length 0 lo),zy _ rfl⟩
def jy:V->Bool
 | .non=>true
 | .bl _=>true
 | .int _=>true
 | .str _=>true
 | _=>false
def eqV:V->V->Bool
 | .non,.non=>true
 | .bl a,.bl b=>a == b
 | .bl a,.int b=>(if a then 1 else 0) == b
 | .int a,.bl b=>a == (if b then 1 else 0)
 | .int a,.int b=>a == b
 | .str a,.str b=>a == b
 | _,_=>false
theorem Tg{A:Around}{s:Shared}{y x:V}{u v:Value}(ry:RelV y u)(rx:RelV x v)(fy:jy y=true)(fx:jy x=true):SeqAt.EqAt A s u v (eqV y x):=by
 cases y with
 |non =>
  cases ry
  cases x with
  |non=>cases rx;exact SeqAt.EqAt.same _
  |bl b=>cases rx;exact SeqAt.EqAt.none_bool b
  |int b=>obtain⟨t,rfl⟩:=rx;exact SeqAt.EqAt.none_int b t
  |str b=>obtain⟨t,rfl⟩:=rx;exact SeqAt.EqAt.none_str b t
  | _=>exact absurd (show false=true from fx) zh
 |bl a =>
  cases ry
  cases x with
  |non=>cases rx;exact SeqAt.EqAt.bool_none a
  |bl b=>cases rx;exact SeqAt.EqAt.bool_bool a b
  |int b=>obtain⟨t,rfl⟩:=rx;exact SeqAt.EqAt.bool_int a b t
  |str b=>obtain⟨t,rfl⟩:=rx;exact SeqAt.EqAt.bool_str a b t
  | _=>exact absurd (show false=true from fx) zh
 |int a =>
  obtain⟨t',rfl⟩:=ry
  cases x with
  |non=>cases rx;exact SeqAt.EqAt.int_none a t'
  |bl b=>cases rx;exact SeqAt.EqAt.int_bool a t' b
  |int b=>obtain⟨t,rfl⟩:=rx;exact SeqAt.EqAt.int_int a t' b t
  |str b=>obtain⟨t,rfl⟩:=rx;exact SeqAt.EqAt.int_str a t' b t
  | _=>exact absurd (show false=true from fx) zh
 |str a =>
  obtain⟨t',rfl⟩:=ry
  cases x with
  |non=>cases rx;exact SeqAt.EqAt.str_none a t'
  |bl b=>cases rx;exact SeqAt.EqAt.str_bool a t' b
  |int b=>obtain⟨t,rfl⟩:=rx;exact SeqAt.EqAt.str_int a t' b t
  |str b=>obtain⟨t,rfl⟩:=rx;exact SeqAt.EqAt.str_str a t' b t
  | _=>exact absurd (show false=true from fx) zh
 | _=>exact absurd (show false=true from fy) zh
def eqU(x:V)(u:Value):Bool:=match u with
 | .none=>eqV .non x
 | .bool b=>eqV (.bl b) x
 | .int i _=>eqV (.int i) x
 | .str z _=>eqV (.str z) x
 | _=>false
theorem Gz{x y:V}{u:Value}(r:RelV y u)(f:jy y=true):eqU x u=eqV y x:=by
 cases y with
 |non=>cases r;rfl
 |bl b=>cases r;rfl
 |int i=>obtain⟨t,rfl⟩:=r;rfl
 |str z=>obtain⟨t,rfl⟩:=r;rfl
 | _=>exact absurd (show false=true from f) zh
theorem xg{x:V}:∀{xs:List V}{us:List Value},aN xs us->xs.all jy=true->us.any (eqU x)=xs.any λy=>eqV y x
 | _,_,.nil,_=>rfl
 |y::xs,u::us,.cons r t,f=>by
  rw[List.all_cons,zo] at f;rw[List.any_cons,List.any_cons,Gz r f.1,xg t f.2]
theorem xn{A:Around}{s:Shared}{x:V}{v:Value}(rx:RelV x v)(fx:jy x=true):∀{xs:List V}{us:List Value},aN xs us->xs.all jy=true->∀u∈us,SeqAt.EqAt A s u v (eqU x u)
 | _,_,.nil,_=>λu hu=>by cases hu
 |y::xs,u::us,.cons r t,f=>λu' hu=>by
  rw[List.all_cons,zo] at f
  rcases zk.mp hu with rfl | hu
  ·rw[Gz r f.1];exact Tg r rx f.1 fx
  ·exact xn rx fx t f.2 u' hu
def inV(x:V)(xs:List V):Bool:=xs.any λy=>eqV y x
def rIn(K:PySem.W.Frag)(neg:Bool):R2:=λx y H Q=>∃p xs,y=.ref p/\(SqL K H p xs\/SqT K H p xs)/\jy x=true/\xs.all jy=true/\Q (.bl (if neg then !inV x xs else inV x xs)) H
theorem Th:OpR X (compareOp .In) (rIn X.K false):=by
 intro pins s σ H x y v u Q I rx ry h;obtain⟨p,xs,rfl,hq,fx,fs,q⟩:=h;cases ry
 rcases hq with hq | hq
 ·obtain⟨its,r,pl,hz⟩:=I.list hq;refine SeqAt.in_listAt (eqU x) pl.isList (λw hw=>xn rx fx r fs w (by simpa using hw)) ⟨.bl _,H,I,rfl,?_⟩;rw[show its.toArray.any (eqU x)=its.any (eqU x) by simp,xg r fs];exact q
 ·obtain⟨its,r,pl,hz⟩:=I.tuple hq;refine SeqAt.in_tupleAt (eqU x) pl (λw hw=>xn rx fx r fs w (by simpa using hw)) ⟨.bl _,H,I,rfl,?_⟩;rw[show its.toArray.any (eqU x)=its.any (eqU x) by simp,xg r fs];exact q
theorem GC:iG X (.type "list") (λxs H Q=>∃p ys,xs=[.ref p]/\(SqL X.K H p ys\/SqT X.K H p ys)/\∀l,H l=none->Q (.ref l) (upd H l (.lst ys))):=by
 intro pins s σ H xs us Q I r h;obtain⟨p,ys,rfl,hq,q⟩:=h;obtain⟨u,rfl,rx⟩:=vals1 r;cases rx;have fin:∀(its:List Value),aN ys its->ys.length<=sizeLine->∀(h':Heap) (c':Nat),(∀b o',s.heap.get? b=some o'->h'.get? b=some o') ->
   h'.get? s.heap.objs.size=some {cls:=.type "list",dict:=none,data:=.seq its.toArray c',slots:=#[]}->EP X pins σ Q (.ref s.heap.objs.size) {s with heap:=h'}:=λits r' hz h' c' kp e =>
  ⟨.ref s.heap.objs.size,_,I.laid (t':=s.toks) kp (zc _) (show cg X.prog X.w _ h' _ (.lst ys) from⟨hz,its,c',r',e⟩),rfl,q _ (I.hok.fresh (zc _))⟩
 rcases hq with hq | hq
 ·obtain⟨its,r',pl,hz⟩:=I.list hq;have hlen:=r'.length;obtain⟨o,ho,hc,n,hd⟩:=pl.isList;exact call_list_seq p (.inl rfl) ho hc hd (λh' c' kp e=>fin its r' hz h' c' kp e) (by simp only[zq]<;>omega)
 ·obtain⟨its,r',pl,hz⟩:=I.tuple hq;have hlen:=r'.length;obtain⟨o,ho,hc,n,hd⟩:=pl;exact call_list_seq p (.inr rfl) ho hc hd (λh' c' kp e=>fin its r' hz h' c' kp e) (by simp only[zq]<;>omega)
def tyV(K:PySem.W.Frag)(T:String)(x:V)(H:Hp):Prop:=match x with
 | .str _=>T = "str"
 | .int _=>T = "int"
 | .ref p=>(T = "list"/\∃xs,SqL K H p xs)\/(T = "tuple"/\∃o,K.lookup p=some o/\o.cls=.type "tuple"/\o.dict=none) \/
   (T = "dict"/\((∃kvs,H p=some (.dK kvs))\/∃kvs,H p=some (.dT kvs)))\/(T = "set"/\∃S n,H p=some (.set S n))
 | _=>False
theorem GD{pins:List (Addr×Obj)}{σ:St}{H:Hp}{s:Shared}{T:String}{x:V}{v:Value}(I:Inv X pins σ H s)(r:RelV x v)(ty:tyV X.K T x H):
  s.TypeIs v T/\∀a,v=.ref a->∃ob,s.heap.get? a=some ob/\ob.dict=none:=by
 cases x with
 |str z =>
  obtain⟨t,rfl⟩:=r;cases(show T = "str" from ty);exact⟨typeIs_str s z t,λ_ e=>nomatch e⟩
 |int i =>
  obtain⟨t,rfl⟩:=r;cases(show T = "int" from ty);exact⟨typeIs_int s i t,λ_ e=>nomatch e⟩
 |ref p =>
  cases r
  rcases ty with⟨rfl,xs,hq⟩ | ⟨rfl,o,hk,hc,hd⟩ | ⟨rfl,hk⟩ | ⟨rfl,S,n,hk⟩
  ·obtain⟨its,_,pl,_⟩:=I.list hq;refine⟨pl.isList.typeIs,λa e=>?_⟩;cases e;obtain⟨o,n,e,c,hd,_⟩:=pl;exact⟨o,e,hd⟩
  ·refine⟨⟨o,I.kIn p o hk,hc⟩,λa e=>?_⟩;cases e;exact⟨o,I.kIn _ o hk,hd⟩
  ·have z:∃o,s.heap.get? p=some o/\o.ExactDict:=by
    rcases hk with⟨kvs,hk⟩ | ⟨kvs,hk⟩
    ·obtain⟨_,_,_,_,o,_,_,e,ex,_⟩:=I.hok p _ hk;exact⟨o,e,ex⟩
    ·obtain⟨_,_,_,_,o,_,_,e,ex,_⟩:=I.hok p _ hk;exact⟨o,e,ex⟩
   obtain⟨o,e,ex⟩:=z;refine⟨⟨o,e,ex.1⟩,λa e2=>?_⟩;cases e2;exact⟨o,e,ex.2.1⟩
  ·obtain⟨o,_,_,_,e,ex,_⟩:=I.hok p _ hk;refine⟨⟨o,e,ex.1⟩,λa e2=>?_⟩;cases e2;exact⟨o,e,ex.2.1⟩
 | _=>exact False.elim ty
def Ti(K:PySem.W.Frag)(T:String)(r:V->List V->Hp->VK->Prop)(to:TE):TE:=λσ H Q=>to σ H λx H1=>tyV K T x H1/\r x [] H1 Q
def tBM(K:PySem.W.Frag)(T:String)(r:V->List V->Hp->VK->Prop)(to:TE)(t:TA):TE:=λσ H Q=>to σ H λx H1=>tyV K T x H1/\t σ H1 λxs H2=>r x xs H2 Q
variable {o e:Expr}{es:List Expr}{to:TE}{t:TA}{name:Str}{apos cpos:Pos}{T id:String}{r:V->List V->Hp->VK->Prop}
theorem Tj(pa:PlainAttrs T)(slot:Slot T name id)(hty:typeOf (.builtin id)=pure (.type "method_descriptor"))(hm:MtR X id r)(ho:PE X o to)
  (hbase:attributeBase o name X.env (eval o X.env)=eval o X.env:=by rfl) (hline:(apos.endLine == cpos.line)=true:=by rfl):PE X (.Call (.Attribute o name apos) [] [] cpos) (Ti X.K T r to):=by
 intro pins s σ H Q I h;refine wpAny_Call_method0_late hbase hline (thn (ho pins s σ H _ I h) λv s1 ⟨x,H1,I1,r1,ty,q1⟩=>?_);obtain⟨h1,h2⟩:=GD I1 r1 ty;exact⟨T,id,pa,slot,hty,h1,h2,Calls.callWith_builtin rfl (PySem.evalArgs_none (hm pins s1 σ H1 x [] v [] Q I1 r1 .nil q1))⟩
theorem GF(pa:PlainAttrs T)(slot:Slot T name id)(hty:typeOf (.builtin id)=pure (.type "method_descriptor"))(hm:MtR X id r)(ho:PE X o to)(ha:PA X (e::es) t)
  (hbase:attributeBase o name X.env (eval o X.env)=eval o X.env:=by rfl)
  (hfew:((backTo cpos (starEach (e::es) X.env)).all (λx=>!x.1)&&(backToKw cpos (keywordEach [] X.env)).all (λx=>x.1.isSome)
   && decide ((e::es).length+([]:List Keyword).length+(if([]:List Keyword).isEmpty then 0 else 1)<30))=true:=by rfl)
  (hline:(apos.endLine == cpos.line)=true:=by rfl) (hs:starEach (e::es) X.env=(false,eval e X.env)::starEach es X.env:=by rfl) (hplain:(backTo cpos (starEach es X.env)).any (·.1)=false:=by rfl):
  PE X (.Call (.Attribute o name apos) (e::es) [] cpos) (tBM X.K T r to t):=by
 intro pins s σ H Q I h;refine wpAny_Call_method_late hbase hfew hline rfl (thn (ho pins s σ H _ I h) λv s1 ⟨x,H1,I1,r1,ty,q1⟩=>?_);obtain⟨h1,h2⟩:=GD I1 r1 ty;refine⟨T,id,pa,slot,hty,h1,h2,?_⟩;have hA:=ha cpos pins s1 σ H1 _ I1 q1;rw[hs] at hA ⊢;refine Calls.callWith_builtin (by show(false || (backTo cpos (starEach es X.env)).any (·.1))=false;rw[hplain]<;>rfl) (Calls.evalArgs_plain ?_)
 exact thn hA λus s2 ⟨vs,H2,I2,r2,q2⟩=>hm pins s2 σ H2 x vs v us Q I2 r1 r2 q2
/- xs.append(e),list.index on a module's tuple .. are MtR facts of 06m -/
end
def MtM(X:Cx)(id:String)(r:V->List V->Hp->VK->Prop):Prop :=
 ∀(pins:List (Addr×Obj)) (s:Shared) (σ:St) (H:Hp) (x:V) (xs:List V) (v:Value) (us:List Value) (Q:VK),Inv X pins σ H s->RelV x v->aN xs us->r x xs H Q ->
  wpAny (model X.prog X.w) X.A (call (.builtin id) (v::us)) (EP X pins σ Q) X.xe s
theorem aN.one:∀{x:V}{us:List Value},aN [x] us->∃u,us=[u]/\RelV x u
 | _,_,.cons r .nil=>⟨_,rfl,r⟩
theorem aN.two:∀{x y:V}{us:List Value},aN [x,y] us->∃u v,us=[u,v]/\RelV x u/\RelV y v
 | _,_,_,.cons r (.cons q .nil)=>⟨_,_,rfl,r,q⟩
theorem aN.zero:∀{us:List Value},aN [] us->us=[]
 | _,.nil=>rfl
theorem aN.dropLast{xs:List V}{us:List Value}(h:aN xs us):aN xs.dropLast us.dropLast:=by
 induction h with
 |nil=>exact .nil
 |cons r t ih =>
  cases t with
  |nil=>exact .nil
  |cons q t'=>exact .cons r ih
theorem aN.reverse{xs:List V}{us:List Value}(h:aN xs us):aN xs.reverse us.reverse:=by
 induction h with
 |nil=>exact .nil
 |cons r t ih=>rw[List.reverse_cons,List.reverse_cons];exact aN.append ih (.cons r .nil)
theorem aN.rep{xs:List V}{us:List Value}(h:aN xs us):∀k:Nat,aN (List.replicate k xs).flatten (List.replicate k us).flatten
 | 0=>.nil
 |k+1=>by
  rw[List.replicate_succ,List.replicate_succ,List.flatten_cons,List.flatten_cons];exact aN.append h (aN.rep h k)
theorem foldl_rep(its:List Value):∀(k:Nat) (acc:List Value),
  List.foldl (λx1 x2=>x1++x2) acc.toArray (List.replicate k its.toArray)=(acc++(List.replicate k its).flatten).toArray
 | 0,acc=>by simp
 |k+1,acc=>by
  have e:acc.toArray++its.toArray=(acc++its).toArray:=by simp
  have e2:(acc++its)++(List.replicate k its).flatten=acc++(List.replicate (k+1) its).flatten:=by
   rw[List.replicate_succ,List.flatten_cons,jc]
  rw[<-e2,<-foldl_rep its k (acc++its),<-e,List.replicate_succ,List.foldl_cons]
section
variable {X:Cx}{pins:List (Addr×Obj)}{σ:St}{H:Hp}{s:Shared}{l b:Addr}{xs ys zs:List V}
theorem Inv.lset{its its':List Value}{n:Nat}{f:Array Value->Array Value}{t':Nat}(I:Inv X pins σ H s)(hH:H l=some (.lst xs))
  (e:s.heap.get? l=some {cls:=.type "list",data:=.seq its.toArray n}) (hf:f its.toArray=its'.toArray) (hv:aN ys its') (hz:ys.length<=sizeLine):
  Inv X pins σ (upd H l (.lst ys)) {s with heap:=s.heap.update l (Obj.mapSeq f),toks:=t'}:=by
 have q:=PySem.IsL.update e f;rw[hf] at q;refine I.write (x:=l) (e:=l) (by rw[hH];exact trivial) (.inl rfl) (λb' u hb hu=>(jk s.heap (Obj.mapSeq f) (Ne.symm hb)).trans hu) ⟨_,q⟩ ?_;exact⟨hz,its',_,hv,q⟩
theorem Inv.lnew{its:List Value}{t':Nat}(I:Inv X pins σ H s)(hv:aN ys its)(hz:ys.length<=sizeLine):
  Inv X pins σ (upd H s.heap.objs.size (.lst ys)) {s with heap:=s.heap.push {cls:=.type "list",data:=.seq its.toArray},toks:=t'}:=
 I.laid (λ_ _ q=>zm _ q) (zc _) ⟨hz,its,0,hv,zy _ rfl⟩
theorem Inv.fresh(I:Inv X pins σ H s):H s.heap.objs.size=none:=I.hok.fresh (zc _)
theorem Inv.lstM(I:Inv X pins σ H s)(hH:H l=some (.lst xs)):xs.length<=sizeLine/\∃(its:List Value) (n:Nat),aN xs its/\xs.length=its.length/\s.heap.get? l=some {cls:=.type "list",data:=.seq its.toArray n}:=by
 obtain⟨z,its,n,r,e⟩:=I.hok l _ hH;exact⟨z,its,n,r,r.length,e⟩
theorem xq{n:Nat}(h:n<=sizeLine):Builtin.List.listTooLong n=false:=by
 unfold Builtin.List.listTooLong;exact zg (by omega)
end
section
variable {X:Cx}
def Tn:V->List V->Hp->VK->Prop:=λx vs H Q=>∃l xs y,x=.ref l/\vs=[y]/\H l=some (.lst xs)/\xs.length<sizeLine/\Q .non (upd H l (.lst (xs++[y])))
theorem Tp:MtM X "list.append" Tn:=by
 intro pins s σ H x vs v us Q I rx rv h;obtain⟨l,xs,y,rfl,rfl,hH,hz,q⟩:=h;cases rx;obtain⟨u,rfl,ru⟩:=rv.one;obtain⟨z,its,n,r,hl,e⟩:=I.lstM hH;refine call_meets F.slot_list_append ⟨_,e,rfl⟩ F.entry_list_append (F.args_list_append_2 _ _) (PySem.list_append l its.toArray n u (by rw[zq];omega)) ⟨e,?_⟩;refine⟨.non,_,I.lset (its':=its++[u]) hH e (by simp) (r.append (.cons ru .nil)) ?_,rfl,q⟩;rw[zz,ja];omega
def Tq:V->List V->Hp->VK->Prop:=λx vs H Q=>∃l xs,x=.ref l/\vs=[]/\H l=some (.lst xs)/\Q .non (upd H l (.lst xs.reverse))
theorem Tt:MtM X "list.reverse" Tq:=by
 intro pins s σ H x vs v us Q I rx rv h;obtain⟨l,xs,rfl,rfl,hH,q⟩:=h;cases rx;have hus:=rv.zero;subst hus;obtain⟨z,its,n,r,hl,e⟩:=I.lstM hH;refine call_meets F.slot_list_reverse ⟨_,e,rfl⟩ F.entry_list_reverse (F.args_list_reverse_1 _) (AutoSeq1.list_reverse_list_0 l its.toArray n (by rw[zq];omega)) ⟨e,?_⟩;refine⟨.non,_,I.lset (its':=its.reverse) hH e (by simp) r.reverse ?_,rfl,q⟩;rw[List.length_reverse];omega
theorem len_rep{α:Type}(xs:List α)(k:Nat):(List.replicate k xs).flatten.length=k * xs.length:=by
 induction k with
 |zero=>simp
 |succ k ih=>rw[List.replicate_succ,List.flatten_cons,zz,ih,Nat.succ_mul,Nat.add_comm]
end
section
variable {prog:Program}{w:World}{A:Around}{E:Value->Shared->Prop}{s:Shared}
theorem Tu{a c n:Nat}(hac:a<=c)(hc:c<=n):sliceBounds (some (a:Int)) (some (c:Int)) none n=((a:Int),(c:Int),1):=by
 simp only[sliceBounds,Option.getD_none]
 have h1:¬((a:Int)<0):=by omega
 have h2:¬((c:Int)<0):=by omega
 simp only[h1,h2,if_false,show(1:Int)>0 by decide,if_true];congr 1
 ·omega
 ·congr 1;omega
set_option maxRecDepth 100000 in
theorem Qvr{l b sl:Addr}{items new:Array Value}{n n2:Nat}{vl vu:Value}{a c:Nat}{Q:Unit->Shared->Prop}
  (e:s.heap.get? l=some {cls:=.type "list",data:=.seq items n}) (e2:s.heap.get? b=some {cls:=.type "list",data:=.seq new n2}) (hne:l≠b)
  (hs:s.heap.IsSliceOf sl vl vu .none) (pl:IsPart vl (some (a:Int))) (pu:IsPart vu (some (c:Int))) (hac:a<=c) (hc:c<=items.size)
  (hsz:items.size+new.size<=sizeLine) (h:Q () {s with heap:=s.heap.update l (Obj.mapSeq λxs=>xs.extract 0 a++new++xs.extract c xs.size)}):
  wpAny (model prog w) A (setItem (.ref l) (.ref sl) (.ref b)) Q E s:=by
 have hl:s.heap.IsList l items:=PySem.IsL.isList e;have hb:s.heap.IsList b new:=PySem.IsL.isList e2;obtain⟨os,hos,hcs,hds⟩:=id hs;have hTs:s.TypeIs (.ref sl) "slice":=⟨os,hos,hcs⟩;have hstep:¬((rawPart none == rawInt 0)=true):=zh
 have hsame:Builtin.List.listSameRef (.ref l) (.ref b)=false:=by
  unfold Builtin.List.listSameRef;exact beq_eq_false_iff_ne.mpr hne
 have hmax:(max (a:Int) (c:Int)).toNat=c:=by omega
 have hz':((λxs:Array Value=>xs.extract 0 a++new++xs.extract c xs.size) items).size<=sizeLine+1:=by
  simp only[Array.size_append,Array.size_extract];omega
 unfold setItem
 try with_reducible refine zT ?_
 first | refine za (zb ?_) | skip
 refine za (wpAny_sequenceKey hl.typeIs (by decide) ?_)
 refine za (wpAny_callSpecial?_slot (name:=Str.ofString "__setitem__") hl.typeIs slot_list_setitem
  (wpAny_call_entry slot_list_setitem hl.typeIs entry_list_setitem ?_ (args_list_setitem _ _ _)))
 show wpAny _ _ (Builtin.List.listSubscript? (.ref sl) >>= _) _ _ s;refine za ?_;unfold Builtin.List.listSubscript?;refine za (wpAny_specialOf hTs slice_no_index ?_);simp only[Option.isNone_none,if_true];refine zb ?_;show wpAny _ _ (typeOf (.ref sl) >>= _) _ _ s;refine za (wpAny_typeOf hTs ?_)
 first
  | rw[if_neg (by decide)]
  | refine PySem.W.KFB.if_not (by decide) ?_
 rw[listSliceParts_eq];refine za (za (wpAny_field hos hds (x:=.none) rfl (za (wpAny_listPart .none ?_))));rw[if_neg hstep];refine za (wpAny_field hos hds (x:=vl) rfl (za (wpAny_listPart pl ?_)));refine za (wpAny_field hos hds (x:=vu) rfl (za (wpAny_listPart pu (zb ?_))))
 first
  | simp only[hsame,Bool.false_eq_true,if_false]
  | refine PySem.W.KFB.if_not hsame ?_
  | (dsimp only
     rw[if_neg (by rw[hsame];exact zh)])
 refine za (m:=Builtin.List.listAllItems (.ref b) "must assign iterable to extended slice") ?_;unfold Builtin.List.listAllItems;refine za (wpAny_typeOf hb.typeIs ?_)
 first
  | refine PySem.W.KFB.if_so (by decide) ?_
  | rw[if_pos (by decide)]
  | simp only[beq_self_eq_true,Bool.true_or,if_true]
 unfold Builtin.List.listItems;refine za (wpAny_seqItems e2 rfl (zb ?_));refine za (za (wpAny_seqItems e rfl (zb ?_)));refine za (wpAny_of_eq ((sliceIndices_raw (some (a:Int)) (some (c:Int)) none items.size (by simp)).trans (congrArg (pure:Int×Int×Int->Sem (Int×Int×Int)) (Tu hac hc))) ?_);show wpAny _ _ (if((1:Int) == 1)=true then _ else _) _ _ s;rw[if_pos (by decide)];refine za (jd ?_)
 first
  | simp only[xq hsz,Bool.false_eq_true,if_false]
  | refine PySem.W.KFB.if_not (xq hsz) ?_
 first | refine za (zb ?_) | skip
 show wpAny _ _ (updateSeq l (λxs=>xs.extract 0 ((a:Int)).toNat++new++xs.extract (max (a:Int) (c:Int)).toNat xs.size) >>= _) _ _ s;rw[hmax,Int.toNat_natCast];refine za (je (hz:=zG (jp _ _) hsz) (_hz':=hz') e rfl ?_);refine za (jm ?_)
 first
  | exact za (zb (zb ⟨.none,rfl,zb h⟩))
  | exact zb ⟨.none,rfl,zb h⟩
end
section
variable {X:Cx}
end
end L2
namespace Att
open PySem PySem.W PySem.Calls PyProof.Rows
theorem Tv{P:Params}{h:Heap}:∀(ns:List Int) (vs:List Value),WellAll P h vs (ns.map WData.int)->IntsAre vs ns:=by
 intro ns
 induction ns with
 |nil =>
  intro vs w;rw[zJ] at w;cases w;exact .nil
 |cons n ns ih =>
  intro vs w;rw[zd] at w
  cases w with
  |cons a b =>
   cases a;exact .cons _ _ (ih _ b)
theorem Tw{l:OpenLaw}{n:Nat}(hn:l.most=some n){P:Params}{h:Heap}{args:List WData}{vals:List Value}
  (hpre:l.row.toRowW.claim.pre args=true) (hwl:WellAll P h vals args):
  ∃a vs ns,vals=[Value.ref a]/\args=[WData.list (ns.map WData.int)]/\h.get? a=some {cls:=.type "list",data:=.seq vs.toArray}/\IntsAre vs ns/\ns.length<=n:=by
 have hsh:WShape.hasAll [] args [.list .int]=true:=(pre_splitW hpre).1;have hc:l.pre.holds [] {args:=args}=true:=(pre_splitW hpre).2;obtain⟨d,r,rfl,h1,h2⟩:=hasAllW_cons hsh;obtain rfl:=hasAllW_nil h2;obtain⟨xs,rfl,h3⟩:=hasW_list h1;obtain⟨ns,rfl⟩:=items_int h3
 have hlen:ns.length<=n:=by
  unfold OpenLaw.pre at hc
  have h4:(WTm.not (.lt (.lit (.int (n:Int))) (.len (.arg 0)))).holds [] {args:=[.list (ns.map .int)]}=true:=by
   have h4:=(holds_andW hc).1;rw[hn] at h4;exact h4
  have h5:=condW_of h4 (w_not (w_lt w_lit (w_len_list (w_arg rfl))));rw[zf] at h5
  refine Nat.le_of_not_lt λq=>?_
  have q':(n:Int)<((ns.length:Nat):Int):=by omega
  first
   | (rw[zj q'] at h5;exact absurd h5 (by decide))
   | (simp at h5;omega)
 cases hwl with
 |cons w1 w2 =>
  cases w2
  cases w1 with
  |list ho hall=>exact⟨_,_,ns,rfl,rfl,ho,Tv ns _ hall,hlen⟩
theorem Tz(l:OpenLaw)(args:List WData):l.row.toRowW.claim.post args (.bool true) args=true :=
 postW_of (r:=l.row.toRowW) (X:=(true == true))
  (show WShape.has [] (.bool true) .bool=true by first | rfl | decide | simp[WShape.has,WShape.arms,WShape.armsAll])
  (show(WTm.eq .res (.lit (.bool true))).value [] {args:=args,res:=some (.bool true),after:=args}=some (.bool (true == true)) from w_eq_bool (w_res rfl) w_lit) rfl
theorem attach_call{l:OpenLaw}{n:Nat}{q:Program}{loose:List Str}{XP:(Str->Option Value)->Heap->Prop}{YP:World->Heap->Prop}{d:DefRec}
  (hn:l.most=some n) (hdf:d.params.defaults=[])
  (call:∀(w:World) (s₀ s₁:Shared) (mg mb:Str->Option Value) (fa:Addr) (o:Obj) (pm cd doc:Value) (a:Addr) (vs:List Value) (ns:List Int),
   Ground q loose [] XP w s₀ mg mb s₁.heap->YP w s₁.heap ->
   s₁.heap.get? fa=some o->o.data=.func (docDef d.name d.params d.body d.scope pm cd doc)->s₁.heap.CodeRec cd d.name->mg d.name=some (.ref fa) ->
   s₁.heap.get? a=some {cls:=.type "list",data:=.seq vs.toArray}->IntsAre vs ns->ns.length<=n->s₁.gens = #[] ->
   codeAny (model l.prog w) callerA (.call (.ref fa) ⟨[.ref a],[]⟩) (λr s'=>r=.ok (.ret (.bool true))/\OldK s₁.heap s'.heap/\s'.os=s₁.os/\AllBare s'.gens) s₁):
  WalkO q loose XP YP l.row.toRowW d [] (λf vs=>PySem.call f vs):=by
 intro w s₀ s₁ mg mb G Y fa o pm cd doc dV kV ho hd hcd hD hmg hg args vals as hpre hlay hrd hwl hlo;obtain rfl:dV=.none:=Dflts.none hD hdf;obtain rfl:kV=.none:=Dflts.noKw hD;obtain⟨a,vs,ns,rfl,rfl,hobj,hints,hlen⟩:=Tw hn hpre hwl;refine enter_call (codeAny_mono (call w s₀ s₁ mg mb fa o pm cd doc a vs ns G Y ho (fd_plain hd) hcd hmg hobj hints hlen hg) λr s' hq=>?_);obtain⟨rfl,h2,h3,h4⟩:=hq;exact⟨.inl ⟨.bool true,.bool true,[],rfl,λ_=>rfl,.bool true,Tz l _,λ_=>⟨List.Pairwise.nil,λ_ hm=>(nomatch hm)⟩⟩,h2,h3,h4⟩
section
variable {prog:Program}{w:World}{A:Around}{E:Value->Shared->Prop}{s:Shared}{K:Frag}
end
end Att
namespace L2
open PySem PySem.Spec PyProof.Rows
theorem xu:∀{vs:List Value}{ns:List Int},IntsAre vs ns->aN (ns.map V.int) vs
 | _,_,.nil=>.nil
 | _,_,.cons n t h=>.cons ⟨t,rfl⟩ (xu h)
def mD(H:Hp):Prop:=∀b,H b=none\/∃o xs,H b=some (.frz o (.lst xs))
theorem TF{P:Program}{w:World}{K:PySem.W.Frag}{mg mb:Str->Option Value}{CX:CXT}{k:Nat}{fa a:Addr}{fd:FuncData}{x:Str}{sp:Sp}{s₁:Shared}{vs:List Value}{ns:List Int}
  (KX:K.In s₁.heap) (hns:s₁.heap.Ns mainGlobals mg) (hb:s₁.heap.Ns builtinsNs mb) (hbb:∀x:Str,x≠"__name__"->mb x=bootBuiltins x) (hlim:s₁.heap.NoLimit) (hg:s₁.gens = #[])
  (ha:s₁.heap.get? a=some {cls:=.type "list",data:=.seq vs.toArray}) (hi:IntsAre vs ns) (hl:ns.length<=sizeLine) (hr:bw k callerA)
  (F:∀base:Heap,K.In base->base.Ns mainGlobals mg->dg P w K mg base CX k fa fd [x] sp) (hbind:∀(s:Shared) (u:Value),BindsTo s fd ⟨[u],[]⟩ [(x,u)])
  (hsp:∀H:Hp,mD H->SqL K H a (ns.map V.int)->sp [.ref a] H (λv _=>v=.bl true) λ_ _ _=>False)
  (hCX:∀H e s',CX [] H s₁ (λ_ _ _=>False) e s'->False):
  codeAny (model P w) callerA (.call (.ref fa) ⟨[.ref a],[]⟩) (λr s'=>r=.ok (.ret (.bool true))/\OldK s₁.heap s'.heap/\s'.os=s₁.os/\AllBare s'.gens) s₁:=by
 have rv:=xu hi;have lenV:=hi.length;have core:∀H:Hp,mD H->SqL K H a (ns.map V.int)->HOk P w H s₁.heap->(∀b,H b≠none->b=a)->(H a≠none->K.lookup a=none) ->
   codeAny (model P w) callerA (.call (.ref fa) ⟨[.ref a],[]⟩) (λr s'=>r=.ok (.ret (.bool true))/\OldK s₁.heap s'.heap/\s'.os=s₁.os/\AllBare s'.gens) s₁:=by
  intro H hO hS hok hA hK
  have base_of:∀{b:Addr}{o:Obj},s₁.heap.get? b=some o->H b=none->(fV s₁.heap H).get? b=some o:=λe n=>Fi e n
  have noA:∀{b:Addr}{o:Obj}{es:Array DictEntry}{ep:Nat},s₁.heap.get? b=some o->o.data=.dict es ep->H b=none:=λ{b o es ep} e d=>by
   cases q:H b with
   |none=>rfl
   |some u =>
    have e':b=a:=hA b (by rw[q];simp);subst e';rw[ha] at e;cases e;have d':Data.seq vs.toArray _=Data.dict es ep:=d;cases d'
  have nsK:∀{b:Addr}{m:Str->Option Value},s₁.heap.Ns b m->(fV s₁.heap H).Ns b m:=λ{b m} ⟨o,es,ep,e,d,r⟩=>⟨o,es,ep,base_of e (noA e d),d,r⟩
  have hKb:K.In (fV s₁.heap H):=λb o e=>base_of (KX b o e) (by
   cases q:H b with
   |none=>rfl
   |some u =>
    have e':b=a:=hA b (by rw[q];simp);subst e'
    rw[hK (by rw[q];simp)] at e;cases e)
  have hM:Mod K mg (fV s₁.heap H):=⟨hKb,nsK hns,⟨mb,nsK hb,hbb⟩,let ⟨mc,h1,h2⟩:=hlim;⟨mc,nsK h1,h2⟩⟩;have e0:iH P w K mg (fV s₁.heap H) callerA [] s₁ H:=⟨rfl,hM,λb o e=>Fj e,Nat.le_of_eq (Fg _ _),trivial,λb hb=>absurd (show b∈([]:List Addr) from hb) (by simp),hok,.of_eq hg⟩
  refine codeAny_mono ((F _ hKb (nsK hns)).run callerA [] s₁ H ⟨[.ref a],[]⟩ [.ref a] [.ref a] _ _ hr e0 (hbind s₁ (.ref a)) (.cons rfl .nil) (hsp H hO hS)) λr s' h=>?_
  cases r with
  |error e=>exact(hCX H e s' h).elim
  |ok fl =>
   cases fl with
   |next=>exact False.elim h
   |brk=>exact False.elim h
   |cont=>exact False.elim h
   |ret u =>
    obtain⟨v,H',os,bare,un,hok',r',q⟩:=h;have q':v=.bl true:=q;subst q';obtain rfl:u=Value.bool true:=r';refine⟨rfl,OldK.of_keep λb o e=>?_,os,bare⟩
    cases q:H b with
    |none=>exact un.keep b o e q (by intro z;exact absurd (show b∈([]:List Addr) from z) (by simp)) (by simp)
    |some u =>
     rcases hO b with z | ⟨ob,xs,z⟩
     ·rw[q] at z;cases z
     ·have z2:=un.frzs b ob _ z;obtain⟨e1,_⟩:=hok b _ z;obtain⟨e2,_⟩:=hok' b _ z2;rw[e] at e1;cases e1;exact e2
 cases hk:K.lookup a with
 |some o =>
  have e:=KX a o hk;rw[ha] at e;cases e
  refine core (λ_=>none) (λ_=>.inl rfl) (.inr ⟨_,vs.toArray,_,hk,rfl,rfl,rfl,by rw[zq,lenV];exact hl,by simpa using rv⟩) (λb u z=>by have z':(none:Option HO)=some u:=z;cases z') (λb z=>absurd rfl z) λz=>absurd rfl z
 |none =>
  refine core (λb=>if b=a then some (.frz {cls:=.type "list",data:=.seq vs.toArray} (.lst (ns.map V.int))) else none) (λb=>?_) (.inl (.inr ⟨{cls:=.type "list",data:=.seq vs.toArray},if_pos rfl⟩)) (λb u z=>?_) (λb z=>?_) λ_=>hk
  ·by_cases hb:b=a
   ·exact .inr ⟨_,_,if_pos hb⟩
   ·exact .inl (if_neg hb)
  ·by_cases hb:b=a
   ·have z':=(if_pos hb).symm.trans z;cases z';subst hb;exact⟨ha,by rw[zf];exact hl,vs,_,rv,ha⟩
   ·have z':=(if_neg hb).symm.trans z;cases z'
  ·by_cases hb:b=a
   ·exact hb
   ·exact absurd (if_neg hb) z
abbrev KOf{K:PySem.W.Frag}{h:Heap}(_:K.In h):PySem.W.Frag:=K
theorem walk_of{l:PySem.W.OpenLaw}{n k:Nat}{q:Program}{loose:List Str}{XP:(Str->Option Value)->Heap->Prop}{YP:World->Heap->Prop}{d:DefRec}{K:Params->PySem.W.Frag}{CX:World->CXT}{sp:World->Sp}{x:Str}
  (hn:l.most=some n) (hn2:n<=sizeLine) (hdf:d.params.defaults=[]) (hr:bw k callerA)
  (hY:∀(w:World) (h:Heap),YP w h->(K w.params).In h)
  (F:∀(w:World) (mg:Str->Option Value) (fa:Addr) (h:Heap),(K w.params).In h->h.Ns mainGlobals mg->mg d.name=some (.ref fa) ->
   ∃fd:FuncData,(∀(s:Shared) (u:Value),BindsTo s fd ⟨[u],[]⟩ [(x,u)]) /\
    ∀base:Heap,(K w.params).In base->base.Ns mainGlobals mg->dg l.prog w (K w.params) mg base (CX w) k fa fd [x] (sp w))
  (hsp:∀(w:World) (H:Hp) (a:Addr) (ns:List Int),ns.length<=n->mD H->SqL (K w.params) H a (ns.map V.int)->sp w [.ref a] H (λv _=>v=.bl true) λ_ _ _=>False)
  (hCX:∀(w:World) (H:Hp) (s:Shared) (e:Value) (s':Shared),CX w [] H s (λ_ _ _=>False) e s'->False):
  PySem.W.WalkO q loose XP YP l.row.toRowW d [] (λf vs=>PySem.call f vs):=by
 refine Att.attach_call hn hdf λw s₀ s₁ mg mb fa o pm cd doc a vs ns G Y ho hd hcd hmg hobj hints hlen hg=>?_
 have KX:=hY w _ Y;obtain⟨fd,hb,hF⟩:=F w mg fa _ KX G.T.g hmg
 exact TF KX G.T.g G.T.b G.T.builtins G.T.nolimit hg hobj hints (zG hlen hn2) hr hF hb (λH hO hS=>hsp w H a ns hlen hO hS) λH e s'=>hCX w H s₁ e s'
end L2
/- THE LAST THEOREM (shape;LID,My.* are yours):
   My.Adr: a structure of the addresses that your layer names (classes,functions);My.Txt K t: a structure (Prop) of the equations over K;
   My.txt_mk:{K}{implicit addresses ..} (e1:nsIn K mainGlobals "law" = some (some (.ref f))) (e2:K.lookup f=some ⟨oc,od,.func (fnOf "law" "law" params body scope dV kV doc pm an cdv ct),sl⟩) (e3:codeIn K cdv "law" = true) ..:∃t,My.Txt K t
set_option maxRecDepth 100000 in
set_option maxHeartbeats 0 in
theorem PySem.Challenge.cw_LID_holds : PySem.Challenge.rw_LID.Holds := by
 w_on;o_law;k_head;(case hw=>w_witness2)
 k_fill
 refine L2.walk_of (l:=PySem.Challenge.rw_LID) (n:=63) (k:=40) (x:="script") (CX:=λw=>..) (sp:=λ_=>My.sp_law) rfl (by decide) rfl ⟨rfl,by decide,by decide⟩ (λw h Y=>PySem.W.kIn_of Y) ?F ?S ?C
 case F =>
  intro w mg fa h KX G hmg
  have T:∃t,My.Txt (L2.KOf KX) t:=by
   dsimp only[L2.KOf]                          -- K must stand as «<heap const> w.params» for k_is
   refine' My.txt_mk ?e1 ?e2 ?e3 ..
   (case e1=>PySem.W.k_is)                    -- in the order: a name -> its address -> its object -> its parts
   (case e2=>PySem.W.k_is)
   ..
  obtain⟨t,T⟩:=T;have e0:=hmg.symm.trans (PySem.W.mg_of KX G T.law);cases e0                                       -- fa is the law's own address
  exact⟨_,λs u=>.of_eq rfl,λbase kb nb=>My.law_fn T kb nb⟩     -- if «.of_eq rfl» comes too early: refine'⟨_,?b,λbase kb nb=>My.law_fn T kb nb⟩;exact λs u=>.of_eq rfl
 case S=>exact λw H a ns hl hO hS=>..
 case C=>exact ..
(the tactic k_is has no namespace: write k_is) -/
namespace L2
open PySem PySem.Spec PyProof.Rows
def inClass(s:Stmt)(j:Nat):Stmt:=match s with
 | .ClassDef _ _ _ body _ _ _ _ _ _ _=>body.getD j (.Pass ⟨0,0,0,0⟩)
 | _=>.Pass ⟨0,0,0,0⟩
def gP(s:Stmt):Arguments:=match s with
 | .FunctionDef _ a _ _ _ _ _ _ _ _=>a
 | _=>{posonlyargs:=[],args:=[],vararg:=none,kwonlyargs:=[],kw_defaults:=[],kwarg:=none,defaults:=[]}
def fc(s:Stmt):List Stmt:=match s with
 | .FunctionDef _ _ b _ _ _ _ _ _ _=>b
 | _=>[]
def aY(s:Stmt):Scope:=match s with
 | .FunctionDef _ _ _ _ _ _ sc _ _ _=>sc
 | _=>{kind:=.function,names:=[],isGenerator:=false,isCoroutine:=false}
abbrev CX0:CXT:=λ_ _ _ _ _ _=>False
abbrev E0:XK:=λ_ _ _=>False
theorem tY{X:Cx}:mq CX0 X E0:=λ_ _ _ _ _ _ _ h=>h.elim
structure Fun(K:PySem.W.Frag)(x qual:Str)(st:Stmt)(f:Addr)(fd:FuncData):Prop where
 ex:∃(oc:Value) (od:Option Addr) (kV doc pm:Value) (an:Option Addr) (cdv ct:Value) (osl:Array (Option Value)),
  fd=PySem.W.fnOf x qual (gP st) (fc st) (aY st) .none kV doc pm an cdv ct/\K.lookup f=some ⟨oc,od,.func fd,osl⟩/\PySem.W.codeIn K cdv qual=true
 kp:PySem.W.keepIn K (.ref f)=true
section
variable {P:Program}{w:World}{K:PySem.W.Frag}{mg:Str->Option Value}{base:Heap}
theorem Fun.ok{x qual:Str}{st:Stmt}{f:Addr}{fd:FuncData}{N ps:List Str}{k:Nat}{sp:Sp}(F:Fun K x qual st f fd)(S:bK N ps (aY st))(len:∀vs H Q E,sp vs H Q E->vs.length=ps.length)
  (hbody:∀(cdv:Value) (A:Around) (outer:List Env) (s:Shared) (H:Hp) (vs:List V) (Q:VK) (E:XK),bw k (A.deeper (envOfC qual (aY st) s.heap.objs.size f cdv))->sp vs H Q E ->
   ∃t,PSs (iI CX0 P w K mg base N qual (aY st) f cdv A outer s H E).nox (fc st) t/\t {nx:=λ_ H'=>Q .non H',rt:=Q} (start N vs) H):dg P w K mg base CX0 (k+1) f fd ps sp:=by
 obtain⟨oc,od,kV,doc,pm,an,cdv,ct,osl,rfl,lk,hcd⟩:=F.ex
 refine R5 lk hcd S len λA outer s H vs Q E hr hsp=>?_
 obtain⟨t,h,q⟩:=hbody cdv A outer s H vs Q E hr hsp;exact⟨t,h.nox,q⟩
theorem Fun.binds{x qual:Str}{st:Stmt}{f:Addr}{fd:FuncData}{ps:List Str}(F:Fun K x qual st f fd)
  (h:∀(kV doc pm:Value) (an:Option Addr) (cdv ct:Value) (us:List Value),us.length=ps.length->bindArgs (PySem.W.fnOf x qual (gP st) (fc st) (aY st) .none kV doc pm an cdv ct) ⟨us,[]⟩=pure (ps.zip us)):Binds K fd ps []:=by
 obtain⟨oc,od,kV,doc,pm,an,cdv,ct,osl,rfl,lk,hcd⟩:=F.ex;exact .all (h kV doc pm an cdv ct)
theorem xx{x qual:Str}{st:Stmt}{f:Addr}{oc:Value}{od an:Option Addr}{osl:Array (Option Value)}{kV doc pm cdv ct:Value}(l:K.lookup f=some ⟨oc,od,.func (PySem.W.fnOf x qual (gP st) (fc st) (aY st) .none kV doc pm an cdv ct),osl⟩)
  (c:PySem.W.codeIn K cdv qual=true) (k:PySem.W.keepIn K (.ref f)=true):Fun K x qual st f (PySem.W.fnOf x qual (gP st) (fc st) (aY st) .none kV doc pm an cdv ct):=⟨⟨oc,od,kV,doc,pm,an,cdv,ct,osl,rfl,l,c⟩,k⟩
end
theorem mF{A:Around}{k:Nat}(hr:bw k A):A.units+1<cLine:=Nat.lt_of_le_of_lt (Nat.add_le_add_left (by decide:1<=64) _) hr.units
section
variable {X:Cx}
end
def Same(H H':Hp):Prop:=∀b o,H b=some o->H' b=some o
theorem Same.refl(H:Hp):Same H H:=λ_ _ h=>h
theorem Same.trans{H H1 H2:Hp}(a:Same H H1)(b:Same H1 H2):Same H H2:=λc o h=>b c o (a c o h)
theorem Same.free{H H':Hp}(e:Same H H'){l:Addr}(h:H' l=Option.none):H l=Option.none:=by
 cases q:H l with
 |none=>rfl
 |some o =>
  rw[e l o q] at h;cases h
theorem Same.seq{K:PySem.W.Frag}{H H':Hp}{a:Addr}{xs:List V}(e:Same H H')(h:SqL K H a xs):SqL K H' a xs:=by
 rcases h with(h | ⟨o,h⟩) | h
 ·exact .inl (.inl (e _ _ h))
 ·exact .inl (.inr ⟨o,e _ _ h⟩)
 ·exact .inr h
section
variable {κ:Type}[DecidableEq κ]
def fH(kvs:List (κ×V))(k:κ):Option V:=(kvs.find? λkv=>decide (kv.1=k)).map (·.2)
def putK(kvs:List (κ×V))(k:κ)(v:V):List (κ×V):=
 if(kvs.any λkv=>decide (kv.1=k))=true then kvs.map (λkv=>if kv.1=k then(kv.1,v) else kv) else kvs++[(k,v)]
def GJ(kvs:List (κ×V))(k:κ):List (κ×V):=kvs.filter λkv=>decide (kv.1≠k)
theorem qy{p:κ×V}{r:List (κ×V)}{k:κ}(e:p.1=k):fH (p::r) k=some p.2:=by simp[fH,List.find?_cons,e]
theorem qz{p:κ×V}{r:List (κ×V)}{k:κ}(e:¬p.1=k):fH (p::r) k=fH r k:=by simp[fH,List.find?_cons,e]
theorem GK(k:κ):∀kvs:List (κ×V),(kvs.any λkv=>decide (kv.1=k))=(fH kvs k).isSome
 | []=>rfl
 |p::r=>by
  rw[List.any_cons]
  by_cases e:p.1=k
  ·simp only[qy e,zj e,Bool.true_or,Option.isSome_some]
  ·rw[qz e,zg e,Bool.false_or];exact GK k r
theorem xA(kvs:List (κ×V))(k:κ)(v:V):(putK kvs k v).length<=kvs.length+1:=by
 unfold putK
 split
 ·rw[zf];omega
 ·rw[zz,zv,zN];omega
theorem eZ.isSome_eq{o:Option V}{u:Option Value}(r:eZ o u):o.isSome=u.isSome:=by
 cases o with
 |none=>cases u with
  |none=>rfl
  |some _=>exact(show False from r).elim
 |some _=>cases u with
  |none=>exact(show False from r).elim
  |some _=>rfl
theorem eZ.getD{o:Option V}{u:Option Value}{d:V}{d':Value}(r:eZ o u)(rd:RelV d d'):RelV (o.getD d) (u.getD d'):=by
 cases o with
 |none=>cases u with
  |none=>exact rd
  |some _=>exact(show False from r).elim
 |some _=>cases u with
  |none=>exact(show False from r).elim
  |some _=>exact r
theorem KV.val{kvs:List (κ×V)}{vs:List (κ×Value)}(r:KV kvs vs)(k:κ):eZ (fH kvs k) (valueAt vs k):=by
 unfold KV at r
 induction r with
 |nil=>exact True.intro
 | @cons p q ps qs h t ih =>
  obtain⟨h1,h2⟩:=h
  by_cases e:p.1=k
  ·have e':q.1=k:=h1.symm.trans e
   have b:valueAt (q::qs) k=some q.2:=by simp[valueAt,List.find?_cons,e']
   rw[qy e,b];exact h2
  ·have e':¬q.1=k:=λz=>e (h1.trans z)
   have b:valueAt (q::qs) k=valueAt qs k:=by simp[valueAt,List.find?_cons,e']
   rw[qz e,b];exact ih
theorem KV.any{kvs:List (κ×V)}{vs:List (κ×Value)}(r:KV kvs vs)(k:κ):(kvs.any λkv=>decide (kv.1=k))=vs.any λkv=>decide (kv.1=k):=by
 unfold KV at r
 induction r with
 |nil=>rfl
 |cons h t ih=>rw[List.any_cons,List.any_cons,ih,h.1]
theorem KV.repl{kvs:List (κ×V)}{vs:List (κ×Value)}(r:KV kvs vs)(k:κ){y:V}{u:Value}(ry:RelV y u):
  KV (kvs.map λkv=>if kv.1=k then(kv.1,y) else kv) (vs.map λkv=>if kv.1=k then(kv.1,u) else kv):=by
 unfold KV at r ⊢
 induction r with
 |nil=>exact .nil
 | @cons p q ps qs h t ih =>
  rw[zd,zd];refine .cons ?_ ih;obtain⟨h1,h2⟩:=h
  by_cases e:p.1=k
  ·rw[if_pos e,if_pos (h1.symm.trans e)];exact⟨h1,ry⟩
  ·rw[if_neg e,if_neg (λz=>e (h1.trans z))];exact⟨h1,h2⟩
theorem KV.put{kvs:List (κ×V)}{vs:List (κ×Value)}(r:KV kvs vs)(k:κ){y:V}{u:Value}(ry:RelV y u):KV (putK kvs k y) (stored vs k u):=by
 unfold putK stored;rw[r.any k]
 by_cases e:(vs.any λkv=>decide (kv.1=k))=true
 ·rw[if_pos e,if_pos e];exact r.repl k ry
 ·rw[if_neg e,if_neg e];exact Paired.snoc r ⟨rfl,ry⟩
theorem KV.drop{kvs:List (κ×V)}{vs:List (κ×Value)}(r:KV kvs vs)(k:κ):KV (GJ kvs k) (without vs k):=by
 unfold KV at r ⊢;unfold GJ without
 induction r with
 |nil=>exact .nil
 | @cons p q ps qs h t ih =>
  obtain⟨h1,h2⟩:=h;rw[List.filter_cons,List.filter_cons]
  by_cases e:p.1=k
  ·have a:¬decide (p.1≠k)=true:=by simp[e]
   have b:¬decide (q.1≠k)=true:=by simp[h1.symm.trans e]
   rw[if_neg a,if_neg b];exact ih
  ·have e':¬q.1=k:=λz=>e (h1.trans z)
   have a:decide (p.1≠k)=true:=by simp[e]
   have b:decide (q.1≠k)=true:=by simp[e']
   rw[if_pos a,if_pos b];exact .cons ⟨h1,h2⟩ ih
theorem KV.keys{kvs:List (κ×V)}{vs:List (κ×Value)}(r:KV kvs vs):kvs.map (·.1)=vs.map (·.1):=by
 unfold KV at r
 induction r with
 |nil=>rfl
 |cons h t ih=>rw[zd,zd,ih,h.1]
theorem KV.length{kvs:List (κ×V)}{vs:List (κ×Value)}(r:KV kvs vs):kvs.length=vs.length:=Paired.length r
end
theorem oE{P:Program}{w:World}{k:Key}{u:Value}(r:RelV (kV k) u):(d8 P w).is k u=true:=by
 cases k with
 |inl i=>obtain⟨t,e⟩:=(show ∃t,u=Value.int i t from r);subst e;exact O8 P w i t
 |inr x=>obtain⟨t,e⟩:=(show ∃t,u=Value.str x t from r);subst e;exact Pa P w x t
theorem GP{P:Program}{w:World}:∀{ks:List Key}{us:List Value},aN (ks.map kV) us->ItemsAre (d8 P w) ks us
 | [],_,r=>by rw[zJ] at r;cases r;exact .nil
 |k::ks,_,r=>by
  rw[zd] at r
  cases r with
  |cons h t=>exact .cons (oE h) (GP t)
abbrev KT(H:Hp):List (List Key×V)->List (List Key×Addr×Value)->Prop:=Paired λp q=>p.1=q.1/\H q.2.1=some (.tup (p.1.map kV))/\RelV p.2 q.2.2
theorem KT.val{H:Hp}{kvs:List (List Key×V)}{xs:List (List Key×Addr×Value)}(r:KT H kvs xs)(k:List Key):eZ (fH kvs k) ((atKey xs k).map (·.2)):=by
 induction r with
 |nil=>exact True.intro
 | @cons p q ps qs h t ih =>
  obtain⟨h1,_,h2⟩:=h
  by_cases e:p.1=k
  ·have e':q.1=k:=h1.symm.trans e
   have b:atKey (q::qs) k=some q.2:=by simp[atKey,List.find?_cons,e']
   rw[qy e,b];exact h2
  ·have e':¬q.1=k:=λz=>e (h1.trans z)
   have b:atKey (q::qs) k=atKey qs k:=by simp[atKey,List.find?_cons,e']
   rw[qz e,b];exact ih
theorem KT.repl{H:Hp}{kvs:List (List Key×V)}{xs:List (List Key×Addr×Value)}(r:KT H kvs xs)(k:List Key){y:V}{u:Value}(ry:RelV y u):
  KT H (kvs.map λkv=>if kv.1=k then(kv.1,y) else kv) (xs.map (putAt k u)):=by
 induction r with
 |nil=>exact .nil
 | @cons p q ps qs h t ih =>
  rw[zd,zd];refine .cons ?_ ih;obtain⟨h1,h2,h3⟩:=h;unfold putAt
  by_cases e:p.1=k
  ·rw[if_pos e,if_pos (h1.symm.trans e)];exact⟨h1,h2,ry⟩
  ·rw[if_neg e,if_neg (λz=>e (h1.trans z))];exact⟨h1,h2,h3⟩
theorem KT.put{H:Hp}{kvs:List (List Key×V)}{xs:List (List Key×Addr×Value)}(r:KT H kvs xs)(k:List Key){b:Addr}{y:V}{u:Value}(hb:H b=some (.tup (k.map kV)))(ry:RelV y u):
  KT H (putK kvs k y) (storedH xs k b u):=by
 have e:(kvs.any λkv=>decide (kv.1=k))=(atKey xs k).isSome:=by
  rw[GK,(r.val k).isSome_eq,Option.isSome_map]
 unfold putK storedH;rw[e]
 by_cases q:(atKey xs k).isSome=true
 ·rw[if_pos q,if_pos q];exact r.repl k ry
 ·rw[if_neg q,if_neg q];exact Paired.snoc r ⟨rfl,hb,ry⟩
theorem KT.keeps{H H':Hp}{kvs:List (List Key×V)}{xs:List (List Key×Addr×Value)}(r:KT H kvs xs)(ht:∀b ys,H b=some (.tup ys)->H' b=some (.tup ys)):KT H' kvs xs :=
 Paired.mapP r λ_ _ z=>⟨z.1,ht _ _ z.2.1,z.2.2⟩
section
variable {P:Program}{w:World}{H:Hp}{h:Heap}{a:Addr}
theorem GQ{u:HO}(ok:HOk P w H h)(e:Rd H a u):cg P w H h a u:=e.ok ok
theorem oF{kvs:List (Key×V)}(ok:HOk P w H h)(e:Rd H a (.dK kvs)):kvs.length<=sizeLine/\(a == sysModules)=false/\∃vs,KV kvs vs/\h.DictOf (d8 P w) a vs :=
 show cg P w H h a (.dK kvs) from GQ ok e
theorem GR{kvs:List (Key×V)}(ok:HOk P w H h)(e:H a=some (.dK kvs)):kvs.length<=sizeLine/\(a == sysModules)=false/\∃vs,KV kvs vs/\h.DictOf (d8 P w) a vs:=oF ok (.inl e)
theorem qC{ks:List Key}(ok:HOk P w H h)(e:H a=some (.tup (ks.map kV))):(tupleKind (d8 P w)).is h ks a:=by
 obtain⟨_,its,r,o,h1,h2,n,h3⟩:=(show cg P w H h a (.tup (ks.map kV)) from ok a _ e);exact⟨o,its.toArray,n,h1,h2,h3,by simpa using GP r⟩
theorem oG{kvs:List (List Key×V)}(ok:HOk P w H h)(e:Rd H a (.dT kvs)):kvs.length<=sizeLine/\(a == sysModules)=false /\
  ∃xs,KT H kvs xs/\h.DictOfH (tupleKind (d8 P w)) a xs:=by
 obtain⟨z,y,xs,r,o,es,ep,h1,h2,h3,h4,h5⟩:=(show cg P w H h a (.dT kvs) from GQ ok e);refine⟨z,y,xs,r,o,es,ep,h1,h2,h3,h4,λx hx=>?_,h5⟩
 have all:∀{l:List (List Key×V)}{m:List (List Key×Addr×Value)},KT H l m->∀x∈m,(tupleKind (d8 P w)).is h x.1 x.2.1:=by
  intro l m q
  induction q with
  |nil=>intro x hx;exact nomatch hx
  | @cons p q ps qs hq t ih =>
   intro x hx
   rcases zk.mp hx with e | hx
   ·subst e;exact qC ok (by rw[<-hq.1];exact hq.2.1)
   ·exact ih x hx
 exact all r x hx
theorem TJ{kvs:List (List Key×V)}(ok:HOk P w H h)(e:H a=some (.dT kvs)):kvs.length<=sizeLine/\(a == sysModules)=false /\
  ∃xs,KT H kvs xs/\h.DictOfH (tupleKind (d8 P w)) a xs:=oG ok (.inl e)
end
def fL(H:Hp)(a:Addr)(y:V)(r:Option V):Prop :=
 (∃kvs k,Rd H a (.dK kvs)/\y=kV k/\r=fH kvs k)\/∃kvs k b,Rd H a (.dT kvs)/\y=.ref b/\H b=some (.tup (k.map kV))/\r=fH kvs k
def lq(H:Hp)(a:Addr)(y v:V)(H':Hp):Prop :=
 (∃kvs k,H a=some (.dK kvs)/\y=kV k/\kvs.length<sizeLine/\H'=upd H a (.dK (putK kvs k v))) \/
 ∃kvs k b,H a=some (.dT kvs)/\y=.ref b/\H b=some (.tup (k.map kV))/\kvs.length<sizeLine/\H'=upd H a (.dT (putK kvs k v))
theorem fL.k{H:Hp}{a:Addr}{kvs:List (Key×V)}{k:Key}(e:H a=some (.dK kvs)):fL H a (kV k) (fH kvs k):=.inl ⟨kvs,k,.inl e,rfl,rfl⟩
theorem fL.t{H:Hp}{a b:Addr}{kvs:List (List Key×V)}{k:List Key}(e:H a=some (.dT kvs))(eb:H b=some (.tup (k.map kV))):fL H a (.ref b) (fH kvs k):=.inr ⟨kvs,k,b,.inl e,rfl,eb,rfl⟩
theorem lq.k{H:Hp}{a:Addr}{kvs:List (Key×V)}{k:Key}{v:V}(e:H a=some (.dK kvs))(hl:kvs.length<sizeLine):lq H a (kV k) v (upd H a (.dK (putK kvs k v))):=.inl ⟨kvs,k,e,rfl,hl,rfl⟩
theorem lq.t{H:Hp}{a b:Addr}{kvs:List (List Key×V)}{k:List Key}{v:V}(e:H a=some (.dT kvs))(eb:H b=some (.tup (k.map kV)))(hl:kvs.length<sizeLine):
  lq H a (.ref b) v (upd H a (.dT (putK kvs k v))):=.inr ⟨kvs,k,b,e,rfl,eb,hl,rfl⟩
section
variable {X:Cx}{pins:List (Addr×Obj)}{σ:St}{H:Hp}{s:Shared}{a:Addr}{y v:V}{u r:Value}{o:Option V}{A:Around}{E:Value->Shared->Prop}
theorem Inv.big(I:Inv X pins σ H s):sysModules<s.heap.objs.size:=by
 have h:mainGlobals<s.heap.objs.size:=(I.mod.glob.keeps I.bk).lt;exact Nat.lt_trans (by decide) h
theorem TQ{Q:Value->Shared->Prop}(hu:A.units+1<cLine)(I:Inv X pins σ H s)(g:fL H a y (some v))(ry:RelV y u)(h:∀w' s',Inv X pins σ H s'->RelV v w'->Q w' s'):
  wpAny (model X.prog X.w) A (getItem (.ref a) u) Q E s:=by
 rcases g with⟨kvs,k,e,ey,l⟩ | ⟨kvs,k,b,e,ey,eb,l⟩
 ·subst ey;obtain⟨z,hd,vs,rel,dd⟩:=oF I.hok e;obtain⟨w',hw,rw'⟩:=eZ.some_of (v:=v) (o:=valueAt vs k) (by rw[l];exact rel.val k);exact wpAny_getItem_of (oE ry) dd.mapOf hw (h w' _ (I.tok _) rw')
 ·subst ey;cases(show u=Value.ref b from ry);obtain⟨z,hd,xs,rel,dd⟩:=oG I.hok e;obtain⟨w',hw,rw'⟩:=eZ.some_of (v:=v) (o:=(atKey xs k).map (·.2)) (by rw[l];exact rel.val k);obtain⟨p,hp,hp2⟩:=Option.map_eq_some_iff.mp hw;refine wpAny_getItem_heap (tupleKind_room_in1 hu) (qC I.hok eb) dd hp ?_;rw[hp2];exact h w' _ (I.tok _) rw'
theorem TV{Q:Value->Shared->Prop}(hu:A.units+1<cLine)(I:Inv X pins σ H s)(g:fL H a y o)(ry:RelV y u)(h:∀s',Inv X pins σ H s'->Q (.bool o.isSome) s'):
  wpAny (model X.prog X.w) A (compareOp .In u (.ref a)) Q E s:=by
 rcases g with⟨kvs,k,e,ey,l⟩ | ⟨kvs,k,b,e,ey,eb,l⟩
 ·subst ey;obtain⟨z,hd,vs,rel,dd⟩:=oF I.hok e;refine wpAny_in_of (oE ry) hd dd.mapOf ?_;rw[<-(rel.val k).isSome_eq,<-l];exact h _ (I.tok _)
 ·subst ey;cases(show u=Value.ref b from ry);obtain⟨z,hd,xs,rel,dd⟩:=oG I.hok e;refine wpAny_in_heap (tupleKind_room_in1 hu) (qC I.hok eb) hd dd ?_;have q:=(rel.val k).isSome_eq;rw[Option.isSome_map] at q;rw[<-q,<-l];exact h _ (I.tok _)
theorem xB{h':Heap}{t':Nat}{ob:HO}(I:Inv X pins σ H s)(mu:Mut (H a))(hs:Heap.SameBut a s.heap h')(he:∃q,h'.get? a=some q)(new:cg X.prog X.w (upd H a ob) h' a ob):
  Inv X pins σ (upd H a ob) {s with heap:=h',toks:=t'}:=
 I.write (x:=a) (e:=a) mu (.inl rfl) (λb q hb z=>(hs.2 b hb).trans z) he new
theorem GX{P:Program}{w:World}{H':Hp}{h':Heap}{kvs:List (Key×V)}{vs:List (Key×Value)}(z:kvs.length<=sizeLine)(hd:(a == sysModules)=false)(rel:KV kvs vs)(dd:h'.DictOf (d8 P w) a vs):
  cg P w H' h' a (.dK kvs):=⟨z,hd,vs,rel,dd⟩
theorem TX{H':Hp}{Q:Unit->Shared->Prop}(hu:A.units+1<cLine)(I:Inv X pins σ H s)(g:lq H a y v H')(ry:RelV y u)(rv:RelV v r)(h:∀s',Inv X pins σ H' s'->Q () s'):
  wpAny (model X.prog X.w) A (setItem (.ref a) u r) Q E s:=by
 rcases g with⟨kvs,k,e,ey,l,eH⟩ | ⟨kvs,k,b,e,ey,eb,l,eH⟩
 ·subst ey eH;obtain⟨z,hd,vs,rel,dd⟩:=GR I.hok e
  have hz:vs.length<=sizeLine:=by rw[<-rel.length];exact z
  have hl:(putK kvs k v).length<=sizeLine:=by have:=xA kvs k v;omega
  refine wpAny_setItem_pairs (hsz:=hz) (oE ry) dd λh' dd' hs=>h _ ?_
  have he:∃q,h'.get? a=some q:=let ⟨q,_,_,hq,_⟩:=dd';⟨q,hq⟩;exact xB I (by rw[e];exact True.intro) hs he (GX hl hd (rel.put k rv) dd')
 ·subst ey eH;cases(show u=Value.ref b from ry);obtain⟨z,hd,xs,rel,dd⟩:=TJ I.hok e
  have hz:xs.length<=sizeLine:=by rw[<-Paired.length rel];exact z
  have hl:(putK kvs k v).length<=sizeLine:=by have:=xA kvs k v;omega
  refine wpAny_setItem_heap (hsz:=hz) (tupleKind_room_in1 hu) (qC I.hok eb) dd λh' dd' hs=>h _ ?_
  obtain⟨q,es,ep,hq,h2,h3,h4,_,h5⟩:=dd';refine xB I (by rw[e];exact True.intro) hs ⟨q,hq⟩ ⟨hl,hd,_,(rel.put k eb rv).keeps λc ys ec=>?_,q,es,ep,hq,h2,h3,h4,h5⟩;rw[aO (ne_of ec e (λz=>nomatch z))];exact ec
end
section
variable {X:Cx}{pins:List (Addr×Obj)}{σ:St}{H:Hp}{s:Shared}{a:Addr}{kvs:List (Key×V)}{k:Key}{u:Value}{A:Around}{E:Value->Shared->Prop}
end
def GZ(i:Expr):Prop:=∀ov iv,subscripted i false ov iv=operate [ov,iv] (getItem ov iv)
theorem TY{prog:Program}{w:World}{A:Around}{E:Value->Shared->Prop}{s:Shared}{env:Env}{value slice:Expr}{pos:Pos}{T id:String}{Q:Value->Shared->Prop}
  (hl:typeLookup (.type T) "__getitem__" = pure (some (.builtin id))) (hs:GZ slice)
  (h:wpAny (model prog w) A (eval value env) (λo s₁=>wpAny (model prog w) A (eval slice env) (λi s₂=>s₂.TypeIs o T/\wpAny (model prog w) A (getItem o i) Q E s₂) E s₁) E s):
  wpAny (model prog w) A (eval (.Subscript value slice pos) env) Q E s:=by
 refine Subscript_ (zL h (λo s₁ h₁=>zL h₁ (λi s₂ h₂=>?_) λ_ _ x=>x) λ_ _ x=>x);obtain⟨hT,h₂⟩:=h₂;unfold subscriptTail;refine za ?_;rw[getitemInPython_of_ne hT.not_modules];refine za (wpAny_specialOf hT hl ?_)
 have fin:wpAny (model prog w) A (subscripted slice false o i) (λr s₃=>wpAny (model prog w) A (letTemporaryGo value o r >>= λ_=>pure r) Q E s₃) E s₂:=by
  rw[hs o i];exact wpAny_operating (zL h₂ (λr s₃ h₃=>za (wpAny_letTemporaryGo (zb h₃))) λ_ _ x=>x)
 first
  | exact zb (za fin)
  | exact za (zb (za fin))
  | exact za fin
theorem T3{X:Cx}{pins:List (Addr×Obj)}{σ:St}{H:Hp}{s:Shared}{a:Addr}{y:V}{o:Option V}(I:Inv X pins σ H s)(g:fL H a y o):s.TypeIs (.ref a) "dict":=by
 rcases g with⟨kvs,k,e,_,_⟩ | ⟨kvs,k,b,e,_,_,_⟩
 ·obtain⟨_,_,vs,_,dd⟩:=oF I.hok e;exact dd.typeIs
 ·obtain⟨_,_,xs,_,dd⟩:=oG I.hok e;exact dd.typeIs
def T4(td ty:TE):TE:=λσ H Q=>td σ H λx H1=>ty σ H1 λy H2=>∃a v,x=.ref a/\fL H2 a y (some v)/\Q v H2
def G4(ty td:TE):TE:=λσ H Q=>ty σ H λy H1=>td σ H1 λx H2=>∃a o,x=.ref a/\fL H2 a y o/\Q (.bl o.isSome) H2
def T5(td ty tv:TE):TS:=λD σ H=>tv σ H λv H1=>td σ H1 λx H2=>ty σ H2 λy H3=>∃a H4,x=.ref a/\lq H3 a y v H4/\D.nx σ H4
section
variable {X:Cx}{o i e value:Expr}{pos pos' tpos:Pos}{td ty tv:TE}
theorem xC(hu:X.A.units+1<cLine)(ho:PE X o td)(hi:PE X i ty)(hs:GZ i):PE X (.Subscript o i pos) (T4 td ty):=by
 intro pins s σ H Q I h;refine TY PySem.F.slot_dict_getitem.lookup hs (thn (ho pins s σ H _ I h) λu s1 ⟨x,H1,I1,rx,q1⟩=>thn (hi pins s1 σ H1 _ I1 q1) λiv s2 ⟨y,H2,I2,ry,a,v,ex,g,q2⟩=>?_);subst ex;obtain rfl:u=Value.ref a:=rx;exact⟨T3 I2 g,TQ hu I2 g ry λw' s3 I3 rw'=>⟨v,H2,I3,rw',q2⟩⟩
theorem T6(hu:X.A.units+1<cLine)(hi:PE X i ty)(ho:PE X o td):PC X .In i o (G4 ty td):=by
 intro pins s σ H Q I h
 refine thn (hi pins s σ H _ I h) λiv s1 ⟨y,H1,I1,ry,q1⟩=>thn (ho pins s1 σ H1 _ I1 q1) λu s2 ⟨x,H2,I2,rx,a,ov,ex,g,q2⟩=>?_
 subst ex;obtain rfl:u=Value.ref a:=rx
 exact TV hu I2 g ry λs3 I3=>⟨.bl ov.isSome,H2,I3,rfl,q2⟩
theorem G5(hu:X.A.units+1<cLine)(ho:PE X o td)(hi:PE X i ty)(hv:PE X value tv)(hs:swapsWith value (some (.Subscript o i pos')) pos.line X.env=pure false):
  PS X (.Assign [.Subscript o i pos'] value pos) (T5 td ty tv):=by
 intro pins s σ H D I h;refine wpAny_Assign_Subscript (thn (hv pins s σ H _ I h) λr s1 ⟨v,H1,I1,rv,q1⟩=>thn (ho pins s1 σ H1 _ I1 q1) λu s2 ⟨x,H2,I2,rx,q2⟩=>thn (hi pins s2 σ H2 _ I2 q2) λiv s3 ⟨y,H3,I3,ry,a,H4,ex,g,q3⟩=>?_) hs;subst ex;obtain rfl:u=Value.ref a:=rx
 exact TX hu I3 g ry rv λs4 I4=>⟨σ,H4,I4,q3⟩
end
theorem G6{P:Program}{w:World}{H:Hp}(h:Heap)(hb:sysModules<h.objs.size):cg P w H (h.push {cls:=.type "dict",data:=.dict #[]}) h.objs.size (.dK []):=
 ⟨Nat.zero_le _,beq_eq_false_iff_ne.mpr (Ne.symm (zu hb)),[],.nil,Heap.DictOf.new h⟩
theorem T7{P:Program}{w:World}{H:Hp}(h:Heap)(hb:sysModules<h.objs.size):cg P w H (h.push {cls:=.type "dict",data:=.dict #[]}) h.objs.size (.dT []):=
 ⟨Nat.zero_le _,beq_eq_false_iff_ne.mpr (Ne.symm (zu hb)),[],.nil,_,#[],0,zy _ rfl,⟨rfl,rfl,rfl⟩,rfl,rfl,List.nodup_nil⟩
def T8:TE:=λ_ H Q=>∀p,H p=none->Q (.ref p) (upd H p (.dK []))
def T9:TE:=λ_ H Q=>∀p,H p=none->Q (.ref p) (upd H p (.dT []))
section
variable {X:Cx}{pos:Pos}
theorem Ua:PE X (.Dict [] [] pos) T8:=λpins s σ H Q I h =>
 wpAny_Dict_empty ⟨.ref s.heap.objs.size,_,I.laid (a:=s.heap.objs.size) (o:=.dK []) (t':=s.toks) (λ_ _ q=>zm _ q) (zc _) (G6 s.heap I.big),rfl,h _ (I.hok.fresh (zc _))⟩
theorem Ub:PE X (.Dict [] [] pos) T9:=λpins s σ H Q I h =>
 wpAny_Dict_empty ⟨.ref s.heap.objs.size,_,I.laid (a:=s.heap.objs.size) (o:=.dT []) (t':=s.toks) (λ_ _ q=>zm _ q) (zc _) (T7 s.heap I.big),rfl,h _ (I.hok.fresh (zc _))⟩
end
def tZ:List (TE×TE)->St->Hp->(List (V×V)->Hp->Prop)->Prop
 | [],_,H,Q=>Q [] H
 | (tk,tv)::r,σ,H,Q=>tk σ H λx H1=>tv σ H1 λy H2=>tZ r σ H2 λps H3=>Q ((x,y)::ps) H3
abbrev VV:List (V×V)->List (Value×Value)->Prop:=Paired λp q=>RelV p.1 q.1/\RelV p.2 q.2
def PPs(X:Cx)(pos:Pos)(keys:List (Option Expr))(values:List Expr)(trs:List (TE×TE)):Prop :=
 ∀(pins:List (Addr×Obj)) (s:Shared) (σ:St) (H:Hp) (Q:List (V×V)->Hp->Prop),Inv X pins σ H s->tZ trs σ H Q ->
  wpAny (model X.prog X.w) X.A (evalPairs (pairTrees keys values X.env pos)) (λvs s'=>∃ps H',Inv X pins σ H' s'/\VV ps vs/\Q ps H') X.xe s
theorem Uc{X:Cx}{pos:Pos}:PPs X pos [] [] []:=λpins s σ H Q I h=>pairTrees_nil_walk ⟨[],H,I,.nil,h⟩
theorem Ud{X:Cx}{pos:Pos}{k v:Expr}{ks:List (Option Expr)}{vs:List Expr}{tk tv:TE}{trs:List (TE×TE)}(hk:PE X k tk)(hv:PE X v tv)(hr:PPs X pos ks vs trs):
  PPs X pos (some k::ks) (v::vs) ((tk,tv)::trs):=λpins s σ H Q I h =>
 pairTrees_cons_walk (thn (hk pins s σ H _ I h) λu s1 ⟨x,H1,I1,rx,q1⟩=>thn (hv pins s1 σ H1 _ I1 q1) λw2 s2 ⟨y,H2,I2,ry,q2⟩ =>
  thn (hr pins s2 σ H2 _ I2 q2) λws s3 ⟨ps,H3,I3,rel,q3⟩=>⟨(x,y)::ps,H3,I3,.cons ⟨rx,ry⟩ rel,q3⟩)
def qD(kvs more:List (Key×V)):List (Key×V):=more.foldl (λacc kv=>putK acc kv.1 kv.2) kvs
theorem KV.merge:∀{more:List (Key×V)}{rs:List (Key×Value)}{kvs:List (Key×V)}{vs:List (Key×Value)},KV more rs->KV kvs vs->KV (qD kvs more) (merged vs rs):=by
 intro more rs kvs vs r;unfold KV at r
 induction r generalizing kvs vs with
 |nil=>intro q;exact q
 | @cons p q ps qs h t ih =>
  intro r0
  have e:KV (putK kvs p.1 p.2) (stored vs q.1 q.2):=by
   have:=r0.put p.1 h.2
   rw[<-h.1];exact this
  exact ih e
theorem G7:∀(more kvs:List (Key×V)),(qD kvs more).length<=kvs.length+more.length
 | [],kvs=>by show kvs.length<=kvs.length+0;omega
 |p::r,kvs=>by
  have h1:=G7 r (putK kvs p.1 p.2);have h2:=xA kvs p.1 p.2;show(qD (putK kvs p.1 p.2) r).length<=_;rw[zv];omega
theorem G8{P:Program}{w:World}:∀{kvs:List (Key×V)}{ws:List (Value×Value)},VV (kvs.map λkv=>(kV kv.1,kv.2)) ws->∃rs,Carries (d8 P w) ws rs/\KV kvs rs
 | [],_,r=>by rw[zJ] at r;cases r;exact⟨[],True.intro,.nil⟩
 |p::kvs,_,r=>by
  rw[zd] at r
  cases r with
  | @cons a b as bs h t =>
   obtain⟨rs,c,q⟩:=G8 (P:=P) (w:=w) t;obtain⟨b1,b2⟩:=b;exact⟨(p.1,b2)::rs,⟨oE h.1,rfl,c⟩,.cons ⟨rfl,h.2⟩ q⟩
def Ue(trs:List (TE×TE)):TE:=λσ H Q=>∀p,H p=none->tZ trs σ (upd H p (.dK [])) λps H2=>H2 p=some (.dK [])/\∃kvs:List (Key×V),ps=kvs.map (λkv=>(kV kv.1,kv.2))/\kvs.length<=15/\Q (.ref p) (upd H2 p (.dK (qD [] kvs)))
theorem Ug{X:Cx}{pos:Pos}{keys:List (Option Expr)}{values:List Expr}{trs:List (TE×TE)}(h:PPs X pos keys values trs)(hall:keys.all (·.isSome)=true)(hl:keys.length=values.length)(h0:keys≠[])
  (h15:keys.length<=15):PE X (.Dict keys values pos) (Ue trs):=by
 intro pins s σ H Q I q;have hn:=I.hok.fresh (zc s.heap.objs.size);have I1:=I.laid (a:=s.heap.objs.size) (o:=.dK []) (h':=s.heap.push {cls:=.type "dict",data:=.dict #[]}) (t':=s.toks) (λ_ _ q=>zm _ q) (zc _) (G6 s.heap I.big);refine wpAny_Dict_walk (knd:=d8 X.prog X.w) hall hl h0 h15 (thn (h pins _ σ _ _ I1 (q _ hn)) λws s2 ⟨ps,H2,I2,rel,e,kvs,ep,lk,q2⟩=>?_);subst ep;obtain⟨rs,c,rk⟩:=G8 (P:=X.prog) (w:=X.w) rel;obtain⟨z,hd,vs0,r0,dd⟩:=GR I2.hok e;cases r0;refine⟨rs,c,dd,λh' dd' hs=>⟨.ref s.heap.objs.size,_,?_,rfl,q2⟩⟩
 have hz:(qD [] kvs).length<=sizeLine:=by
  have h1:=G7 kvs [];rw[zN] at h1;rw[sizeLine_eq];omega
 have he:∃q,h'.get? s.heap.objs.size=some q:=let ⟨q,_,_,hq,_⟩:=dd';⟨q,hq⟩;exact xB I2 (by rw[e];exact True.intro) hs he (GX hz hd (rk.merge .nil) dd')
structure M1(X:Cx)(o:Expr)(m:Str)(apos:Pos)(e:Expr)(cpos:Pos):Prop where
 base:attributeBase o m X.env (eval o X.env)=eval o X.env
 few:((backTo cpos (starEach [e] X.env)).all (λx=>!x.1)&&(backToKw cpos (keywordEach [] X.env)).all (λx=>x.1.isSome)
  && decide (([e]:List Expr).length+([]:List Keyword).length+(if([]:List Keyword).isEmpty then 0 else 1)<30))=true
 line:(apos.endLine == cpos.line)=true
 trees:backTo cpos (starEach [e] X.env)=[(false,eval e X.env)]
structure M2(X:Cx)(o:Expr)(m:Str)(apos:Pos)(e f:Expr)(cpos:Pos):Prop where
 base:attributeBase o m X.env (eval o X.env)=eval o X.env
 few:((backTo cpos (starEach [e,f] X.env)).all (λx=>!x.1)&&(backToKw cpos (keywordEach [] X.env)).all (λx=>x.1.isSome)
  && decide (([e,f]:List Expr).length+([]:List Keyword).length+(if([]:List Keyword).isEmpty then 0 else 1)<30))=true
 line:(apos.endLine == cpos.line)=true
 trees:backTo cpos (starEach [e,f] X.env)=[(false,eval e X.env),(false,eval f X.env)]
def IsD(H:Hp)(a:Addr):Prop:=(∃kvs,Rd H a (.dK kvs))\/∃kvs,Rd H a (.dT kvs)
theorem Uh{X:Cx}{pins:List (Addr×Obj)}{σ:St}{H:Hp}{s:Shared}{a:Addr}(I:Inv X pins σ H s)(d:IsD H a):
  s.TypeIs (.ref a) "dict"/\(∀b,Value.ref a=.ref b->∃ob,s.heap.get? b=some ob/\ob.dict=none)/\(a == sysModules)=false:=by
 rcases d with⟨kvs,e⟩ | ⟨kvs,e⟩
 ·obtain⟨_,hd,vs,_,dd⟩:=oF I.hok e;refine⟨dd.typeIs,λb q=>?_,hd⟩;cases q;obtain⟨ob,_,_,h1,h2,_⟩:=dd;exact⟨ob,h1,h2.2.1⟩
 ·obtain⟨_,hd,xs,_,dd⟩:=oG I.hok e;refine⟨dd.typeIs,λb q=>?_,hd⟩;cases q;obtain⟨ob,_,_,h1,h2,_⟩:=dd;exact⟨ob,h1,h2.2.1⟩
section
variable {X:Cx}{pins:List (Addr×Obj)}{σ:St}{H:Hp}{s:Shared}{a:Addr}{y d:V}{u r:Value}{o:Option V}{A:Around}{E:Value->Shared->Prop}
theorem Ui{Q:Value->Shared->Prop}(hu:A.units+1<cLine)(I:Inv X pins σ H s)(g:fL H a y o)(ry:RelV y u)(rd:RelV d r)(h:∀w' s',Inv X pins σ H s'->RelV (o.getD d) w'->Q w' s'):
  wpAny (model X.prog X.w) A (call (.builtin "dict.get") [.ref a,u,r]) Q E s:=by
 rcases g with⟨kvs,k,e,ey,l⟩ | ⟨kvs,k,b,e,ey,eb,l⟩
 ·subst ey;obtain⟨z,hd,vs,rel,dd⟩:=oF I.hok e;refine call_meetsIn PySem.F.slot_dict_get dd.typeIs PySem.F.entry_dict_get (PySem.F.args_dict_get_3 _ _ _) (meets_dict_get_default (d8 X.prog X.w) a (oE ry) hd r) ⟨_,dd.mapOf,h _ _ (I.tok _) ?_⟩;rw[l];exact(rel.val k).getD rd
 ·subst ey;cases(show u=Value.ref b from ry);obtain⟨z,hd,xs,rel,dd⟩:=oG I.hok e;refine call_meetsIn PySem.F.slot_dict_get dd.typeIs PySem.F.entry_dict_get (PySem.F.args_dict_get_3 _ _ _) (meetsH_dict_get_default (tupleKind (d8 X.prog X.w)) a b hd r) ⟨tupleKind_room_in1 hu,k,xs,qC I.hok eb,dd,h _ _ (I.tok _) ?_⟩;rw[l];exact(rel.val k).getD rd
end
def Uj(td ty tx:TE):TE:=λσ H Q=>td σ H λx H1=>∃a,x=.ref a/\IsD H1 a/\ty σ H1 λy H2=>tx σ H2 λz H3=>∃o,fL H3 a y o/\Q (o.getD z) H3
section
variable {X:Cx}{o e f:Expr}{apos cpos:Pos}{td ty tx:TE}
theorem Uk(hu:X.A.units+1<cLine)(ho:PE X o td)(he:PE X e ty)(hf:PE X f tx)(m:M2 X o "get" apos e f cpos):PE X (.Call (.Attribute o "get" apos) [e,f] [] cpos) (Uj td ty tx):=by
 intro pins s σ H Q I h;refine wpAny_Call_method m.base m.few m.line PySem.F.plainAttrs_dict PySem.F.slot_dict_get PySem.F.type_dict_get (thn (ho pins s σ H _ I h) λu s1 ⟨x,H1,I1,rx,a,ex,d,q1⟩=>?_);subst ex;obtain rfl:u=Value.ref a:=rx;obtain⟨t1,t2,_⟩:=Uh I1 d;refine⟨t1,t2,?_⟩;rw[m.trees]
 refine Calls.callWith_builtin rfl (Calls.evalArgs_plain (Calls.spliced_cons (thn (he pins s1 σ H1 _ I1 q1) λiv s2 ⟨y,H2,I2,ry,q2⟩ =>
  Calls.spliced_cons (thn (hf pins s2 σ H2 _ I2 q2) λfv s3 ⟨z,H3,I3,rz,ov,g,q3⟩=>Calls.spliced_nil ?_))))
 exact Ui hu I3 g ry rz λw' s4 I4 rw'=>⟨_,H3,I4,rw',q3⟩
end
section
variable {X:Cx}{pins:List (Addr×Obj)}{σ:St}{H:Hp}{s:Shared}{a:Addr}{kvs:List (Key×V)}{A:Around}{E:Value->Shared->Prop}
end
section
variable {X:Cx}{pins:List (Addr×Obj)}{σ:St}{H:Hp}{s:Shared}{a:Addr}{y:V}{u:Value}{A:Around}{E:Value->Shared->Prop}
end
section
variable {X:Cx}
end
section
variable {κ:Type}[DecidableEq κ]
end
def jT(cells:List (Str×Addr)):List (Str×NameKind)->List (Str×Addr)->List (Str×Addr)
 | [],acc=>acc
 | (n,k)::r,acc=>if k == .free then jT cells r ((n,(cells.lookup n).getD 0)::acc) else jT cells r acc
def lr(scope:Scope)(env:Env):List (Str×Addr):=jT env.cells scope.names []
theorem G9{scope:Scope}{env:Env}(hf:∀y∈scope.names,y.2=.free->∃c,env.cells.lookup y.1=some c):closureFor scope env=pure (lr scope env):=by
 simp only[closureFor,lr]
 generalize ([]:List (Str×Addr))=acc
 generalize scope.names=names at hf
 induction names generalizing acc with
 |nil=>rfl
 |cons y r ih =>
  obtain⟨n,k⟩:=y
  have hr:=λa=>ih a λz hz=>hf z (zB _ hz)
  by_cases hk:k=.free
  ·obtain⟨c,hc⟩:=hf (n,k) zx hk;have hc':env.cells.lookup n=some c:=hc;subst hk;simp only[List.forIn_cons,beq_self_eq_true,if_true,cellOf,hc',pure_bind,bind_assoc,jT,Option.getD_some];exact hr _
  ·have hb:(k == NameKind.free)=false:=by simpa using hk
   simp only[List.forIn_cons,hb,Bool.false_eq_true,if_false,pure_bind,bind_assoc,jT];exact hr _
theorem xD{cells:List (Str×Addr)}{x:Str}{c:Addr}:∀{names:List (Str×NameKind)}{acc:List (Str×Addr)},(jT cells names acc).lookup x=some c->acc.lookup x=some c\/(∃k,(x,k)∈names/\k=.free/\(cells.lookup x).getD 0=c)
 | [],acc,h=>.inl h
 | (n,k)::r,acc,h=>by
  unfold jT at h
  by_cases hk:k=.free
  ·subst hk;simp only[beq_self_eq_true,if_true] at h
   rcases xD h with z | ⟨k,hm,q⟩
   ·rw[List.lookup_cons] at z
    by_cases hx:x=n
    ·subst hx;simp at z;exact .inr ⟨.free,zx,rfl,z⟩
    ·have hb:(x == n)=false:=by simpa using hx
     rw[hb] at z;exact .inl z
   ·exact .inr ⟨k,zB _ hm,q⟩
  ·have hb:(k == NameKind.free)=false:=by simpa using hk
   simp only[hb,Bool.false_eq_true,if_false] at h
   rcases xD h with z | ⟨k,hm,q⟩
   ·exact .inl z
   ·exact .inr ⟨k,zB _ hm,q⟩
theorem t7{cells:List (Str×Addr)}{x:Str}:∀{names:List (Str×NameKind)}{acc:List (Str×Addr)},((∃c,acc.lookup x=some c)\/(x,NameKind.free)∈names)->∃c,(jT cells names acc).lookup x=some c
 | [],acc,h=>by
  rcases h with h | h
  ·exact h
  ·cases h
 | (n,k)::r,acc,h=>by
  unfold jT
  by_cases hk:k=.free
  ·subst hk;simp only[beq_self_eq_true,if_true];refine t7 ?_
   by_cases hx:x=n
   ·subst hx;exact .inl ⟨(cells.lookup x).getD 0,by simp[List.lookup_cons]⟩
   ·have hb:(x == n)=false:=by simpa using hx
    rcases h with⟨c,h⟩ | h
    ·exact .inl ⟨c,by rw[List.lookup_cons,hb];exact h⟩
    ·rcases zk.mp h with e | h
     ·cases e;exact absurd rfl hx
     ·exact .inr h
  ·have hb:(k == NameKind.free)=false:=by simpa using hk
   simp only[hb,Bool.false_eq_true,if_false];refine t7 ?_
   rcases h with h | h
   ·exact .inl h
   ·rcases zk.mp h with e | h
    ·cases e;exact absurd rfl hk
    ·exact .inr h
def jz(scope sc0:Scope):List (Str×NameKind):=
 scope.names.map λ(n,k)=>if(k == .free&&sc0.kind == .function&&sc0.names.lookup n == some .cell) then(n,.cell) else(n,k)
theorem Ha{scope sc0:Scope}(hc:∀y∈scope.names,y.2≠.cell){x:Str}{k:NameKind}(h:(jz scope sc0).lookup x=some k)(hk:k=.cell\/k=.free):(x,NameKind.free)∈scope.names:=by
 have hm:=PySem.mem_of_lookup h;unfold jz at hm;obtain⟨⟨n,k0⟩,h1,h2⟩:=zH.mp hm;dsimp only at h2
 by_cases hb:(k0 == NameKind.free&&sc0.kind == .function&&sc0.names.lookup n == some .cell)=true
 ·rw[if_pos hb] at h2
  have e:k0=.free:=by
   simp only[zo,beq_iff_eq] at hb;exact hb.1.1
  cases h2;rw[<-e];exact h1
 ·rw[if_neg hb] at h2;cases h2
  rcases hk with e | e
  ·exact absurd e (hc _ h1)
  ·rw[<-e];exact h1
def bQ(N0 own:List Str)(cap:List Nat):List Str:=own++cap.map λj=>N0.getD j (Str.ofString "")
def compSt(own:List Str)(cap:List Nat)(σ:St):St:=own.map (λ_=>none)++cap.map λj=>(σ[j]?).join
def oH(sc0:Scope)(N0:List Str)(scope:Scope)(own:List Str)(cap:List Nat):Bool :=
 (scope.kind == .function)&&scope.names.all (λy=>y.2 != .cell)&&scope.names.all (λy=>y.2 != .local || scope.names.lookup y.1 == some .local) &&
 scope.names.all (λy=>y.2 != .free || sc0.names.lookup y.1 == some .cell || sc0.names.lookup y.1 == some .free) &&
 cap.all λj=>decide (j<N0.length)&&scope.names.contains (N0.getD j (Str.ofString ""),NameKind.free)&&((jz scope sc0).lookup (N0.getD j (Str.ofString "")) == some .cell || (jz scope sc0).lookup (N0.getD j (Str.ofString "")) == some .free)
structure jU(sc0:Scope)(N0:List Str)(scope:Scope)(own:List Str)(cap:List Nat):Prop where
 kind:scope.kind=.function
 nocell:∀y∈scope.names,y.2≠.cell
 names:∀y∈scope.names,y.2=.local->scope.names.lookup y.1=some .local
 free:∀y∈scope.names,y.2=.free->sc0.names.lookup y.1=some .cell\/sc0.names.lookup y.1=some .free
 cap:∀j∈cap,j<N0.length/\(N0.getD j (Str.ofString ""),NameKind.free)∈scope.names/\((jz scope sc0).lookup (N0.getD j (Str.ofString ""))=some .cell\/(jz scope sc0).lookup (N0.getD j (Str.ofString ""))=some .free)
theorem jU.of{sc0:Scope}{N0:List Str}{scope:Scope}{own:List Str}{cap:List Nat}(h:oH sc0 N0 scope own cap=true):jU sc0 N0 scope own cap:=by
 unfold oH at h;simp only[zo,jq,beq_iff_eq,bne_iff_ne,ne_eq,Bool.or_eq_true,decide_eq_true_eq,List.contains_iff_mem] at h;obtain⟨⟨⟨⟨h1,h2⟩,h3⟩,h4⟩,h5⟩:=h;refine⟨h1,h2,λy hy e=>?_,λy hy e=>?_,λj hj=>?_⟩
 ·rcases h3 y hy with z | z
  ·exact absurd e z
  ·exact z
 ·rcases h4 y hy with(z | z) | z
  ·exact absurd e z
  ·exact .inl z
  ·exact .inr z
 ·obtain⟨⟨a,b⟩,c⟩:=h5 j hj;exact⟨a,b,c⟩
def cN(X:Cx)(scope:Scope)(C:Addr)(N':List Str)(s:Shared)(H:Hp)(ex:List Addr):Cx where
 prog:=X.prog
 w:=X.w
 K:=X.K
 mg:=X.mg
 base:=X.base
 A:=X.A
 N:=N'
 s₀:=s
 H₀:=H
 env:=compEnvC scope (lr scope X.env) C X.env
 outer:=X.stack
 stack:=X.stack
 ex:=ex
 fn:=λ_=>false
 calm:=X.calm
 pn:=[]
 xe:=λ_ _=>False
section
variable {X:Cx}
def lu(X:Cx)(ifs:List Expr)(t:TT):Prop :=
 ∀(pins:List (Addr×Obj)) (s:Shared) (σ:St) (H:Hp) (Q:Bool->Hp->Prop),Inv X pins σ H s->t σ H Q ->
  wpAny (model X.prog X.w) X.A (forIn ifs true λc r=>if r=true then do let ok <-isTrue c X.env (eval c X.env);pure (ForInStep.yield ok) else pure (ForInStep.yield r)) (TP X pins σ Q) X.xe s
def Ul:TT:=λ_ H Q=>Q true H
theorem Um:lu X [] Ul:=λ_ _ _ H _ I h=>wpAny_tests_nil ⟨H,I,h⟩
theorem Uo{c:Expr}{t:TT}(h:PT X c t):lu X [c] t:=λpins s σ H Q I q=>wpAny_tests_one (h pins s σ H Q I q)
end
def Hb(J:It)(g:TG)(tt:TT)(te:TE)(Q:List V->Hp->Prop)(σ0:St)(H1:Hp):Prop :=
 ∃W:Nat->Nat->List V->St->Hp->Prop,(∃m,W 0 m [] σ0 H1)/\∀i m ys σ H,W i m ys σ H ->
  (J.stop i H/\Q ys H)\/(J.go i H/\ys.length<sizeLine/\∃N:List V->St->Hp->Prop,(∀ys σ' H',N ys σ' H'->∃m',m'<m/\W (i+1) m' ys σ' H')/\∀x H',J.yld i H x H'->g x σ H' λσ2 H2=>tt σ2 H2 λb H3 =>
   if b=true then te σ2 H3 λy H4=>N (ys++[y]) σ2 H4 else N ys σ2 H3)
def xE(wi:TI)(own:List Str)(cap:List Nat)(g:TG)(tt:TT)(te:TE):TE:=λσ H Q =>
 wi σ H λJ H1=>Hb J g tt te (λys H'=>ys.length<=sizeLine/\∀p,H' p=none->Q (.ref p) (upd H' p (.lst ys))) (compSt own cap σ) H1
section
variable {prog:Program}{w:World}{A:Around}{R:Result->Shared->Prop}{s:Shared}
theorem Up{elt target iter:Expr}{ifs:List Expr}{scope:Scope}{pos:Pos}{it acc:Value}{env:Env}(I:Nat->Shared->Prop)
  (turn:∀n s,I n s->wpAny (model prog w) A (pyNext it) (λr s₁=>match r with
   |none=>R (.ok .next) s₁
   |some v=>wpAny (model prog w) A (letOwnedTupleGo target it v) (λ_ s₁'=>wpAny (model prog w) A (assign target env v) (λ_ s₂ =>
     wpAny (model prog w) A (forIn ifs true λc r=>if r=true then do let ok <-isTrue c env (eval c env);pure (ForInStep.yield ok) else pure (ForInStep.yield r)) (λok s₃ =>
      if ok=true then wpAny (model prog w) A (eval elt env) (λx s₄ =>
       wpAny (model prog w) A (call (.builtin "list.append") [acc,x]) (λ_ s₅=>∃m,m<n/\I m s₅) (λ_ _=>False) s₄) (λ_ _=>False) s₃
      else ∃m,m<n/\I m s₃) (λ_ _=>False) s₂) (λ_ _=>False) s₁') (λ_ _=>False) s₁) (λ_ _=>False) s)
  (n:Nat) (h:I n s):
  codeAny (model prog w) A (.compLoop (.ListComp elt [⟨target,iter,ifs,0⟩] scope pos) 0 it acc env) R s:=by
 refine codeAny_loop rfl I (λn s hI=>?_) n h;show wpAny _ A ((compTurn (.ListComp elt [⟨target,iter,ifs,0⟩] scope pos) 0 it acc env).onRaise (λx=>do noteFrame x env;theTreesLotGoes x)) _ _ s;refine wpAny_noted ?_;rw[compTurn_list];refine za (wpAny_standAt (za (zL (turn n s hI) (λr s₁ h₁=>?_) λ_ _ h'=>h'.elim)))
 cases r with
 |none=>exact zb h₁
 |some v =>
  refine za (zL h₁ (λ_ s₁' h₁'=>?_) λ_ _ h'=>h'.elim);refine za (zL h₁' (λ_ s₂ h₂=>za (zL h₂ (λok s₃ h₃=>?_) λ_ _ h'=>h'.elim)) λ_ _ h'=>h'.elim)
  cases ok with
  |false=>exact zb ⟨rfl,h₃⟩
  |true =>
   exact za (za (zL h₃ (λx s₄ h₄=>za (zL h₄ (λ_ s₅ h₅=>zb (zb ⟨rfl,h₅⟩)) λ_ _ h'=>h'.elim)) λ_ _ h'=>h'.elim))
end
section
variable {X:Cx}{pins:List (Addr×Obj)}{σ:St}{s2:Shared}{H2:Hp}{elt tg iter:Expr}{ifs:List Expr}{scope:Scope}{pos:Pos}{g:TG}{tt:TT}{te:TE}{sc0:Scope}{N0 own:List Str}{cap:List Nat}
 {it:Addr}{fp:List Addr}{tn:Nat->Heap->Prop}{J:It}
theorem xF(I2:Inv X pins σ H2 s2)(hsc:X.env.scope=sc0)(ok:jU sc0 N0 scope own cap):∀y∈scope.names,y.2=.free->∃c,X.env.cells.lookup y.1=some c:=λy hy e=>by
 refine I2.ok.has y.1 ?_;have q:=ok.free y hy e;rw[<-hsc] at q;exact q
theorem lz(I2:Inv X pins σ H2 s2)(hsc:X.env.scope=sc0)(ok:jU sc0 N0 scope own cap){x:Str}{c:Addr}(h:(lr scope X.env).lookup x=some c):X.env.cells.lookup x=some c:=by
 rcases xD h with z | ⟨k,hm,hk,q⟩
 ·simp at z
 ·obtain⟨c',e⟩:=xF I2 hsc ok (x,k) hm hk;have e':X.env.cells.lookup x=some c':=e;rw[e'] at q;rw[e',<-q];rfl
theorem Uq(I2:Inv X pins σ H2 s2)(hsc:X.env.scope=sc0)(ok:jU sc0 N0 scope own cap)(T:Turn X.prog X.w X.K tg J fp it tn)(st2:tn 0 s2.heap)(f2:∀b∈fp,gM X pins H2 b)
  (C:Addr) (hC:s2.heap.objs.size<=C):(cN X scope C (bQ N0 own cap) s2 H2 fp).Ok:=by
 have lt:∀b∈fp,b<s2.heap.objs.size:=λb hb=>by
  obtain⟨o,e,_⟩:=T.obj 0 _ st2 b hb;exact ze e
 have rel:(relabel scope X.env).names=jz scope sc0:=by rw[<-hsc];rfl
 refine⟨I2.ok.mod,ok.kind,I2.ok.glob,I2.ok.blt,hC,λx y c h1 h2=>?_,λx hx=>?_,λx c hf _=>absurd hf (by simp[cN]),I2.ok.hd,I2.ok.frames,.inl rfl,λb hb=>⟨?_,λx c h=>?_⟩,I2.bs,zG I2.ok.bsz I2.sz,
  λb o e hb=>?_,λb hb hz=>?_,I2.stack,I2.stkFree⟩
 ·exact I2.ok.inj x y c (lz I2 hsc ok h1) (lz I2 hsc ok h2)
 ·have hx':(jz scope sc0).lookup x=some .cell\/(jz scope sc0).lookup x=some .free:=by rw[<-rel];exact hx
  have hm:(x,NameKind.free)∈scope.names:=by
   rcases hx' with q | q
   ·exact Ha ok.nocell q (.inl rfl)
   ·exact Ha ok.nocell q (.inr rfl)
  exact t7 (.inr hm)
 ·exact zu (zF (lt b hb) hC)
 ·exact(f2 b hb).2.2.2.2.1 x c (lz I2 hsc ok h)
 ·rcases(f2 b hb).2.2.2.1 with z | z
  ·exact I2.ok.noex b o e z
  ·exact absurd (zF (ze e) (zG I2.ok.bsz z)) (zR _)
 ·rcases zk.mp (I2.stkSub b hz) with z | z
  ·exact(f2 b hb).2.1 z
  ·exact(f2 b hb).2.2.1 z
theorem Ur(I2:Inv X pins σ H2 s2)(hsc:X.env.scope=sc0)(hN0:X.N=N0)(ok:jU sc0 N0 scope own cap)(T:Turn X.prog X.w X.K tg J fp it tn)(st2:tn 0 s2.heap)(f2:∀b∈fp,gM X pins H2 b)
  (C:Addr) (hC:s2.heap.objs.size<=C) {h₁:Heap}{tk:Nat}{m:Str->Option Value} (old:∀b o,s2.heap.get? b=some o->h₁.get? b=some o) (hns:h₁.Ns C m):
  Inv (cN X scope C (bQ N0 own cap) s2 H2 fp) [] (compSt own cap σ) H2 {s2 with heap:=h₁,toks:=tk}:=by
 have rel:(relabel scope X.env).names=jz scope sc0:=by rw[<-hsc];rfl
 refine⟨Uq I2 hsc ok T st2 f2 C hC,rfl,I2.bare,Un.kept old,⟨m,hns,λi x v e1 e2 _=>?_⟩,λx c h=>?_,I2.hok.fresh hC,λx c h=>?_,λp hp=>absurd (show p∈([]:List (Addr×Obj)) from hp) (by simp),I2.hok.kept old,?_⟩
 ·have e1':(bQ N0 own cap)[i]?=some x:=e1;unfold bQ at e1';unfold compSt at e2
  by_cases hi:i<own.length
  ·rw[zD (by simpa using hi),zw] at e2
   cases q:own[i]? with
   |none=>rw[q] at e2;cases e2
   |some z=>rw[q] at e2;cases e2
  ·rw[zI (by simpa using hi),zw] at e2;rw[zI (by simpa using hi),zw] at e1';rw[zf] at e2
   cases q:cap[i - own.length]? with
   |none=>rw[q] at e2;cases e2
   |some j =>
    rw[q] at e1' e2;have ex:N0.getD j (Str.ofString "")=x:=zt e1';have ev:(σ[j]?).join=some v:=zt e2;obtain⟨hj,hm,hk⟩:=ok.cap j (zM q);rw[ex] at hm hk
    have eN:X.N[j]?=some x:=by
     rw[hN0,zp hj];rw[jf,zp hj] at ex;exact congrArg some ex
    have eσ:σ[j]?=some (some v):=by
     cases z:σ[j]? with
     |none=>rw[z] at ev;cases ev
     |some o=>rw[z] at ev;cases o with
      |none=>cases ev
      |some y=>exact congrArg some ev
    have kf:X.env.kindOf x=some .cell\/X.env.kindOf x=some .free:=by
     have z:=ok.free _ hm rfl;rw[<-hsc] at z;exact z
    obtain⟨m0,hn0,hl⟩:=I2.loc;obtain⟨u,r,l⟩:=hl j x v eN eσ (kf.elim (λz=>.inr (.inl z)) λz=>.inr (.inr z));refine⟨u,r,.inr ⟨?_,?_⟩⟩
    ·show(relabel scope X.env).names.lookup x=_\/(relabel scope X.env).names.lookup x=_;rw[rel];exact hk
    ·rcases l with⟨l,_⟩ | ⟨_,c,hc,⟨o,ho,hd⟩⟩
     ·rcases kf with z | z<;>(rw[z] at l;cases l)
     ·obtain⟨c',hc'⟩:=t7 (cells:=X.env.cells) (names:=scope.names) (acc:=[]) (.inr hm);have z:=lz I2 hsc ok hc';rw[hc] at z;cases z;exact⟨c,hc',o,old _ _ ho,hd⟩
 ·obtain⟨v,o,ho,hd⟩:=I2.cell x c (lz I2 hsc ok h);exact⟨v,o,old _ _ ho,hd⟩
 ·exact I2.freeC x c (lz I2 hsc ok h)
 ·show(compSt own cap σ).length=(bQ N0 own cap).length;unfold compSt bQ;simp
theorem Hc{Q:List V->Hp->Prop}{RR:Value->Addr->Result->Shared->Prop}{E:Value->Shared->Prop}(hc:X.calm=true)(I2:Inv X pins σ H2 s2)(hsc:X.env.scope=sc0)(hN0:X.N=N0)(ok:jU sc0 N0 scope own cap)
  (hg:∀C s H ex,PG (cN X scope C (bQ N0 own cap) s H ex) tg g) (ht:∀C s H ex,lu (cN X scope C (bQ N0 own cap) s H ex) ifs tt) (he:∀C s H ex,PE (cN X scope C (bQ N0 own cap) s H ex) elt te)
  (T:Turn X.prog X.w X.K tg J fp it tn) (st2:tn 0 s2.heap) (f2:∀b∈fp,gM X pins H2 b) (hW:Hb J g tt te Q (compSt own cap σ) H2)
  (hRR:∀D C oC ys H' s',Inv X (pins++[(C,oC)]) σ (upd H' D (.lst ys)) s'->(∀h:Heap,h.get? C=some oC->∃m,h.Ns C m)->gM X pins (upd H' D (.lst ys)) C->H' D=none->Q ys H'->RR (.ref D) C (.ok .next) s')
  (hQsz:∀ys H',Q ys H'->ys.length<=sizeLine):
  wpAny (model X.prog X.w) X.A (newList []) (λacc s₃=>wpAny (model X.prog X.w) X.A (newFunctionEnv scope X.env.globals (lr scope X.env) [] X.env.qual none .none (some X.env)) (λcenv s₄ =>
   codeAny (model X.prog X.w) X.A (.compStart (.ListComp elt [⟨tg,iter,ifs,0⟩] scope pos) 0 (.ref it) acc {cenv with scope:=relabel scope X.env}) (RR acc cenv.locals) s₄) E s₃) E s2:=by
 refine wpAny_newObj_type (wpAny_newFunctionEnv ok.nocell (by intro y hy;simp at hy) (λh₁ hns₁ hsb₁=>?_) ok.kind);dsimp only at hns₁ hsb₁ ⊢
 generalize hP2:s2.heap.push {cls:=.type "list",dict:=none,data:=.seq ([]:List Value).toArray}=P2 at hns₁ hsb₁ ⊢
 have hC:P2.objs.size=s2.heap.objs.size+1:=by rw[<-hP2,Heap.size_push]
 have hDC:s2.heap.objs.size≠P2.objs.size:=by rw[hC];exact zu (jj _)
 have hCle:s2.heap.objs.size<=P2.objs.size:=by rw[hC];exact Nat.le_succ _
 have below:∀b,b<s2.heap.objs.size->b≠P2.objs.size/\b≠s2.heap.objs.size:=λb hb=>⟨by rw[hC];exact zu (jg hb),zu hb⟩
 have ltf:∀b∈fp,b<s2.heap.objs.size:=λb hb=>by
  obtain⟨o,e,_⟩:=T.obj 0 _ st2 b hb;exact ze e
 have old:∀b o,s2.heap.get? b=some o->h₁.get? b=some o:=λb o e=>hsb₁.extBut b o (below b (ze e)).1 (zm _ (hP2 ▸ zm _ e))
 have hacc:h₁.PlainList s2.heap.objs.size #[]:=⟨_,hsb₁.extBut _ _ hDC (zm _ (hP2 ▸ zy _ rfl))⟩
 have st₁:tn 0 h₁:=T.keep _ _ _ st2 λb _ o e=>old b o e
 have hDno:∀b∈fp,s2.heap.objs.size≠b:=λb hb=>(below b (ltf b hb)).2.symm
 generalize hXe:cN X scope P2.objs.size (bQ N0 own cap) s2 H2 fp=X'
 have loop:∀s₃:Shared,s₃ = {s2 with heap:=h₁,toks:=s2.toks+([]:List (Str×Value)).length} ->
   codeAny (model X.prog X.w) X.A (.compLoop (.ListComp elt [⟨tg,iter,ifs,0⟩] scope pos) 0 (.ref it) (.ref s2.heap.objs.size) (compEnvC scope (lr scope X.env) P2.objs.size X.env))
    (RR (.ref s2.heap.objs.size) P2.objs.size) s₃:=by
  rintro s₃ rfl;obtain⟨W,⟨m0,w0⟩,turn⟩:=hW;subst hXe
  have stat:∀{H':Hp}{oD:Obj},(∀b∈fp,H' b=none)->∀b∈fp,gM (cN X scope P2.objs.size (bQ N0 own cap) s2 H2 fp) [(s2.heap.objs.size,oD)] H' b:=λ{H' oD} hn b hb =>
   ⟨hn b hb,(below b (ltf b hb)).1,λz=>by
    rcases zk.mp (I2.stkSub b z) with z | z
    ·exact(f2 b hb).2.1 z
    ·exact(f2 b hb).2.2.1 z,.inl hb,λx c h=>(f2 b hb).2.2.2.2.1 x c (lz I2 hsc ok h),λp hp=>by
    have e:p=(s2.heap.objs.size,oD):=by simpa [cN] using hp
    rw[e];exact hDno b hb⟩
  have notcell:∀x c,(lr scope X.env).lookup x=some c->c≠s2.heap.objs.size:=λx c h z=>by
   obtain⟨v,o,ho,hd⟩:=I2.cell x c (lz I2 hsc ok h);exact absurd (ze ho) (by rw[z];exact zR _)
  have nofs:s2.heap.objs.size∉frs X.stack:=λz=>by
   rcases zk.mp (I2.stkSub _ z) with z | z
   ·exact absurd I2.lt (by rw[z];exact zR _)
   ·exact I2.nofs (zc _) z
  have pinD:∀{σ':St}{H':Hp}{s':Shared}{its:Array Value}{k:Nat},Inv (cN X scope P2.objs.size (bQ N0 own cap) s2 H2 fp) [] σ' H' s'->H' s2.heap.objs.size=none ->
    s'.heap.get? s2.heap.objs.size=some {cls:=.type "list",data:=.seq its k}->Inv (cN X scope P2.objs.size (bQ N0 own cap) s2 H2 fp) [(s2.heap.objs.size,{cls:=.type "list",data:=.seq its k})] σ' H' s' :=
   λ{σ' H' s' its k} I hn hd=>I.pins_of λp hp=>by
    have e:p=(s2.heap.objs.size,{cls:=.type "list",data:=.seq its k}):=by simpa using hp
    subst e;exact⟨hd,hn,hDC,nofs,λv z=>by cases z⟩
  obtain⟨k0,hk0⟩:=hacc;refine Up (env:=compEnvC scope (lr scope X.env) P2.objs.size X.env)
   (λn s'=>∃i ys its k σ' H',Inv (cN X scope P2.objs.size (bQ N0 own cap) s2 H2 fp) [(s2.heap.objs.size,{cls:=.type "list",data:=.seq its k})] σ' H' s'/\tn i s'.heap/\(∀b∈fp,H' b=none)/\aN ys its.toList/\W i n ys σ' H') ?_ m0
   ⟨0,[],#[],k0,_,H2,pinD (Ur I2 hsc hN0 ok T st2 f2 _ hCle old hns₁) (I2.hok.fresh (zc _)) hk0,st₁,λb hb=>(f2 b hb).1,.nil,w0⟩
  rintro n s3 ⟨i,ys,its,k,σ3,H3,I3,st3,fr3,hv,w3⟩
  rcases turn i n ys σ3 H3 w3 with⟨stop,qn⟩ | ⟨go,hsz,N,hN,step⟩
  ·refine thn (T.done (cN X scope P2.objs.size (bQ N0 own cap) s2 H2 fp) rfl rfl rfl hc i _ s3 σ3 H3 _ I3 (stat fr3) st3 stop) λr s4 ⟨hr,I4⟩=>?_
   subst hr;show RR _ _ (.ok .next) s4;obtain⟨hd4,hn4,_⟩:=I4.pin (s2.heap.objs.size,{cls:=.type "list",data:=.seq its k}) (by simp[cN]);dsimp only at hd4 hn4;obtain⟨m4,hns4,_⟩:=id I4.loc;have hns4':s4.heap.Ns P2.objs.size m4:=hns4;obtain⟨oC,es,ep,hoC,rC⟩:=id hns4';have cne:P2.objs.size≠s2.heap.objs.size:=hDC.symm;have freeC:H3 P2.objs.size=none:=I4.free;have hchC:gM X pins (upd H3 s2.heap.objs.size (.lst ys)) P2.objs.size:=I2.fpOk hCle (by rw[aO cne];exact freeC)
   have hlen:ys.length=its.size:=by have e:=hv.length;simpa using e
   have I5:Inv X pins σ (upd H3 s2.heap.objs.size (.lst ys)) s4:=by
    refine I2.call' (ch:=fp) I4.os ⟨I4.base.keep,I4.base.slot,λb o e n hx=>?_,I4.base.there,λb xs e=>?_,λb o u e=>?_,λb ps e=>?_⟩ (λb u e=>?_) I4.bare λb hb=>?_
    ·rw[aO (zu (ze e))];exact I4.base.free b o e n hx
    ·have q:=I4.base.tups b xs e;rw[aO (cH q hn4)];exact q
    ·have q:=I4.base.frzs b o u e;rw[aO (cH q hn4)];exact q
    ·obtain⟨more,q⟩:=I4.base.tbls b ps e;exact⟨more,by rw[aO (cH q hn4)];exact q⟩
    ·by_cases hb:b=s2.heap.objs.size
     ·subst hb;rw[bM] at e;cases e;exact⟨hQsz ys H3 qn,its.toList,k,hv,by simpa using hd4⟩
     ·rw[aO hb] at e
      exact(I4.hok b u e).stay (λ_ _ _ q=>q) (λc q=>by rw[aO (cH q hn4)];exact q) λc xs q=>by rw[aO (cH q hn4)];exact q
    ·obtain⟨_,a2,_,a4,a5,a6⟩:=f2 b hb;exact⟨a4,a2,a5,a6⟩
   refine hRR s2.heap.objs.size P2.objs.size oC ys H3 s4 (I5.pins_of λp hp=>?_) (λh e=>⟨m4,oC,es,ep,e,rC⟩) hchC hn4 qn
   rcases zE.mp hp with z | z
   ·exact I5.pin p (zO _ z)
   ·have e:p=(P2.objs.size,oC):=by simpa using z
    subst e
    exact⟨hoC,hchC.1,hchC.2.1,hchC.2.2.1,λv z=>by
     have:=rC.1
     rw[this] at z;cases z⟩
  ·refine thn (T.item (cN X scope P2.objs.size (bQ N0 own cap) s2 H2 fp) rfl rfl rfl hc i _ s3 σ3 H3 _ I3 (stat fr3) st3 go) λr s4 ⟨u,hr,h4⟩=>?_
   subst hr
   refine thn h4 λ_ s5 ⟨x,H5,I5,r5,y5,st5,fr5⟩=>?_
   have I5':=I5.pinned (stat fr5) (T.obj _ _ st5)
   refine thn (hg _ _ _ _ _ s5 σ3 H5 x u _ I5' r5 (step x H5 y5)) λ_ s6 ⟨σ6,H6,I6,q6⟩=>?_
   refine thn (ht _ _ _ _ _ s6 σ6 H6 _ I6 q6) λb s7 ⟨H7,I7,q7⟩=>?_
   have keepT:∀{σ':St}{H':Hp}{s':Shared},Inv (cN X scope P2.objs.size (bQ N0 own cap) s2 H2 fp) ([(s2.heap.objs.size,{cls:=.type "list",data:=.seq its k})]++qj fp s5.heap) σ' H' s'->tn (i+1) s'.heap/\∀b∈fp,H' b=none:=λ{σ' H' s'} I'=>by
    refine⟨T.keep _ _ _ st5 λb hb o e=>(I'.pin (b,o) (zO _ (zO _ (tV hb e)))).1,λb hb=>?_⟩;obtain⟨o,e,d⟩:=T.obj _ _ st5 b hb;exact(I'.pin (b,o) (zO _ (zO _ (tV hb e)))).2.1
   cases b with
   |false =>
    rw[if_neg zh] at q7 ⊢;obtain⟨m',hm,w7⟩:=hN _ _ _ q7;obtain⟨a,b⟩:=keepT I7;exact⟨m',hm,i+1,ys,its,k,σ6,H7,I7.unpinned,a,b,hv,w7⟩
   |true =>
    rw[if_pos rfl] at q7 ⊢
    refine thn (he _ _ _ _ _ s7 σ6 H7 _ I7 q7) λv s8 ⟨y,H8,I8,r8,q8⟩=>?_
    obtain⟨m',hm,w8⟩:=hN _ _ _ q8;obtain⟨a,b⟩:=keepT I8;obtain⟨hd8,hn8,_⟩:=I8.pin (s2.heap.objs.size,{cls:=.type "list",data:=.seq its k}) (by simp[cN]);dsimp only at hd8 hn8
    have hl:its.size<=sizeLine:=by
     have e:=hv.length;simp at e;omega
    refine wpAny_list_append_plain (hsz:=hl) ⟨k,hd8⟩ λh9 hl9 hs9=>?_
    obtain⟨k9,hd9⟩:=hl9
    have I8':Inv (cN X scope P2.objs.size (bQ N0 own cap) s2 H2 fp) [] σ6 H8 s8:=I8.pins_of λp hp=>absurd hp (by simp)
    have I9:Inv (cN X scope P2.objs.size (bQ N0 own cap) s2 H2 fp) [] σ6 H8 {s8 with heap:=h9}:=
     I8'.turned (t':=s8.toks) (it:=s2.heap.objs.size) (λb o hb e=>hs9.extBut b o hb e) hn8 hDC (.inr (zc _)) notcell (λp hp=>absurd (show p∈([]:List (Addr×Obj)) from hp) (by simp))
    refine⟨m',hm,i+1,ys++[y],its.push v,k9,σ6,H8,pinD I9 hn8 hd9,T.keep _ _ _ a λb hb o e=>hs9.extBut b o (hDno b hb).symm e,b,?_,w8⟩;rw[Array.toList_push];exact hv.append (.cons r8 .nil)
 exact codeAny_compStart_list (loop _ rfl) (T.self _ 0 _ _ _ st₁ (loop _ rfl))
theorem Us{wi:TI}(sc0:Scope)(N0 own:List Str)(cap:List Nat)(hc:X.calm=true)(hi:PI X tg iter wi)
  (hg:∀C s H ex,PG (cN X scope C (bQ N0 own cap) s H ex) tg g) (ht:∀C s H ex,lu (cN X scope C (bQ N0 own cap) s H ex) ifs tt) (he:∀C s H ex,PE (cN X scope C (bQ N0 own cap) s H ex) elt te)
  (hsc:X.env.scope=sc0:=by rfl) (hN0:X.N=N0:=by rfl) (ok:oH sc0 N0 scope own cap=true:=by decide +kernel) (hs:∀x,foldedSetIterable iter X.env x=pure x:=by intro _;rfl):
  PE X (.ListComp elt [⟨tg,iter,ifs,0⟩] scope pos) (xE wi own cap g tt te):=by
 intro pins s σ H Q I h;have ok:=jU.of ok;rw[eval_ListComp];refine wpAny_comprehension_free (use:=none) rfl hs (G9 (xF I hsc ok)) ok.kind ok.names (thn (hi pins s σ H _ I h) λxv s1 h1=>thn h1 λitv s2 h2=>?_);obtain⟨it,fp,tn,J,H2,e,I2,T,st2,f2,hW⟩:=h2;subst e
 refine Hc (RR:=λacc C=>compPost (model X.prog X.w) X.A X.xe none (EP X pins σ Q) acc C) hc I2 hsc hN0 ok hg ht he T st2 f2 hW (λD C oC ys H' s' I' hns fpC hD q=>?_) λys H' q=>q.1
 obtain⟨hC,hCn,_⟩:=I'.pin (C,oC) (by simp);obtain⟨m,hm⟩:=hns _ hC;refine⟨m,hm,λh' hs'=>⟨.ref D,upd H' D (.lst ys),?_,rfl,q.2 D hD⟩⟩;obtain⟨f0,f1,f2',f3,f4,f5⟩:=fpC;exact I'.unpinned.turned (t':=s'.toks) (it:=C) (λb o hb e=>hs'.extBut b o hb e) f0 f1 f3 f4 f5
theorem Ut{wi:TI}{i:Nat}{x:Str}{pos' spos:Pos}(sc0:Scope)(N0 own:List Str)(cap:List Nat)(hN:X.N.Nodup)(hx:X.N[i]?=some x)(hl:Loc X.env.scope x)(hc:X.calm=true)(hi:PI X tg iter wi)
  (hg:∀C s H ex,PG (cN X scope C (bQ N0 own cap) s H ex) tg g) (ht:∀C s H ex,lu (cN X scope C (bQ N0 own cap) s H ex) ifs tt) (he:∀C s H ex,PE (cN X scope C (bQ N0 own cap) s H ex) elt te)
  (hsw:swapsWith (.ListComp elt [⟨tg,iter,ifs,0⟩] scope pos) (some (.Name x pos')) spos.line X.env=pure true:=by rfl)
  (hf:X.fn x=true\/X.env.scope.names.lookup x=some .local:=by first | exact .inl rfl | exact .inr rfl | assumption)
  (hsc:X.env.scope=sc0:=by rfl) (hN0:X.N=N0:=by rfl) (ok:oH sc0 N0 scope own cap=true:=by decide +kernel) (hs:∀x,foldedSetIterable iter X.env x=pure x:=by intro _;rfl):
  PS X (.Assign [.Name x pos'] (.ListComp elt [⟨tg,iter,ifs,0⟩] scope pos) spos) (tU (xE wi own cap g tt te) (qi i)):=by
 intro pins s σ H D I h;have ok:=jU.of ok;rw[exec_Assign_Name_used _ _ _ _ hsw];refine za (wpAny_standAt (za ?_));show wpAny _ X.A (do let _ <-comprehension (.ListComp elt [⟨tg,iter,ifs,0⟩] scope pos) scope X.env _ (newList []) false (eval iter X.env) (some (assign (.Name x pos') X.env))) _ _ s
 refine za (zL (wpAny_comprehension_free (use:=some (assign (.Name x pos') X.env)) (Q:=λ_ s'=>SP X pins D .next s') rfl hs (G9 (xF I hsc ok)) ok.kind ok.names
  (thn (hi pins s σ H _ I h) λxv s1 h1=>thn h1 λitv s2 h2=>?_)) (λ_ s' hq=>zb (zb hq)) λ_ _ e=>e)
 obtain⟨it,fp,tn,J,H2,e,I2,T,st2,f2,hW⟩:=h2;subst e
 refine Hc (RR:=λacc C=>compPost (model X.prog X.w) X.A X.xe (some (assign (.Name x pos') X.env)) (λ_ s'=>SP X pins D .next s') acc C) hc I2 hsc hN0 ok hg ht he T st2 f2 hW (λDa C oC ys H' s' I' hns fpC hD q=>?_) λys H' q=>q.1
 show wpAny _ X.A (assign (.Name x pos') X.env (.ref Da)) _ _ _;refine wpAny_assign_Name (wJ (v:=.ref Da) I' hN hx hl rfl (λs'' I''=>?_) hf);obtain⟨hC,hCn,_⟩:=I''.pin (C,oC) (by simp);obtain⟨m,hm⟩:=hns _ hC;refine⟨m,hm,λh' hs'=>⟨σ.set i (some (.ref Da)),upd H' Da (.lst ys),?_,q.2 Da hD⟩⟩;obtain⟨f0,f1,f2',f3,f4,f5⟩:=fpC;exact I''.unpinned.turned (t':=s''.toks) (it:=C) (λb o hb e=>hs'.extBut b o hb e) f0 f1 f3 f4 f5
end
def Can(P:Program)(w:World)(K:PySem.W.Frag)(mg:Str->Option Value)(base:Heap)(x:Str)(ps:List Str)(k:Nat)(sp:Sp):Prop :=
 ∃f fd,mg x=some (.ref f)/\PySem.W.keepIn K (.ref f)=true/\Binds K fd ps []/\dg P w K mg base CX0 k f fd ps sp/\∃oc od osl,K.lookup f=some ⟨oc,od,.func fd,osl⟩
def Def(K:PySem.W.Frag)(mg:Str->Option Value)(x:Str)(st:Stmt):Prop:=∃f fd,mg x=some (.ref f)/\Fun K x x st f fd
section
variable {P:Program}{w:World}{K:PySem.W.Frag}{mg:Str->Option Value}{base:Heap}
theorem Can.mono{x:Str}{ps:List Str}{j k:Nat}{sp:Sp}(c:Can P w K mg base x ps j sp)(h:j<=k):Can P w K mg base x ps k sp :=
 let ⟨f,fd,a,b,d,e,g⟩:=c;⟨f,fd,a,b,d,e.mono h,g⟩
theorem Def.can{x:Str}{st:Stmt}{N ps:List Str}{k:Nat}{sp:Sp}(D:Def K mg x st)(S:bK N ps (aY st))
  (hb:∀(kV doc pm:Value) (an:Option Addr) (cdv ct:Value) (us:List Value),us.length=ps.length->bindArgs (PySem.W.fnOf x x (gP st) (fc st) (aY st) .none kV doc pm an cdv ct) ⟨us,[]⟩=pure (ps.zip us))
  (len:∀vs H Q E,sp vs H Q E->vs.length=ps.length)
  (hbody:∀(f:Addr) (cdv:Value) (A:Around) (outer:List Env) (s:Shared) (H:Hp) (vs:List V) (Q:VK) (E:XK),bw k (A.deeper (envOfC x (aY st) s.heap.objs.size f cdv))->sp vs H Q E ->
   ∃t,PSs (iI CX0 P w K mg base N x (aY st) f cdv A outer s H E).nox (fc st) t/\t {nx:=λ_ H'=>Q .non H',rt:=Q} (start N vs) H):Can P w K mg base x ps (k+1) sp:=by
 obtain⟨f,fd,hm,F⟩:=D;obtain⟨oc,od,_,_,_,_,_,_,osl,_,lk,_⟩:=F.ex;exact⟨f,fd,hm,F.kp,F.binds hb,F.ok S len λcdv A outer s H vs Q E hr h=>hbody f cdv A outer s H vs Q E hr h,oc,od,osl,lk⟩
end
section
variable {X:Cx}{k:Nat}{x:Str}{ps:List Str}{sp:Sp}{p pos:Pos}{e:Expr}{es:List Expr}{t:TA}
theorem Uu(C:Can X.prog X.w X.K X.mg X.base x ps k sp)(hr:bw k X.A)(ha:PA X (e::es) t)(hg:Gl X x:=by rfl)(hdb:(x == ("__debug__":Str))=false:=by decide)
  (he:starEach (e::es) X.env=(false,eval e X.env)::starEach es X.env:=by rfl) (hpl:(backTo pos (starEach es X.env)).any (·.1)=false:=by rfl):
  PE X (.Call (.Name x p) (e::es) [] pos) (wZ sp [] E0 t):=by
 obtain⟨f,fd,hm,hk,hb,F,_⟩:=C;exact RX F hr hg hm hk hb .nil tY ha hdb he hpl
end
theorem Same.seqT{K:PySem.W.Frag}{H H':Hp}{a:Addr}{xs:List V}(e:Same H H')(h:SqT K H a xs):SqT K H' a xs:=by
 rcases h with(h | ⟨o,h⟩) | h
 ·exact .inl (.inl (e _ _ h))
 ·exact .inl (.inr ⟨o,e _ _ h⟩)
 ·exact .inr h
theorem Same.upd{H:Hp}{a:Addr}{o:HO}(h:H a=none):Same H (upd H a o):=λb u e=>by rw[aO (cH e h)];exact e
mutual
def Rep(K:PySem.W.Frag)(H:Hp):V->PyData->Prop
 |v,.none=>v=.non
 |v,.bool b=>v=.bl b
 |v,.int i=>v=.int i
 |v,.str x=>v=.str x
 |v,.list ds=>∃a xs,v=.ref a/\SqL K H a xs/\aW K H xs ds
 |v,.tuple ds=>∃a xs,v=.ref a/\SqT K H a xs/\aW K H xs ds
 | _,.dict _=>False
def aW(K:PySem.W.Frag)(H:Hp):List V->List PyData->Prop
 |xs,[]=>xs=[]
 |xs,d::ds=>∃x r,xs=x::r/\Rep K H x d/\aW K H r ds
end
mutual
theorem Rep.mono{K:PySem.W.Frag}{H H':Hp}(e:Same H H'):∀(d:PyData) {v:V},Rep K H v d->Rep K H' v d
 | .none,v,h=>by rw[Rep] at h ⊢;exact h
 | .bool b,v,h=>by rw[Rep] at h ⊢;exact h
 | .int i,v,h=>by rw[Rep] at h ⊢;exact h
 | .str x,v,h=>by rw[Rep] at h ⊢;exact h
 | .list ds,v,h=>by
  rw[Rep] at h ⊢;obtain⟨a,xs,h1,h2,h3⟩:=h;exact⟨a,xs,h1,e.seq h2,aW.mono e ds h3⟩
 | .tuple ds,v,h=>by
  rw[Rep] at h ⊢;obtain⟨a,xs,h1,h2,h3⟩:=h;exact⟨a,xs,h1,e.seqT h2,aW.mono e ds h3⟩
 | .dict _,v,h=>by rw[Rep] at h;exact h.elim
theorem aW.mono{K:PySem.W.Frag}{H H':Hp}(e:Same H H'):∀(ds:List PyData) {xs:List V},aW K H xs ds->aW K H' xs ds
 | [],xs,h=>by rw[aW] at h ⊢;exact h
 |d::ds,xs,h=>by
  rw[aW] at h ⊢;obtain⟨x,r,h1,h2,h3⟩:=h;exact⟨x,r,h1,Rep.mono e d h2,aW.mono e ds h3⟩
end
theorem aW.nil{K:PySem.W.Frag}{H:Hp}:aW K H [] []:=by rw[aW]
theorem aW.cons{K:PySem.W.Frag}{H:Hp}{x:V}{xs:List V}{d:PyData}{ds:List PyData}(h:Rep K H x d)(hs:aW K H xs ds):aW K H (x::xs) (d::ds):=by
 rw[aW];exact⟨x,xs,rfl,h,hs⟩
theorem aW.un{K:PySem.W.Frag}{H:Hp}{xs:List V}{d:PyData}{ds:List PyData}(h:aW K H xs (d::ds)):∃x r,xs=x::r/\Rep K H x d/\aW K H r ds:=by rw[aW] at h;exact h
theorem aW.un0{K:PySem.W.Frag}{H:Hp}{xs:List V}(h:aW K H xs []):xs=[]:=by rw[aW] at h;exact h
theorem Rep.unL{K:PySem.W.Frag}{H:Hp}{v:V}{ds:List PyData}(h:Rep K H v (.list ds)):∃a xs,v=.ref a/\SqL K H a xs/\aW K H xs ds:=by rw[Rep] at h;exact h
theorem Rep.unT{K:PySem.W.Frag}{H:Hp}{v:V}{ds:List PyData}(h:Rep K H v (.tuple ds)):∃a xs,v=.ref a/\SqT K H a xs/\aW K H xs ds:=by rw[Rep] at h;exact h
theorem Rep.unS{K:PySem.W.Frag}{H:Hp}{v:V}{x:Str}(h:Rep K H v (.str x)):v=.str x:=by rw[Rep] at h;exact h
theorem Rep.unI{K:PySem.W.Frag}{H:Hp}{v:V}{x:Int}(h:Rep K H v (.int x)):v=.int x:=by rw[Rep] at h;exact h
theorem Rep.s{K:PySem.W.Frag}{H:Hp}{x:Str}:Rep K H (.str x) (.str x):=by rw[Rep]
theorem Rep.i{K:PySem.W.Frag}{H:Hp}{x:Int}:Rep K H (.int x) (.int x):=by rw[Rep]
theorem Rep.b{K:PySem.W.Frag}{H:Hp}{x:Bool}:Rep K H (.bl x) (.bool x):=by rw[Rep]
theorem aW.length{K:PySem.W.Frag}{H:Hp}:∀{ds:List PyData}{xs:List V},aW K H xs ds->xs.length=ds.length
 | [],xs,h=>by rw[aW] at h;rw[h];rfl
 |d::ds,xs,h=>by
  rw[aW] at h;obtain⟨x,r,rfl,_,h3⟩:=h;simp[aW.length h3]
theorem aW.get{K:PySem.W.Frag}{H:Hp}:∀{ds:List PyData}{xs:List V}{i:Nat}{x:V},aW K H xs ds->xs[i]?=some x->∃d,ds[i]?=some d/\Rep K H x d
 | [],xs,i,x,h,e=>by rw[aW] at h;rw[h] at e;simp at e
 |d::ds,xs,i,x,h,e=>by
  rw[aW] at h;obtain⟨y,r,rfl,h2,h3⟩:=h
  cases i with
  |zero=>simp at e;subst e;exact⟨d,rfl,h2⟩
  |succ i =>
   obtain⟨d',e',q⟩:=aW.get (i:=i) (x:=x) h3 (by simpa using e);exact⟨d',by simpa using e',q⟩
theorem aW.snoc{K:PySem.W.Frag}{H:Hp}{x:V}{d:PyData}(hx:Rep K H x d):∀{ds:List PyData}{xs:List V},aW K H xs ds->aW K H (xs++[x]) (ds++[d])
 | [],xs,h=>by rw[aW] at h;rw[h];exact aW.cons hx aW.nil
 |e::ds,xs,h=>by
  rw[aW] at h;obtain⟨y,r,rfl,h2,h3⟩:=h;exact aW.cons h2 (aW.snoc hx h3)
theorem aW.append{K:PySem.W.Frag}{H:Hp}{ys:List V}{es:List PyData}(hy:aW K H ys es):∀{ds:List PyData}{xs:List V},aW K H xs ds->aW K H (xs++ys) (ds++es)
 | [],xs,h=>by rw[aW] at h;rw[h];exact hy
 |e::ds,xs,h=>by
  rw[aW] at h;obtain⟨y,r,rfl,h2,h3⟩:=h;exact aW.cons h2 (aW.append hy h3)
theorem aW.take{K:PySem.W.Frag}{H:Hp}:∀{ds:List PyData}{xs:List V} (n:Nat),aW K H xs ds->aW K H (xs.take n) (ds.take n)
 | _,_,0,_=>by simpa using aW.nil
 | [],xs,n+1,h=>by rw[aW] at h;rw[h];simpa using aW.nil
 |d::ds,xs,n+1,h=>by
  rw[aW] at h;obtain⟨y,r,rfl,h2,h3⟩:=h;exact aW.cons h2 (aW.take n h3)
theorem aW.drop{K:PySem.W.Frag}{H:Hp}:∀{ds:List PyData}{xs:List V} (n:Nat),aW K H xs ds->aW K H (xs.drop n) (ds.drop n)
 | _,_,0,h=>by simpa using h
 | [],xs,n+1,h=>by rw[aW] at h;rw[h];simpa using aW.nil
 |d::ds,xs,n+1,h=>by
  rw[aW] at h;obtain⟨y,r,rfl,h2,h3⟩:=h;exact aW.drop n h3
section
variable {X:Cx}{pins:List (Addr×Obj)}{σ:St}{H:Hp}{s:Shared}
mutual
theorem Rep.reads(I:Inv X pins σ H s):∀(d:PyData) {v:V}{u:Value},Rep X.K H v d->RelV v u->∃as,Reads s.heap u d as
 | .none,v,u,h,r=>by rw[Rep] at h;subst h;cases(show u=.none from r);exact⟨_,.none⟩
 | .bool b,v,u,h,r=>by rw[Rep] at h;subst h;cases(show u=.bool b from r);exact⟨_,.bool b⟩
 | .int i,v,u,h,r=>by rw[Rep] at h;subst h;obtain⟨t,rfl⟩:=(show ∃t,u=.int i t from r);exact⟨_,.int i t⟩
 | .str x,v,u,h,r=>by rw[Rep] at h;subst h;obtain⟨t,rfl⟩:=(show ∃t,u=.str x t from r);exact⟨_,.str x t⟩
 | .list ds,v,u,h,r=>by
  rw[Rep] at h;obtain⟨a,xs,rfl,h2,h3⟩:=h;cases(show u=.ref a from r);obtain⟨its,rv,pl,_⟩:=I.list h2;obtain⟨as,q⟩:=aW.reads I ds h3 rv;obtain⟨o,ho,hc,n,hd⟩:=pl.isList;exact⟨_,.list ho hc hd (by simpa using q)⟩
 | .tuple ds,v,u,h,r=>by
  rw[Rep] at h;obtain⟨a,xs,rfl,h2,h3⟩:=h;cases(show u=.ref a from r);obtain⟨its,rv,pl,_⟩:=I.tuple h2;obtain⟨as,q⟩:=aW.reads I ds h3 rv;obtain⟨o,ho,hc,n,hd⟩:=pl;exact⟨_,.tuple ho hc hd (by simpa using q)⟩
 | .dict _,v,u,h,r=>by rw[Rep] at h;exact h.elim
theorem aW.reads(I:Inv X pins σ H s):∀(ds:List PyData) {xs:List V}{us:List Value},aW X.K H xs ds->aN xs us->∃as,ReadsAll s.heap us ds as
 | [],xs,us,h,r=>by rw[aW] at h;subst h;cases r;exact⟨_,.nil⟩
 |d::ds,xs,us,h,r=>by
  rw[aW] at h;obtain⟨x,rest,rfl,h2,h3⟩:=h
  cases r with
  |cons r1 r2 =>
   obtain⟨as,q⟩:=Rep.reads I d h2 r1;obtain⟨bs,q'⟩:=aW.reads I ds h3 r2;exact⟨_,.cons q q'⟩
end
end
def okD(d:PyData):Bool:=d.canLay0&&decide (d.depth<=60)
def Hf(K:PySem.W.Frag)(neg:Bool):R2:=λx y H Q=>∃d e,Rep K H x d/\Rep K H y e/\okD d=true/\okD e=true/\Q (.bl (if neg then !PyData.eqv d e else PyData.eqv d e)) H
section
variable {X:Cx}
theorem Uv{k:Nat}(hr:bw k X.A):OpR X (compareOp .Eq) (Hf X.K false):=by
 intro pins s σ H x y v u Q I rx ry h;obtain⟨d,e,h1,h2,k1,k2,q⟩:=h;obtain⟨as,r1⟩:=Rep.reads I d h1 rx;obtain⟨bs,r2⟩:=Rep.reads I e h2 ry;unfold okD at k1 k2;simp only[zo,decide_eq_true_eq] at k1 k2;exact SeqAt.compareEq_reads r1 r2 k1.1 k2.1 (by have:=hr.units;omega) ⟨.bl _,H,I,rfl,q⟩
theorem Uw{k:Nat}(hr:bw k X.A):OpR X (compareOp .NotEq) (Hf X.K true):=by
 intro pins s σ H x y v u Q I rx ry h;obtain⟨d,e,h1,h2,k1,k2,q⟩:=h;obtain⟨as,r1⟩:=Rep.reads I d h1 rx;obtain⟨bs,r2⟩:=Rep.reads I e h2 ry;unfold okD at k1 k2;simp only[zo,decide_eq_true_eq] at k1 k2;exact SeqAt.compareNe_reads r1 r2 k1.1 k2.1 (by have:=hr.units;omega) ⟨.bl _,H,I,rfl,q⟩
end
def S(l:List Nat):Str:=⟨l.toArray⟩
theorem jV(l:List Nat):(S l).cps.toList=l:=by simp[S]
theorem fB(l:List Nat):(S l).length=l.length:=by simp[S,Str.length]
theorem Ux(x:Str):S x.cps.toList=x:=by cases x;simp[S]
theorem Uy(a b:List Nat):S a++S b=S (a++b):=by
 show Str.mk _=Str.mk _;simp[S]
theorem Uz{a b:List Nat}(h:S a=S b):a=b:=by have:=congrArg (λx:Str=>x.cps.toList) h;simpa [jV] using this
section
variable {X:Cx}
theorem UG:OpR X (compareOp .LtE) (λx y H Q=>∃i j,x=.str i/\y=.str j/\Q (.bl (!decide (j.cps.toList<i.cps.toList))) H):=by
 intro pins s σ H x y v u Q I rx ry h;obtain⟨i,j,rfl,rfl,q⟩:=h;obtain⟨t,rfl⟩:=rx;obtain⟨t',rfl⟩:=ry;exact P.le_str ⟨.bl _,H,I,rfl,q⟩
theorem UJ:OpR X (compareOp .In) (λx y H Q=>∃c l,x=.str (S [c])/\y=.str (S l)/\Q (.bl (decide (c∈l))) H):=by
 intro pins s σ H x y v u Q I rx ry h;obtain⟨c,l,rfl,rfl,q⟩:=h;refine Rc pins s σ H _ _ v u Q I rx ry ⟨S [c],S l,rfl,rfl,?_⟩;have e:=PySem.StrLaws.found_one (S l) c;rw[jV] at e;show Q (.bl (!(Builtin.Str.occurrences (S l) (S [c]) 0 (S l).length 1).isEmpty)) H;rw[show S [c]=⟨#[c]⟩ from rfl,e];exact q
def Its(l:List Nat):It:=⟨λi _=>i<l.length,λi H x H'=>H'=H/\∃c,l[i]?=some c/\x=.str (S [c]),λi _=>l.length<=i⟩
theorem UL{P:Program}{w:World}{K:PySem.W.Frag}{tg:Expr}(l:List Nat)(it:Addr)(t:Tok):Turn P w K tg (Its l) [it] it (λi h=>h.IsStrIter it "str_ascii_iterator" (S l) t i) where
 mem:=by simp
 obj:=λi h st b hb=>by
  have e:b=it:=by simpa using hb
  subst e;obtain⟨o,e,c,d⟩:=st;exact⟨o,e,λv z=>by rw[d] at z;cases z⟩
 keep:=λi h h' st k=>let ⟨o,ho,r⟩:=st;⟨o,k it (by simp) o ho,r⟩
 item:=by
  intro X hP hw hK hc i pins s σ H E I hf st hg;subst hP hw hK;obtain⟨f0,f1,f2,f3,f4,f5⟩:=hf it (by simp);have hg':i<l.length:=hg
  refine wpAny_pyNext_ascii_item st (c:=l[i]) (by simp[S,hg']) λh' st' sb=>?_
  have I1:Inv X pins σ H {s with heap:=h',toks:=s.toks+1}:=I.turned (λb o hb e=>(sb.2 b hb).trans e) f0 f1 f3 f4 f5;obtain⟨o,e,c,d⟩:=id st';exact⟨_,rfl,lY (s:={s with heap:=h',toks:=s.toks+1}) e c d (by decide) ⟨.str (S [l[i]]),H,I1,⟨_,rfl⟩,⟨rfl,l[i],by simp[hg'],rfl⟩,st',λb hb=>(hf b hb).1⟩⟩
 done:=by
  intro X hP hw hK hc i pins s σ H E I hf st hg;subst hP hw hK;obtain⟨f0,f1,f2,f3,f4,f5⟩:=hf it (by simp);have hg':l.length<=i:=hg
  exact wpAny_pyNext_ascii_end (I.ok.hd hc) st (by simp[S,hg']) λh' eb=>⟨rfl,I.turned (t':=s.toks) (λb o hb e=>eb b o hb e) f0 f1 f3 f4 f5⟩
 self:=λ_ _ _ _ _ st h=>wpAny_pyIter_striter_ascii st h
def ascii(l:List Nat):Bool:=l.all (· < 128)
def UT(tl:TE):TI:=λσ H R=>tl σ H λx H1=>∃l,x=.str (S l)/\ascii l=true/\R (Its l) H1
theorem UV{tg e:Expr}{tl:TE}(hl:PE X e tl):PI X tg e (UT tl):=by
 intro pins s σ H R I h
 refine thn (hl pins s σ H _ I h) λv s1 ⟨x,H1,I1,r1,q1⟩=>?_
 obtain⟨l,e,ha,q⟩:=q1;subst e;obtain⟨t,rfl⟩:=r1;refine wpAny_pyIter_ascii (by simpa [S,ascii] using ha) ?_;refine⟨s1.heap.objs.size,[s1.heap.objs.size],_,_,H1,rfl,I1.kept (t':=s1.toks) λb o e=>zm _ e,UL l _ t,⟨_,zy _ rfl,rfl,rfl⟩,λb hb=>?_,q⟩
 have e:b=s1.heap.objs.size:=by simpa using hb
 subst e;exact I1.fpOk (zc _) (I1.hok.fresh (zc _))
theorem UW(hc:X.calm=true):iG X (.builtin "sum") (λxs H Q=>∃(a:Addr) (ns:List Int),xs=[.ref a]/\SqL X.K H a (ns.map V.int)/\(∀n∈ns,0<=n/\n<=1000000)/\ns.length<=1000000/\Q (.int ns.sum) H):=by
 intro pins s σ H xs us Q I r h;obtain⟨a,ns,rfl,ha,hb,hl0,q⟩:=h;obtain⟨u,rfl,ru⟩:=vals1 r;cases ru;obtain⟨its,rv,p,hz⟩:=I.list ha;have hne:a≠s.heap.objs.size:=zu (ze p.isList.choose_spec.1)
 have hl:its.length=ns.length:=by have:=rv.length;rw[zf] at this;exact this.symm
 have pre:∀j,j<=ns.length->preSum (λi=>ns.getD i 0) j=(ns.take j).sum/\0<=preSum (λi=>ns.getD i 0) j/\preSum (λi=>ns.getD i 0) j<=(j:Int) * 1000000:=by
  intro j
  induction j with
  |zero=>intro _;simp[preSum]
  |succ j ih =>
   intro hj;obtain⟨e,l1,l2⟩:=ih (by omega)
   have hj':j<ns.length:=by omega
   have hm:=hb ns[j] (jn hj')
   have ed:ns.getD j 0=ns[j]:=by rw[jf,zp hj'];rfl
   have es:preSum (λi=>ns.getD i 0) (j+1)=preSum (λi=>ns.getD i 0) j+ns[j]:=by
    rw[<-ed];rfl
   refine⟨?_,by omega,by omega⟩;rw[es,e,List.take_succ_eq_append_getElem hj',List.sum_append];simp
 refine call_sum_walk (wpAny_pyIter_list p.isList ?_)
 refine⟨s.heap.objs.size,_,_,its.toArray.size,_,_,λi=>ns.getD i 0,rfl,Walks.list (A:=X.A.in1) (I.ok.hd hc) s.heap.objs.size a hne its.toArray,
  ⟨⟨_,zy _ rfl,rfl,rfl⟩,p.isList.at λo e=>zm _ e⟩,λb hb'=>?_,λi v hv=>?_,λj hj=>?_,λh' tk t' hk=>?_⟩
 ·have hsz:({s with heap:=s.heap.push {cls:=.type "list_iterator",data:=.fields #[.ref a,.int 0 0]}}:Shared).heap.objs.size=s.heap.objs.size+1:=Heap.size_push ..;rw[hsz]
  have z:b=s.heap.objs.size\/b=a:=by simpa using hb'
  have ha':a<s.heap.objs.size:=ze p.isList.choose_spec.1
  rcases z with z | z
  ·rw[z];exact jj _
  ·rw[z];exact jg ha'
 ·have hi:i<its.length:=by
   have z:=Array.getElem?_eq_some_iff.mp hv;simpa using z.1
  have hb':(ns.map V.int)[i]?=some (V.int (ns.getD i 0)):=by
   rw[zw,zp (by omega),jf,zp (by omega)];rfl
  obtain⟨u,hu,ru⟩:=rv.get hb'
  have hv':its[i]?=some v:=by simpa using hv
  rw[hv'] at hu;cases hu;exact ru
 ·rw[zq] at hj
  have hj':j<ns.length:=by omega
  have hm:=hb ns[j] (jn hj')
  have ed:ns.getD j 0=ns[j]:=by rw[jf,zp hj'];rfl
  obtain⟨_,l1,l2⟩:=pre (j+1) (by omega);unfold InLong;dsimp only;rw[ed]
  constructor<;>constructor<;>omega
 ·obtain⟨e,_,_⟩:=pre ns.length (zc _);rw[List.take_length] at e;refine⟨.int ns.sum,H,I.kept λb o e=>hk b o (λz=>?_) (zm _ e),⟨t',?_⟩,q⟩
  ·have z':b=s.heap.objs.size:=by simpa using z
   exact absurd (ze e) (by rw[z'];exact zR _)
  ·rw[zq,hl,e]
end
structure Blt(mg:Str->Option Value):Prop where
 len_:mg "len" = none
 isinstance_:mg "isinstance" = none
 all_:mg "all" = none
 sum_:mg "sum" = none
 max_:mg "max" = none
 min_:mg "min" = none
 int_:mg "int" = none
 str_:mg "str" = none
 bool_:mg "bool" = none
 list_:mg "list" = none
 tuple_:mg "tuple" = none
 dict_:mg "dict" = none
 range_:mg "range" = none
 enumerate_:mg "enumerate" = none
 zip_:mg "zip" = none
section
variable {X:Cx}
theorem Hg{x:Str}{v:V}{pos:Pos}(h:∃u,X.mg x=some u/\RelV v u)(hg:Gl X x:=by rfl)(hd:(x == ("__debug__":Str))=false:=by decide):PE X (.Name x pos) (tC v):=by
 obtain⟨u,hm,r⟩:=h;exact Pn hg hm r hd
end
def eE{α:Type}(l:List α)(lo hi:Option Int):List α:=(l.drop (HT.sIx l.length 0 lo)).take (HT.sIx l.length l.length hi - HT.sIx l.length 0 lo)
theorem Hh(l:List Nat)(lo hi:Option Int):Txt.slice (S l) lo hi=S (eE l lo hi):=by
 obtain⟨h1,h2,h3⟩:=Gy lo hi l.length
 have e:Builtin.Str.strSliceIndices lo hi 1 (S l).length=(List.range (HT.sIx l.length l.length hi - HT.sIx l.length 0 lo)).map (HT.sIx l.length 0 lo + ·):=by
  rw[fB];show sliceRange (sliceBounds lo hi none l.length).1 (sliceBounds lo hi none l.length).2.1 (sliceBounds lo hi none l.length).2.2=_;rw[h1,h2,h3,sliceRange_one]
 unfold Txt.slice;rw[e,pick_run,jV]
 split
 ·rename_i h
  have hl:HT.sIx l.length l.length hi - HT.sIx l.length 0 lo=l.length:=by simpa [fB] using h
  have hle:HT.sIx l.length l.length hi<=l.length:=HT.sIx_le _ _ (zc _) hi;have hlo:HT.sIx l.length 0 lo<=l.length:=HT.sIx_le _ _ (Nat.zero_le _) lo
  have h0:HT.sIx l.length 0 lo=0:=by omega
  have h1:HT.sIx l.length l.length hi=l.length:=by omega
  unfold eE;rw[h0,h1];simp
 ·rfl
section
variable {X:Cx}
def U0:V->Option Int->Option Int->Hp->VK->Prop:=λx lo hi H Q=>∃l,x=.str (S l)/\l.length<=sizeLine/\Q (.str (S (eE l lo hi))) H
theorem part_of{v:Value}{o:Option Int}(p:IsPart v o):∃q:Option (Int×Tok),v=partValue q/\q.map (·.1)=o:=by
 cases p with
 |none=>exact⟨none,rfl,rfl⟩
 |int i t=>exact⟨some (i,t),rfl,rfl⟩
theorem U3:SlR X U0:=by
 intro pins s σ H x v vl vu lo hi sl Q I rx hs pl pu h;obtain⟨l,rfl,hz,q⟩:=h;obtain⟨t,rfl⟩:=rx;obtain⟨ql,rfl,e1⟩:=part_of pl;obtain⟨qu,rfl,e2⟩:=part_of pu;refine⟨"str",_,F.slot_str_getitem.lookup,typeIs_str _ _ _,?_⟩;refine wpAny_getItem_str_slice (l:=ql) (u:=qu) (st:=none) hs rfl ?_;have key:(if((1:Int) == 1&&(Builtin.Str.strSliceIndices lo hi 1 (S l).length).length == (S l).length)=true then S l else⟨((Builtin.Str.strSliceIndices lo hi 1 (S l).length).filterMap ((S l).cps[·]?)).toArray⟩)=S (eE l lo hi):=Hh l lo hi;unfold sliceMade slicePicked;rw[e1,e2];refine post_val_or_str ⟨?_,λt' k=>?_⟩
 ·show(Txt.slice (S l) lo hi).length<=_;exact zG (Txt.slice_le _ _ _) (by rw[fB];exact hz)
 ·have e3:=Hh l lo hi;unfold Txt.slice at e3;show EP X pins σ Q (.str (if((1:Int) == 1&&(Builtin.Str.strSliceIndices lo hi 1 (S l).length).length == (S l).length)=true then S l else⟨((Builtin.Str.strSliceIndices lo hi 1 (S l).length).filterMap ((S l).cps[·]?)).toArray⟩) t') {s with toks:=k};rw[e3];exact⟨.str _,H,I.tok k,⟨t',rfl⟩,q⟩
end
namespace HT2
theorem getItem_tuple_whole{prog:Program}{w:World}{A:Around}{E:Value->Shared->Prop}{s:Shared}{t sl:Addr}{items:Array Value}{vl vu:Value}{lo hi:Option Int}{Q:Value->Shared->Prop}(ht:IsTup s.heap t items)(hs:s.heap.IsSliceOf sl vl vu .none)(pl:IsPart vl lo)(pu:IsPart vu hi)
  (hw:HT.sIx items.size 0 lo=0/\HT.sIx items.size items.size hi=items.size) (h:Q (.ref t) s):wpAny (model prog w) A (getItem (.ref t) (.ref sl)) Q E s:=by
 obtain⟨os,hos,hcs,hds⟩:=id hs;have hTs:s.TypeIs (.ref sl) "slice":=⟨os,hos,hcs⟩;unfold getItem
 try with_reducible refine zT ?_
 first | refine za (zb ?_) | skip
 refine za (wpAny_sequenceKey ht.typeIs (by decide) ?_)
 refine za (wpAny_callSpecial?_slot (name:=Str.ofString "__getitem__") ht.typeIs PyProof.Rows.slot_tuple_getitem
  (wpAny_call_entry PyProof.Rows.slot_tuple_getitem ht.typeIs entry_tuple_getitem ?_ (args_tuple_getitem _ _)))
 show wpAny _ _ (Builtin.Tuple.tupleItemsOf (.ref t) >>= _) _ _ s;refine za (tupleItemsOf_ ht ?_);refine za (wpAny_typeOf hTs ?_);rw[if_pos (by decide)];refine za (HT.sliceApplied_gen hs pl pu ?_)
 have hyes:(((HT.sIx items.size 0 lo:Nat):Int) == 0&&(1:Int) == 1&&(HT.sIx items.size items.size hi - HT.sIx items.size 0 lo) == items.size)=true:=by
  rw[hw.1,hw.2];simp
 show wpAny _ _ (if(((HT.sIx items.size 0 lo:Nat):Int) == 0&&(1:Int) == 1&&(HT.sIx items.size items.size hi - HT.sIx items.size 0 lo) == items.size)=true then _ else _) _ _ s;rw[if_pos hyes]
 have hex:∀{A':Around}{E':Value->Shared->Prop}{Q':Bool->Shared->Prop},Q' true s->wpAny (model prog w) A' (Builtin.Tuple.tupleIsExact (.ref t)) Q' E' s:=λ{A' E' Q'} hq=>by
  unfold Builtin.Tuple.tupleIsExact;exact za (wpAny_typeOf ht.typeIs (zb hq))
 refine za (hex ?_);rw[if_pos rfl];exact za (jd (zb ⟨_,rfl,zb h⟩))
end HT2
section
variable {X:Cx}
def U4(K:PySem.W.Frag):V->Option Int->Option Int->Hp->VK->Prop:=λx lo hi H Q=>∃a xs,x=.ref a/\SqT K H a xs /\
 ((HT.sIx xs.length 0 lo=0/\HT.sIx xs.length xs.length hi=xs.length)->Q (.ref a) H)/\(¬(HT.sIx xs.length 0 lo=0/\HT.sIx xs.length xs.length hi=xs.length)->∀p,H p=none->Q (.ref p) (upd H p (.tup (jR xs lo hi))))
theorem U5(K:PySem.W.Frag)(hK:X.K=K:=by rfl):SlR X (U4 K):=by
 subst hK;intro pins s σ H x v vl vu lo hi sl Q I rx hs pl pu h;obtain⟨a,xs,rfl,hx,q1,q2⟩:=h
 by_cases hw:HT.sIx xs.length 0 lo=0/\HT.sIx xs.length xs.length hi=xs.length
 ·cases rx;obtain⟨its,r,ht,hz⟩:=I.tuple hx
  have hlen:its.toArray.size=xs.length:=by rw[zq];exact r.length.symm
  exact⟨"tuple",_,PyProof.Rows.slot_tuple_getitem.lookup,ht.typeIs,HT2.getItem_tuple_whole ht hs pl pu (by rw[hlen];exact hw) ⟨.ref a,H,I,rfl,q1 hw⟩⟩
 ·exact Sw pins s σ H _ v vl vu lo hi sl Q I rx hs pl pu ⟨a,xs,rfl,hx,hw,q2 hw⟩
inductive TyQ (K:PySem.W.Frag) (H:Hp):V->String->Prop where
 | non:TyQ K H .non "NoneType"
 | bl (x:Bool):TyQ K H (.bl x) "bool"
 | int (i:Int):TyQ K H (.int i) "int"
 | str (x:Str):TyQ K H (.str x) "str"
 | lst {a:Addr}{xs:List V} (e:SqL K H a xs):TyQ K H (.ref a) "list"
 | tup {a:Addr}{xs:List V} (e:SqT K H a xs):TyQ K H (.ref a) "tuple"
 | dK {a:Addr}{kvs:List (Key×V)} (e:H a=some (.dK kvs)):TyQ K H (.ref a) "dict"
def U6(K:PySem.W.Frag):List V->Hp->VK->Prop:=λxs H Q=>∃x n t b,xs=[x,.ty n]/\TyQ K H x t/\PySem.W.kitOne K (.type t) (.type n)=some b/\Q (.bl b) H
theorem U7(K:PySem.W.Frag)(hK:X.K=K:=by rfl):iG X (.builtin "isinstance") (U6 K):=by
 subst hK;intro pins s σ H xs us Q I r h;obtain⟨x,n,t,b,rfl,ty,e,q⟩:=h;obtain⟨u,c,rfl,r1,r2⟩:=vals2 r;cases(show c=.type n from r2)
 have fin:∀tk,EP X pins σ Q (.bool b) {s with toks:=tk}:=λtk=>⟨.bl b,H,I.tok tk,rfl,q⟩
 cases ty with
 |non=>exact qt I r1 .non e fin
 |bl y=>exact qt I r1 (.bl y) e fin
 |int i=>exact qt I r1 (.int i) e fin
 |str y=>exact qt I r1 (.str y) e fin
 | @lst a xs ea =>
  cases(show u=Value.ref a from r1);obtain⟨its,_,p,_⟩:=I.list ea;obtain⟨o,ho,hc,_⟩:=p.isList;exact PySem.W.kia_one PySem.W.kitx_list I.kIn ⟨o,ho,hc⟩ e (λz=>nomatch z) fin
 | @tup a xs ea =>
  cases(show u=Value.ref a from r1);obtain⟨its,_,p,_⟩:=I.tuple ea;obtain⟨o,ho,hc,_⟩:=p;exact PySem.W.kia_one PySem.W.kitx_tuple I.kIn ⟨o,ho,hc⟩ e (λz=>nomatch z) fin
 | @dK a kvs ea=>exact qt I r1 (.dK ea) e fin
theorem U8(K:PySem.W.Frag)(n:String):PySem.W.kitOne K (.type n) (.type n)=some true:=by
 unfold PySem.W.kitOne;rw[if_pos (beq_self_eq_true _)]
end
theorem Hi:∀{ds:List PyData},(∀d∈ds,d.canLay0=true)->PyData.canLayAll0 ds=true
 | [],_=>rfl
 |d::ds,h=>by rw[PyData.canLayAll0,h d zx,Hi λx hx=>h x (zB _ hx)];rfl
theorem Hj{n:Nat}:∀{ds:List PyData},(∀d∈ds,d.depth<=n)->PyData.depthAll ds<=n
 | [],_=>by rw[PyData.depthAll];exact Nat.zero_le _
 |d::ds,h=>by
  rw[PyData.depthAll];exact Nat.max_le.mpr ⟨h d zx,Hj λx hx=>h x (zB _ hx)⟩
theorem U9{n:Nat}(hn:n<60){ds:List PyData}(h:∀d∈ds,d.canLay0=true/\d.depth<=n):okD (.list ds)=true:=by
 unfold okD;rw[zo];refine⟨?_,zj ?_⟩
 ·show PyData.canLayAll0 ds=true
  exact Hi λd hd=>(h d hd).1
 ·show PyData.depthAll ds+1<=60
  have:=Hj λd hd=>(h d hd).2
  omega
section
variable {X:Cx}
theorem Hl:∀{ls:List (List Nat)}{us:List Value},aN (ls.map λl=>V.str (S l)) us->StrsAre us (ls.map S)
 | [],us,r=>by rw[zJ] at r;cases r;exact .nil
 |l::ls,us,r=>by
  rw[zd] at r
  cases r with
  |cons r1 r2 =>
   obtain⟨t,e⟩:=r1;subst e;exact .cons _ t (Hl r2)
theorem Hm:∀(ls:List (List Nat)) (a:Array Nat),(ls.map S).foldl (λacc p=>acc++(S []).cps++p.cps) a=a++ls.flatten.toArray
 | [],a=>by simp
 |l::ls,a=>by
  rw[zd,List.foldl_cons,Hm ls];simp[S]
theorem Va(ls:List (List Nat)):Txt.join (S []) (ls.map S)=S ls.flatten:=by
 show Builtin.Str.glued (S []) (ls.map S)=_;unfold Builtin.Str.glued
 cases ls with
 |nil=>rfl
 |cons l ls =>
  show Str.mk ((ls.map S).foldl (λacc p=>acc++(S []).cps++p.cps) (S l).cps)=_;rw[Hm];simp[S]
def rJoin(K:PySem.W.Frag):V->List V->Hp->VK->Prop:=λx vs H Q=>∃(p:Addr) (ls:List (List Nat)),x=.str (S [])/\vs=[.ref p]/\SqL K H p (ls.map λl=>V.str (S l))/\(ls.map List.length).sum<=1000000/\Q (.str (S ls.flatten)) H
theorem Vb(K:PySem.W.Frag)(hK:X.K=K:=by rfl):MtR X "str.join" (rJoin K):=by
 subst hK;intro pins s σ H x xs v us Q I rx rs h;obtain⟨p,ls,rfl,rfl,hq,hz,q⟩:=h;obtain⟨t,rfl⟩:=rx;obtain⟨u,rfl,ru⟩:=vals1 rs;cases ru;obtain⟨its,rv,pl,_⟩:=I.list hq
 refine join_list pl.isList (ys:=ls.map S) (by simpa using Hl rv) ?_ λt' k=>⟨.str (S ls.flatten),H,I.tok k,⟨t',?_⟩,q⟩
 ·have e:((ls.map S).map (·.length)).sum=(ls.map List.length).sum:=by
   rw[zP];exact congrArg List.sum (jb λl _=>fB l)
  rw[e,fB];simp only[zN,Nat.mul_zero];omega
 ·rw[Va]
def Vc:R2:=λx y H Q=>∃(l:List Nat) (n:Int),x=.str (S l)/\y=.int n/\-1000000<n/\n<1000000/\l.length * n.toNat<=16777216/\Q (.str (S (List.replicate n.toNat l).flatten)) H
theorem Hn(l:List Nat):∀(n:Nat) (a:Array Nat),(List.replicate n (S l).cps).foldl (· ++ ·) a=a++(List.replicate n l).flatten.toArray
 | 0,a=>by simp
 |n+1,a=>by
  rw[List.replicate_succ,List.foldl_cons,Hn l n,List.replicate_succ,List.flatten_cons];simp[S]
theorem Vd:OpR X (binaryOp .Mult) Vc:=by
 intro pins s σ H x y v u Q I rx ry h;obtain⟨l,n,rfl,rfl,h1,h2,h3,q⟩:=h;obtain⟨t,rfl⟩:=rx;obtain⟨t',rfl⟩:=ry;have hs:sizeLine=16777216:=sizeLine_eq
 by_cases hn:n<1
 ·have e0:n.toNat=0:=by omega
  rw[e0] at q;exact P.mul_str_none hn (by omega) ⟨.str (S []),H,I.tok _,⟨s.toks,rfl⟩,q⟩
 refine P.mul_str ?_ (λ_ _=>?_) (λ_ _=>?_) ?_
 ·rw[zg (by omega),zg (by omega)];rfl
 ·rw[fB];intro hz
  have h4:(l.length:Int) * n<=16777216:=by
   have:((l.length * n.toNat:Nat):Int)<=16777216:=by omega
   rw[Int.natCast_mul,Int.toNat_of_nonneg (by omega)] at this;exact this
  have h5:(2 ^ 63 - 1) / n<(l.length:Int):=hz;have h6:=(Int.ediv_lt_iff_lt_mul (show 0<n by omega)).mp h5;omega
 ·rw[fB];unfold Builtin.Str.tooLong;exact zg (by omega)
 ·rw[if_neg (by omega)]
  by_cases hl:(n == 1 || (S l).length == 0)=true
  ·rw[if_pos hl]
   have e:(List.replicate n.toNat l).flatten=l:=by
    rw[Bool.or_eq_true,beq_iff_eq,beq_iff_eq,fB] at hl
    rcases hl with z | z
    ·rw[z];show(List.replicate 1 l).flatten=l;simp
    ·have z':=List.eq_nil_of_length_eq_zero z;subst z';rw[List.flatten_eq_nil_iff];intro x hx;exact(List.mem_replicate.mp hx).2
   rw[e] at q;exact⟨.str (S l),H,I,⟨t,rfl⟩,q⟩
  ·rw[if_neg hl,Hn];refine⟨?_,.str (S (List.replicate n.toNat l).flatten),H,I.tok _,⟨s.toks,?_⟩,q⟩
   ·show(#[]++(List.replicate n.toNat l).flatten.toArray).size<=sizeLine;simp only[Array.size_append,zq,List.length_flatten,List.map_replicate,List.sum_replicate_nat];simp;rw[Nat.mul_comm];omega
   ·congr 1;simp[S]
end
inductive D where
 | non | bl (b:Bool) | int (i:Int) | str (l:List Nat) | lst (ds:List D) | tup (ds:List D) | dic (ks vs:List D) | ob (n:Nat)
inductive Ob where
 | ins (c:Str) (fs:List (Str×D))
 | ml (ds:List D)
 | dt (kvs:List (List Key×D))
 | df (kvs:List (List Key×D))
 | dk (kvs:List (Key×D))
abbrev aq:=List Ob
abbrev aA:=List (Option D)
structure Xc where
 cls:Str
 fs:List (Str×D)
inductive Res (α:Type) where
 | ok (a:α) (O:aq) | ex (x:Xc) (O:aq) | no
inductive Fl where
 | nx (ρ:aA) (O:aq) | rt (d:D) (O:aq) | bk (ρ:aA) (O:aq) | ct (ρ:aA) (O:aq) | ex (x:Xc) (O:aq) | no
abbrev M(α:Type):=aA->aq->Res α
abbrev MS:=aA->aq->Fl
def Res.bind{α β:Type}(r:Res α)(f:α->aq->Res β):Res β:=match r with
 | .ok a O=>f a O
 | .ex x O=>.ex x O
 | .no=>.no
theorem Res.bind_ok{α β:Type}{r:Res α}{f:α->aq->Res β}{b:β}{O':aq}(h:r.bind f=.ok b O'):∃a O,r=.ok a O/\f a O=.ok b O':=by
 cases r with
 |ok a O=>exact⟨a,O,rfl,h⟩
 |ex x O=>cases h
 |no=>cases h
def qF:Expr->Bool
 | .Starred _ _=>false
 | _=>true
theorem dq{e:Expr}{es:List Expr}{env:Env}(h:qF e=true):starEach (e::es) env=(false,eval e env)::starEach es env:=by
 cases e<;>first | rfl | cases h
theorem fJ{pos:Pos}{env:Env}:∀{es:List Expr},es.all qF=true->(backTo pos (starEach es env)).any (·.1)=false
 | [],_=>by simp[starEach,backTo]
 |e::es,h=>by
  rw[List.all_cons,zo] at h;rw[dq h.1];show(false || (backTo pos (starEach es env)).any (·.1))=false;rw[fJ h.2];rfl
theorem qG{e:Expr}{env:Env}(h:qF e=true):starEach [e] env=[(false,eval e env)]:=by rw[dq h];simp[starEach]
theorem Ve{e f:Expr}{env:Env}(h:qF e=true)(h':qF f=true):starEach [e,f] env=[(false,eval e env),(false,eval f env)]:=by rw[dq h,qG h']
abbrev Frag:=PySem.W.Frag
def oJ:Key->D
 | .inl i=>.int i
 | .inr x=>.str x.cps.toList
def RdK(K:Frag)(H:Hp)(a:Addr)(xs:List V):Prop:=Rd H a (.lst xs)\/∃(its:List Value) (n:Nat),K.lookup a=some {cls:=.type "list",data:=.seq its.toArray n}/\its.length<=sizeLine/\aN xs its
theorem RdK.sq{K:Frag}{H:Hp}{a:Addr}{xs:List V}(h:RdK K H a xs):SqL K H a xs:=by
 rcases h with h | ⟨its,n,h1,h2,h3⟩
 ·exact .inl h
 ·exact .inr ⟨_,its.toArray,n,h1,rfl,rfl,rfl,by simpa using h2,by simpa using h3⟩
theorem RdK.ok{X:Cx}{pins:List (Addr×Obj)}{σ:St}{H:Hp}{s:Shared}{a:Addr}{xs:List V}(h:RdK X.K H a xs)(I:Inv X pins σ H s):xs.length<=sizeLine/\∃(its:List Value) (n:Nat),aN xs its/\s.heap.get? a=some {cls:=.type "list",data:=.seq its.toArray n}:=by
 rcases h with h | ⟨its,n,h1,h2,h3⟩
 ·exact h.ok I.hok
 ·exact⟨by rw[h3.length];exact h2,its,n,h3,I.kIn a _ h1⟩
def TqT(K:Frag)(F:Hp)(a:Addr)(xs:List V):Prop :=
 F a=some (.tup xs)\/∃(o:Obj) (its:Array Value) (n:Nat),K.lookup a=some o/\o.cls=.type "tuple"/\o.data=.seq its n/\its.size<=sizeLine/\aN xs its.toList
theorem TqT.sq{K:Frag}{F:Hp}{a:Addr}{xs:List V}(h:TqT K F a xs):SqT K F a xs:=h.imp .inl id
mutual
def Rp(K:Frag)(F:Hp)(as:List Addr):V->D->Prop
 |v,.non=>v=.non
 |v,.bl b=>v=.bl b
 |v,.int i=>v=.int i
 |v,.str l=>v=.str (S l)
 |v,.lst ds=>∃a xs,v=.ref a/\RdK K F a xs/\Rps K F as xs ds
 |v,.tup ds=>∃a xs,v=.ref a/\TqT K F a xs/\Rps K F as xs ds
 |v,.dic ks vs=>∃(a:Addr) (kvs:List (Key×V)),v=.ref a/\F a=some (.dK kvs)/\ks=kvs.map (λp=>oJ p.1)/\Rps K F as (kvs.map (·.2)) vs
 |v,.ob n=>∃a,v=.ref a/\as[n]?=some a
def Rps(K:Frag)(F:Hp)(as:List Addr):List V->List D->Prop
 |xs,[]=>xs=[]
 |xs,d::ds=>∃x r,xs=x::r/\Rp K F as x d/\Rps K F as r ds
end
section
variable {K:Frag}{F F':Hp}{as as':List Addr}
theorem Rd.mono{H H':Hp}{a:Addr}{u:HO}(e:Same H H')(h:Rd H a u):Rd H' a u:=by
 rcases h with h | ⟨o,h⟩
 ·exact .inl (e _ _ h)
 ·exact .inr ⟨o,e _ _ h⟩
theorem RdK.mono{H H':Hp}{a:Addr}{xs:List V}(e:Same H H')(h:RdK K H a xs):RdK K H' a xs:=h.imp (λz=>z.mono e) id
mutual
theorem Rp.mono(e:Same F F')(ea:∀(n:Nat) (a:Addr),as[n]?=some a->as'[n]?=some a):∀(d:D) {v:V},Rp K F as v d->Rp K F' as' v d
 | .non,v,h=>by rw[Rp] at h ⊢;exact h
 | .bl b,v,h=>by rw[Rp] at h ⊢;exact h
 | .int i,v,h=>by rw[Rp] at h ⊢;exact h
 | .str x,v,h=>by rw[Rp] at h ⊢;exact h
 | .lst ds,v,h=>by
  rw[Rp] at h ⊢;obtain⟨a,xs,h1,h2,h3⟩:=h;exact⟨a,xs,h1,h2.mono e,Rps.mono e ea ds h3⟩
 | .tup ds,v,h=>by
  rw[Rp] at h ⊢;obtain⟨a,xs,h1,h2,h3⟩:=h;exact⟨a,xs,h1,h2.imp (e _ _) id,Rps.mono e ea ds h3⟩
 | .dic ks vs,v,h=>by
  rw[Rp] at h ⊢;obtain⟨a,kvs,h1,h2,h3,h4⟩:=h;exact⟨a,kvs,h1,e _ _ h2,h3,Rps.mono e ea vs h4⟩
 | .ob n,v,h=>by
  rw[Rp] at h ⊢;obtain⟨a,h1,h2⟩:=h;exact⟨a,h1,ea _ _ h2⟩
theorem Rps.mono(e:Same F F')(ea:∀(n:Nat) (a:Addr),as[n]?=some a->as'[n]?=some a):∀(ds:List D) {xs:List V},Rps K F as xs ds->Rps K F' as' xs ds
 | [],xs,h=>by rw[Rps] at h ⊢;exact h
 |d::ds,xs,h=>by
  rw[Rps] at h ⊢;obtain⟨x,r,h1,h2,h3⟩:=h;exact⟨x,r,h1,Rp.mono e ea d h2,Rps.mono e ea ds h3⟩
end
theorem Rp.non:Rp K F as .non .non:=by rw[Rp]
theorem Rp.bl{b:Bool}:Rp K F as (.bl b) (.bl b):=by rw[Rp]
theorem Rp.int{i:Int}:Rp K F as (.int i) (.int i):=by rw[Rp]
theorem Rp.str{l:List Nat}:Rp K F as (.str (S l)) (.str l):=by rw[Rp]
theorem Rp.unN{v:V}(h:Rp K F as v .non):v=.non:=by rw[Rp] at h;exact h
theorem Rp.unB{v:V}{b:Bool}(h:Rp K F as v (.bl b)):v=.bl b:=by rw[Rp] at h;exact h
theorem Rp.unI{v:V}{i:Int}(h:Rp K F as v (.int i)):v=.int i:=by rw[Rp] at h;exact h
theorem Rp.unS{v:V}{l:List Nat}(h:Rp K F as v (.str l)):v=.str (S l):=by rw[Rp] at h;exact h
theorem Rp.unL{v:V}{ds:List D}(h:Rp K F as v (.lst ds)):∃a xs,v=.ref a/\RdK K F a xs/\Rps K F as xs ds:=by rw[Rp] at h;exact h
theorem Rp.unT'{v:V}{ds:List D}(h:Rp K F as v (.tup ds)):∃a xs,v=.ref a/\TqT K F a xs/\Rps K F as xs ds:=by rw[Rp] at h;exact h
theorem Rp.unT{v:V}{ds:List D}(h:Rp K F as v (.tup ds)):∃a xs,v=.ref a/\SqT K F a xs/\Rps K F as xs ds:=let ⟨a,xs,e,h1,h2⟩:=h.unT';⟨a,xs,e,h1.sq,h2⟩
theorem Rp.unO{v:V}{n:Nat}(h:Rp K F as v (.ob n)):∃a,v=.ref a/\as[n]?=some a:=by rw[Rp] at h;exact h
theorem Rp.unD{v:V}{ks vs:List D}(h:Rp K F as v (.dic ks vs)):∃(a:Addr) (kvs:List (Key×V)),v=.ref a/\F a=some (.dK kvs)/\ks=kvs.map (λp=>oJ p.1)/\Rps K F as (kvs.map (·.2)) vs:=by rw[Rp] at h;exact h
theorem Rp.mkL{a:Addr}{xs:List V}{ds:List D}(h:RdK K F a xs)(hs:Rps K F as xs ds):Rp K F as (.ref a) (.lst ds):=by rw[Rp];exact⟨a,xs,rfl,h,hs⟩
theorem Rp.mkT{a:Addr}{xs:List V}{ds:List D}(h:TqT K F a xs)(hs:Rps K F as xs ds):Rp K F as (.ref a) (.tup ds):=by rw[Rp];exact⟨a,xs,rfl,h,hs⟩
theorem Rp.mkO{a:Addr}{n:Nat}(h:as[n]?=some a):Rp K F as (.ref a) (.ob n):=by rw[Rp];exact⟨a,rfl,h⟩
theorem Rps.nil:Rps K F as [] []:=by rw[Rps]
theorem Rps.cons{x:V}{xs:List V}{d:D}{ds:List D}(h:Rp K F as x d)(hs:Rps K F as xs ds):Rps K F as (x::xs) (d::ds):=by
 rw[Rps];exact⟨x,xs,rfl,h,hs⟩
theorem Rps.un{xs:List V}{d:D}{ds:List D}(h:Rps K F as xs (d::ds)):∃x r,xs=x::r/\Rp K F as x d/\Rps K F as r ds:=by rw[Rps] at h;exact h
theorem Rps.un0{xs:List V}(h:Rps K F as xs []):xs=[]:=by rw[Rps] at h;exact h
theorem Rps.length:∀{ds:List D}{xs:List V},Rps K F as xs ds->xs.length=ds.length
 | [],xs,h=>by rw[h.un0];rfl
 |d::ds,xs,h=>by
  obtain⟨x,r,rfl,_,h3⟩:=h.un;simp[Rps.length h3]
theorem Rps.get:∀{ds:List D}{xs:List V}{i:Nat}{x:V},Rps K F as xs ds->xs[i]?=some x->∃d,ds[i]?=some d/\Rp K F as x d
 | [],xs,i,x,h,e=>by rw[h.un0] at e;simp at e
 |d::ds,xs,i,x,h,e=>by
  obtain⟨y,r,rfl,h2,h3⟩:=h.un
  cases i with
  |zero=>simp at e;subst e;exact⟨d,rfl,h2⟩
  |succ i =>
   obtain⟨d',e',q⟩:=Rps.get (i:=i) (x:=x) h3 (by simpa using e);exact⟨d',by simpa using e',q⟩
theorem Rps.get':∀{ds:List D}{xs:List V}{i:Nat}{d:D},Rps K F as xs ds->ds[i]?=some d->∃x,xs[i]?=some x/\Rp K F as x d:=by
 intro ds xs i d h e;have hl:=h.length
 have hi:i<xs.length:=by rw[hl];exact(zl.mp e).1
 obtain⟨d',e',q⟩:=h.get (zp hi);rw[e] at e';cases e';exact⟨_,zp hi,q⟩
theorem Rps.append{ys:List V}{es:List D}(hy:Rps K F as ys es):∀{ds:List D}{xs:List V},Rps K F as xs ds->Rps K F as (xs++ys) (ds++es)
 | [],xs,h=>by rw[h.un0];exact hy
 |e::ds,xs,h=>by
  obtain⟨y,r,rfl,h2,h3⟩:=h.un;exact Rps.cons h2 (Rps.append hy h3)
theorem Rps.snoc{x:V}{d:D}{ds:List D}{xs:List V}(h:Rps K F as xs ds)(hx:Rp K F as x d):Rps K F as (xs++[x]) (ds++[d]):=Rps.append (Rps.cons hx Rps.nil) h
theorem Rps.take:∀{ds:List D}{xs:List V} (n:Nat),Rps K F as xs ds->Rps K F as (xs.take n) (ds.take n)
 | _,_,0,_=>by simpa using Rps.nil
 | [],xs,n+1,h=>by rw[h.un0];simpa using Rps.nil
 |d::ds,xs,n+1,h=>by
  obtain⟨y,r,rfl,h2,h3⟩:=h.un;exact Rps.cons h2 (Rps.take n h3)
theorem Rps.drop:∀{ds:List D}{xs:List V} (n:Nat),Rps K F as xs ds->Rps K F as (xs.drop n) (ds.drop n)
 | _,_,0,h=>by simpa using h
 | [],xs,n+1,h=>by rw[h.un0];simpa using Rps.nil
 |d::ds,xs,n+1,h=>by
  obtain⟨y,r,rfl,h2,h3⟩:=h.un;exact Rps.drop n h3
theorem Rps.set:∀{ds:List D}{xs:List V}{x:V}{d:D} (n:Nat),Rps K F as xs ds->Rp K F as x d->Rps K F as (xs.set n x) (ds.set n d)
 | [],xs,x,d,n,h,_=>by rw[h.un0];simpa using Rps.nil
 |e::ds,xs,x,d,0,h,hx=>by
  obtain⟨y,r,rfl,h2,h3⟩:=h.un;exact Rps.cons hx h3
 |e::ds,xs,x,d,n+1,h,hx=>by
  obtain⟨y,r,rfl,h2,h3⟩:=h.un;exact Rps.cons h2 (Rps.set n h3 hx)
theorem Rps.rep{ds:List D}{xs:List V}(h:Rps K F as xs ds):∀n:Nat,Rps K F as (List.replicate n xs).flatten (List.replicate n ds).flatten
 | 0=>by simpa using Rps.nil
 |n+1=>by
  rw[List.replicate_succ,List.replicate_succ,List.flatten_cons,List.flatten_cons];exact Rps.append (Rps.rep h n) h
theorem Rps.dropLast{ds:List D}{xs:List V}(h:Rps K F as xs ds):Rps K F as xs.dropLast ds.dropLast:=by
 rw[List.dropLast_eq_take,List.dropLast_eq_take,h.length];exact h.take _
end
def isD:HO->Bool
 | .ins _ _ _=>false
 | .own _=>false
 | .xd _=>false
 | _=>true
def isL:HO->Bool
 | .lst _=>true
 | .dK _=>true
 | _=>false
theorem Ho{o:HO}(h:isL o=true):isD o=true:=by
 cases o<;>first | rfl | cases h
structure Gr(H F:Hp)(as:List Addr)(H' F':Hp)(as':List Addr):Prop where
 fz:∀a o,H a=some o->a∉as->isL o=true->F' a=F a
 ff:Same F F'
 nw:∃new,as'=as++new/\∀a∈new,H a=none
 fr:∀a o,H a=some o->a∉as->isD o=true->H' a=some o
 dm:∀a,H' a=none->H a=none
 kz:∀a o u,H a=some (.frz o u)->H' a=some (.frz o u)
structure Pt where
 p:Addr->Prop
 ss:List (Nat×V×D)
instance:CoeFun Pt (λ_=>Addr->Prop):=⟨Pt.p⟩
def Pt.all(H:Hp):Pt:=⟨λa=>H a≠none,[]⟩
structure GrS(P:Pt)(H F:Hp)(as:List Addr)(H' F':Hp)(as':List Addr):Prop where
 fz:∀a o,P a->H a=some o->a∉as->isL o=true->F' a=F a
 ff:Same F F'
 nw:∃new,as'=as++new/\∀a∈new,H a=none
 fr:∀a o,P a->H a=some o->a∉as->isD o=true->H' a=some o
 dm:∀a,H' a=none->H a=none
 kz:∀a o u,H a=some (.frz o u)->H' a=some (.frz o u)
section
variable {H F H' F' H2 F2:Hp}{as as' as2:List Addr}{P:Pt}
theorem Gr.refl:Gr H F as H F as:=⟨λ_ _ _ _ _=>rfl,Same.refl F,⟨[],by simp,λ_ h=>nomatch h⟩,λ_ _ h _ _=>h,λ_ h=>h,λ_ _ _ h=>h⟩
theorem Gr.trans(a:Gr H F as H' F' as')(b:Gr H' F' as' H2 F2 as2):Gr H F as H2 F2 as2:=by
 obtain⟨n1,e1,h1⟩:=a.nw;obtain⟨n2,e2,h2⟩:=b.nw;refine⟨λc o hc hn hd=>?_,a.ff.trans b.ff,⟨n1++n2,by rw[e2,e1,jc],λc hc=>?_⟩,λc o e hn hd=>?_,λc h=>a.dm c (b.dm c h),λc o u h=>b.kz c o u (a.kz c o u h)⟩
 ·have q:=a.fr c o hc hn (Ho hd);refine(b.fz c o q ?_ hd).trans (a.fz c o hc hn hd);rw[e1];intro z
  rcases zE.mp z with z | z
  ·exact hn z
  ·rw[h1 c z] at hc;cases hc
 ·rcases zE.mp hc with z | z
  ·exact h1 c z
  ·exact a.dm c (h2 c z)
 ·have q:=a.fr c o e hn hd;refine b.fr c o q ?_ hd;rw[e1];intro z
  rcases zE.mp z with z | z
  ·exact hn z
  ·rw[h1 c z] at e;cases e
theorem Gr.toS(a:Gr H F as H' F' as'):GrS P H F as H' F' as':=⟨λc o _=>a.fz c o,a.ff,a.nw,λc o _ e hn hd=>a.fr c o e hn hd,a.dm,a.kz⟩
theorem GrS.refl:GrS P H F as H F as:=Gr.refl.toS
theorem GrS.trans(a:GrS P H F as H' F' as')(b:GrS P H' F' as' H2 F2 as2):GrS P H F as H2 F2 as2:=by
 obtain⟨n1,e1,h1⟩:=a.nw;obtain⟨n2,e2,h2⟩:=b.nw;refine⟨λc o p hc hn hd=>?_,a.ff.trans b.ff,⟨n1++n2,by rw[e2,e1,jc],λc hc=>?_⟩,λc o p e hn hd=>?_,λc h=>a.dm c (b.dm c h),λc o u h=>b.kz c o u (a.kz c o u h)⟩
 ·have q:=a.fr c o p hc hn (Ho hd);refine(b.fz c o p q ?_ hd).trans (a.fz c o p hc hn hd);rw[e1];intro z
  rcases zE.mp z with z | z
  ·exact hn z
  ·rw[h1 c z] at hc;cases hc
 ·rcases zE.mp hc with z | z
  ·exact h1 c z
  ·exact a.dm c (h2 c z)
 ·have q:=a.fr c o p e hn hd;refine b.fr c o p q ?_ hd;rw[e1];intro z
  rcases zE.mp z with z | z
  ·exact hn z
  ·rw[h1 c z] at e;cases e
theorem GrS.mono{P':Pt}(a:GrS P H F as H' F' as')(h:∀c,P' c->P c):GrS P' H F as H' F' as':=⟨λc o p=>a.fz c o (h c p),a.ff,a.nw,λc o p=>a.fr c o (h c p),a.dm,a.kz⟩
theorem GrS.gr(a:GrS (Pt.all H) H F as H' F' as'):Gr H F as H' F' as':=⟨λc o e=>a.fz c o (show H c≠none by rw[e];exact λz=>nomatch z) e,a.ff,a.nw,λc o e=>a.fr c o (show H c≠none by rw[e];exact λz=>nomatch z) e,a.dm,a.kz⟩
theorem Gr.at_(a:Gr H F as H' F' as'):∀(n:Nat) (c:Addr),as[n]?=some c->as'[n]?=some c:=λn c h=>by
 obtain⟨new,e,_⟩:=a.nw;rw[e,zD (zl.mp h).1];exact h
theorem GrS.at_(a:GrS P H F as H' F' as'):∀(n:Nat) (c:Addr),as[n]?=some c->as'[n]?=some c:=λn c h=>by
 obtain⟨new,e,_⟩:=a.nw;rw[e,zD (zl.mp h).1];exact h
theorem Gr.out(a:Gr H F as H' F' as'){c:Addr}(h:c∉as)(e:H c≠none):c∉as':=by
 obtain⟨new,e1,h1⟩:=a.nw;rw[e1];intro z
 rcases zE.mp z with z | z
 ·exact h z
 ·exact e (h1 c z)
theorem GrS.out(a:GrS P H F as H' F' as'){c:Addr}(h:c∉as)(e:H c≠none):c∉as':=by
 obtain⟨new,e1,h1⟩:=a.nw;rw[e1];intro z
 rcases zE.mp z with z | z
 ·exact h z
 ·exact e (h1 c z)
theorem Rp.gr{K:Frag}{v:V}{d:D}(h:Rp K F as v d)(a:Gr H F as H' F' as'):Rp K F' as' v d:=Rp.mono a.ff a.at_ d h
theorem Rps.gr{K:Frag}{v:List V}{d:List D}(h:Rps K F as v d)(a:Gr H F as H' F' as'):Rps K F' as' v d:=Rps.mono a.ff a.at_ d h
theorem Rp.grS{K:Frag}{v:V}{d:D}(h:Rp K F as v d)(a:GrS P H F as H' F' as'):Rp K F' as' v d:=Rp.mono a.ff a.at_ d h
theorem Rps.grS{K:Frag}{v:List V}{d:List D}(h:Rps K F as v d)(a:GrS P H F as H' F' as'):Rps K F' as' v d:=Rps.mono a.ff a.at_ d h
end
structure FsR(K:Frag)(F:Hp)(as:List Addr)(gs:List (Str×V))(fs:List (Str×D)):Prop where
 nm:gs.map (·.1)=fs.map (·.1)
 vl:Rps K F as (gs.map (·.2)) (fs.map (·.2))
def ObR(K:Frag)(mg:Str->Option Value)(H F:Hp)(as:List Addr)(a:Addr):Ob->Prop
 | .ins c fs=>∃C dx gs,mg c=some (.ref C)/\H a=some (.ins C dx gs)/\FsR K F as gs fs
 | .ml ds=>∃xs,H a=some (.lst xs)/\Rps K F as xs ds
 | .dt kvs=>∃xs:List (List Key×V),H a=some (.dT xs)/\xs.map (·.1)=kvs.map (·.1)/\Rps K F as (xs.map (·.2)) (kvs.map (·.2))
 | .df kvs=>∃(o:Obj) (xs:List (List Key×V)),H a=some (.frz o (.dT xs))/\xs.map (·.1)=kvs.map (·.1)/\Rps K F as (xs.map (·.2)) (kvs.map (·.2))
 | .dk kvs=>∃xs:List (Key×V),H a=some (.dK xs)/\xs.map (·.1)=kvs.map (·.1)/\Rps K F as (xs.map (·.2)) (kvs.map (·.2))
structure RlO(K:Frag)(mg:Str->Option Value)(O:aq)(H F:Hp)(as:List Addr):Prop where
 fh:Same F H
 fd:∀a o,F a=some o->isD o=true
 nd:as.Nodup
 len:as.length=O.length
 fa:∀a∈as,F a=none
 ob:∀(n:Nat) (a:Addr) (o:Ob),as[n]?=some a->O[n]?=some o->ObR K mg H F as a o
inductive Md where
 | v | s | o
 deriving DecidableEq
def jA:D->Bool
 | .lst _=>false
 | _=>true
def iJ(P:Pt)(K:Frag)(H F:Hp)(as:List Addr):Md->V->D->Prop
 | .v,v,d=>Rp K F as v d
 | .s,v,d=>Rp K F as v d\/∃a xs ds,v=.ref a/\d=.lst ds/\H a=some (.lst xs)/\a∉as/\P a/\Rps K F as xs ds
 | .o,v,d=>(jA d=true/\Rp K F as v d)\/∃a xs ds,v=.ref a/\d=.lst ds/\H a=some (.lst xs)/\F a=none/\a∉as/\¬P a/\Rps K F as xs ds
structure SlO(K:Frag)(md:List Md)(P:Pt)(ρ:aA)(σ:St)(H F:Hp)(as:List Addr):Prop where
 len:σ.length=md.length
 len':ρ.length=md.length
 pd:∀a,P a->H a≠none
 sl:∀(i:Nat) (m:Md) (d:D),md[i]?=some m->ρ[i]?=some (some d)->∃v,σ[i]?=some (some v)/\iJ P K H F as m v d
 inj:∀(i j:Nat) (a:Addr) (ds es:List D),md[i]?=some .o->md[j]?=some .o->ρ[i]?=some (some (.lst ds))->ρ[j]?=some (some (.lst es))->σ[i]?=some (some (.ref a))->σ[j]?=some (some (.ref a))->i=j
 pin:∀x∈P.ss,md[x.1]?=some .s/\ρ[x.1]?=some (some x.2.2)/\σ[x.1]?=some (some x.2.1)
section
variable {K:Frag}{mg:Str->Option Value}{md:List Md}{P:Pt}{ρ:aA}{σ:St}{H F H' F':Hp}{as as':List Addr}{O O':aq}
theorem iJ.step{m:Md}{v:V}{d:D}(h:iJ P K H F as m v d)(g:Gr H F as H' F' as'):iJ P K H' F' as' m v d:=by
 cases m with
 |v=>exact Rp.gr (show Rp K F as v d from h) g
 |s =>
  rcases h with h | ⟨a,xs,ds,e1,e2,e3,e4,e5,e6⟩
  ·exact .inl (h.gr g)
  ·exact .inr ⟨a,xs,ds,e1,e2,g.fr _ _ e3 e4 rfl,g.out e4 (by rw[e3];exact λz=>nomatch z),e5,e6.gr g⟩
 |o =>
  rcases h with⟨h1,h⟩ | ⟨a,xs,ds,e1,e2,e3,e0,e4,e5,e6⟩
  ·exact .inl ⟨h1,h.gr g⟩
  ·have hn:H a≠none:=by rw[e3];exact λz=>nomatch z
   exact .inr ⟨a,xs,ds,e1,e2,g.fr _ _ e3 e4 rfl,by rw[g.fz a _ e3 e4 rfl];exact e0,g.out e4 hn,e5,e6.gr g⟩
theorem SlO.step(h:SlO K md P ρ σ H F as)(g:Gr H F as H' F' as'):SlO K md P ρ σ H' F' as' :=
 ⟨h.len,h.len',λa p z=>h.pd a p (g.dm a z),λi m d e1 e2=>let ⟨v,q,r⟩:=h.sl i m d e1 e2;⟨v,q,r.step g⟩,h.inj,h.pin⟩
end
def Sv(K:Frag)(H F:Hp)(as:List Addr)(v:V)(d:D):Prop :=
 Rp K F as v d\/∃a xs ds,v=.ref a/\d=.lst ds/\H a=some (.lst xs)/\a∉as/\Rps K F as xs ds
def Lk(K:Frag)(H F:Hp)(as:List Addr)(v:V)(d:D):Prop :=
 Rp K F as v d\/∃a xs ds,v=.ref a/\d=.lst ds/\H a=some (.lst xs)/\Rps K F as xs ds
def Ow(K:Frag)(N:Addr->Prop)(H F:Hp)(as:List Addr)(v:V)(d:D):Prop :=
 (jA d=true/\Rp K F as v d)\/∃a xs ds,v=.ref a/\d=.lst ds/\H a=some (.lst xs)/\F a=none/\a∉as/\N a/\Rps K F as xs ds
def bB(O:aq)(d:D):D:=match d with
 | .ob n=>match O[n]? with
  |some (.ml ds)=>.lst ds
  | _=>.ob n
 |d=>d
section
variable {K:Frag}{mg:Str->Option Value}{H0 H F H' F':Hp}{as as':List Addr}{O:aq}{v:V}{d:D}
theorem Sv.gr(h:Sv K H F as v d)(g:Gr H F as H' F' as'):Sv K H' F' as' v d:=by
 rcases h with h | ⟨a,xs,ds,e1,e2,e3,e4,e5⟩
 ·exact .inl (h.gr g)
 ·exact .inr ⟨a,xs,ds,e1,e2,g.fr _ _ e3 e4 rfl,g.out e4 (by rw[e3];exact λz=>nomatch z),e5.gr g⟩
theorem Sv.lk(h:Sv K H F as v d)(r:RlO K mg O H F as):Lk K H F as v (bB O d):=by
 rcases h with h | ⟨a,xs,ds,rfl,rfl,e3,e4,e5⟩
 ·cases d with
  |ob n =>
   obtain⟨a,rfl,ha⟩:=h.unO;unfold bB;dsimp only
   split
   ·rename_i ds e;obtain⟨xs,e1,e2⟩:=r.ob n a _ ha e;exact .inr ⟨a,xs,ds,rfl,rfl,e1,e2⟩
   ·exact .inl (Rp.mkO ha)
  | _=>exact .inl h
 ·exact .inr ⟨a,xs,ds,rfl,rfl,e3,e5⟩
theorem Lk.list{ds:List D}(h:Lk K H F as v (.lst ds))(fh:Same F H):∃a xs,v=.ref a/\RdK K H a xs/\Rps K F as xs ds:=by
 rcases h with h | ⟨a,xs,ds',e1,e2,e3,e4⟩
 ·obtain⟨a,xs,e,h1,h2⟩:=h.unL;exact⟨a,xs,e,h1.mono fh,h2⟩
 ·cases e2;exact⟨a,xs,e1,.inl (.inl e3),e4⟩
theorem Lk.rp(h:Lk K H F as v d)(hn:jA d=true):Rp K F as v d:=by
 rcases h with h | ⟨a,xs,ds',e1,rfl,e3,e4⟩
 ·exact h
 ·cases hn
theorem Sv.rp(h:Sv K H F as v d)(hn:jA d=true):Rp K F as v d:=by
 rcases h with h | ⟨a,xs,ds',e1,rfl,e3,e4⟩
 ·exact h
 ·cases hn
theorem Ow.sv{N:Addr->Prop}(h:Ow K N H F as v d):Sv K H F as v d:=by
 rcases h with⟨_,h⟩ | ⟨a,xs,ds,e1,e2,e3,e4,e5,e6,e7⟩
 ·exact .inl h
 ·exact .inr ⟨a,xs,ds,e1,e2,e3,e5,e7⟩
theorem Gr.lay{p:Addr}{o:HO}(hp:H p=none):Gr H F as (upd H p o) F as :=
 ⟨λ_ _ _ _ _=>rfl,Same.refl F,⟨[],by simp,λ_ h=>nomatch h⟩,λa o' e _ _=>by rw[aO (cH e hp)];exact e,λa e=>by
  by_cases h:a=p
  ·subst h;exact hp
  ·rwa [aO h] at e,λa o' u e=>by rw[aO (cH e hp)];exact e⟩
theorem ObR.keep{a:Addr}{o:Ob}(h:ObR K mg H F as a o)(hH:H' a=H a)(e:Same F F')(ea:∀(n:Nat) (a:Addr),as[n]?=some a->as'[n]?=some a):ObR K mg H' F' as' a o:=by
 cases o with
 |ins c fs =>
  obtain⟨C,dx,gs,h1,h2,h3,h4⟩:=h;exact⟨C,dx,gs,h1,by rw[hH];exact h2,h3,Rps.mono e ea _ h4⟩
 |ml ds =>
  obtain⟨xs,h1,h2⟩:=h;exact⟨xs,by rw[hH];exact h1,Rps.mono e ea _ h2⟩
 |dt kvs =>
  obtain⟨xs,h1,h2,h3⟩:=h;exact⟨xs,by rw[hH];exact h1,h2,Rps.mono e ea _ h3⟩
 |df kvs =>
  obtain⟨o,xs,h1,h2,h3⟩:=h;exact⟨o,xs,by rw[hH];exact h1,h2,Rps.mono e ea _ h3⟩
 |dk kvs =>
  obtain⟨xs,h1,h2,h3⟩:=h;exact⟨xs,by rw[hH];exact h1,h2,Rps.mono e ea _ h3⟩
theorem RlO.at{n:Nat}{a:Addr}{o:Ob}(r:RlO K mg O H F as)(ha:as[n]?=some a)(ho:O[n]?=some o):H a≠none:=by
 have q:=r.ob n a o ha ho
 cases o with
 |ins c fs=>obtain⟨C,dx,gs,h1,h2,_⟩:=q;rw[h2];exact λz=>nomatch z
 |ml ds=>obtain⟨xs,h1,_⟩:=q;rw[h1];exact λz=>nomatch z
 |dt kvs=>obtain⟨xs,h1,_⟩:=q;rw[h1];exact λz=>nomatch z
 |df kvs=>obtain⟨o,xs,h1,_⟩:=q;rw[h1];exact λz=>nomatch z
 |dk kvs=>obtain⟨xs,h1,_⟩:=q;rw[h1];exact λz=>nomatch z
theorem RlO.all{a:Addr}(r:RlO K mg O H F as)(ha:a∈as):H a≠none:=by
 obtain⟨n,hn,e⟩:=List.mem_iff_getElem.mp ha
 have hO:n<O.length:=by rw[<-r.len];exact hn
 exact r.at (n:=n) (by rw[zp hn,e]) (zp hO)
theorem RlO.lay{p:Addr}{o:HO}(r:RlO K mg O H F as)(hp:H p=none):RlO K mg O (upd H p o) F as:=by
 refine⟨λa u e=>?_,r.fd,r.nd,r.len,r.fa,λn a u ha hu=>(r.ob n a u ha hu).keep (aO ?_) (Same.refl F) λ_ _ h=>h⟩
 ·have q:=r.fh a u e;rw[aO (cH q hp)];exact q
 ·intro z;subst z;exact r.at ha hu hp
theorem Gr.frz{p:Addr}{o:HO}(hp:H p=none)(g:Gr H F as H' F' as')(hf:F' p=none):Gr H F as H' (upd F' p o) as' :=
 ⟨λa o' ha hn hd=>by rw[aO (λz=>by subst z;rw[hp] at ha;cases ha)];exact g.fz a o' ha hn hd,λa u e=>by
  have q:=g.ff a u e
  rw[aO (cH q hf)];exact q,g.nw,g.fr,g.dm,g.kz⟩
theorem RlO.frz{p:Addr}{o:HO}(r:RlO K mg O H F as)(hp:H p=some o)(hf:F p=none)(ha:p∉as)(hd:isD o=true):RlO K mg O H (upd F p o) as:=by
 have ff:Same F (upd F p o):=λa u e=>by rw[aO (cH e hf)];exact e
 refine⟨λa u e=>?_,λa u e=>?_,r.nd,r.len,λa h=>?_,λn a u h1 h2=>(r.ob n a u h1 h2).keep rfl ff λ_ _ h=>h⟩
 ·by_cases h:a=p
  ·subst h;rw[bM] at e;cases e;exact hp
  ·rw[aO h] at e;exact r.fh a u e
 ·by_cases h:a=p
  ·subst h;rw[bM] at e;cases e;exact hd
  ·rw[aO h] at e;exact r.fd a u e
 ·rw[aO (λz=>by subst z;exact ha h)];exact r.fa a h
end
abbrev RR:=(Addr->Prop)->Hp->Hp->List Addr->V->D->Prop
def rV(K:Frag):RR:=λ_ _ F as v d=>Rp K F as v d
def rS(K:Frag):RR:=λ_ H F as v d=>Sv K H F as v d
def rO(K:Frag):RR:=λN H F as v d=>Ow K N H F as v d
def rA(K:Frag):Md->RR
 | .v=>rV K
 | _=>rS K
def gn(R:RR):Prop:=∀(N N':Addr->Prop) (H F:Hp) (as:List Addr) (v:V) (d:D),(∀a,N a->N' a)->R N H F as v d->R N' H F as v d
theorem cB{K:Frag}:gn (rV K):=λ_ _ _ _ _ _ _ _ h=>h
theorem fj{K:Frag}:gn (rO K):=λN N' H F as v d hn h=>by
 rcases h with h | ⟨a,xs,ds,e1,e2,e3,e4,e5,e6,e7⟩
 ·exact .inl h
 ·exact .inr ⟨a,xs,ds,e1,e2,e3,e4,e5,hn a e6,e7⟩
def tM(K:Frag)(mg:Str->Option Value)(md:List Md)(P:Pt)(R:RR)(m:M D):TE:=λσ H Q =>
 ∃ρ O F as d O',RlO K mg O H F as/\SlO K md P ρ σ H F as/\m ρ O=.ok d O' /\
  ∀v H' F' as',Gr H F as H' F' as'->RlO K mg O' H' F' as'->R (λa=>H a=none) H' F' as' v d->Q v H'
def tMT(K:Frag)(mg:Str->Option Value)(md:List Md)(P:Pt)(m:M Bool):TT:=λσ H Q =>
 ∃ρ O F as b O',RlO K mg O H F as/\SlO K md P ρ σ H F as/\m ρ O=.ok b O' /\
  ∀H' F' as',Gr H F as H' F' as'->RlO K mg O' H' F' as'->Q b H'
def cW(K:Frag)(H F:Hp)(as:List Addr):List Md->List V->List D->Prop
 | [],[],[]=>True
 |m::ms,v::vs,d::ds=>rA K m (λ_=>True) H F as v d/\cW K H F as ms vs ds
 | _,_,_=>False
def tMA(K:Frag)(mg:Str->Option Value)(md:List Md)(P:Pt)(ms:List Md)(m:M (List D)):TA:=λσ H Q =>
 ∃ρ O F as ds O',RlO K mg O H F as/\SlO K md P ρ σ H F as/\m ρ O=.ok ds O' /\
  ∀vs H' F' as',Gr H F as H' F' as'->RlO K mg O' H' F' as'->cW K H' F' as' ms vs ds->Q vs H'
def XE(X:Cx)(md:List Md)(P:Pt)(R:RR)(e:Expr)(m:M D):Prop:=PE X e (tM X.K X.mg md P R m)
def VE(X:Cx)(md:List Md)(P:Pt)(e:Expr)(m:M D):Prop:=PE X e (tM X.K X.mg md P (rV X.K) m)
def SE(X:Cx)(md:List Md)(P:Pt)(e:Expr)(m:M D):Prop:=PE X e (tM X.K X.mg md P (rS X.K) m)
def OE(X:Cx)(md:List Md)(P:Pt)(e:Expr)(m:M D):Prop:=PE X e (tM X.K X.mg md P (rO X.K) m)
def TsE(X:Cx)(md:List Md)(P:Pt)(e:Expr)(m:M Bool):Prop:=PT X e (tMT X.K X.mg md P m)
def TwE(X:Cx)(md:List Md)(P:Pt)(e:Expr)(m:M Bool):Prop:=PW X e (tMT X.K X.mg md P m)
def AE(X:Cx)(md:List Md)(P:Pt)(ms:List Md)(es:List Expr)(m:M (List D)):Prop:=PA X es (tMA X.K X.mg md P ms m)
def lA(K:Frag)(mg:Str->Option Value)(md:List Md)(P:Pt)(R:RR)(D:Ends)(H F:Hp)(as:List Addr):Fl->Prop
 | .nx ρ' O'=>∀σ' H' F' as',GrS P H F as H' F' as'->RlO K mg O' H' F' as'->SlO K md P ρ' σ' H' F' as'->D.nx σ' H'
 | .bk ρ' O'=>∀σ' H' F' as',GrS P H F as H' F' as'->RlO K mg O' H' F' as'->SlO K md P ρ' σ' H' F' as'->D.bk σ' H'
 | .ct ρ' O'=>∀σ' H' F' as',GrS P H F as H' F' as'->RlO K mg O' H' F' as'->SlO K md P ρ' σ' H' F' as'->D.ct σ' H'
 | .rt d O'=>∀v H' F' as',GrS P H F as H' F' as'->RlO K mg O' H' F' as'->R (λa=>¬P a) H' F' as' v d->D.rt v H'
 | .ex _ _=>False
 | .no=>False
def tMS(K:Frag)(mg:Str->Option Value)(md:List Md)(P:Pt)(R:RR)(m:MS):TS:=λD σ H =>
 ∃ρ O F as,RlO K mg O H F as/\SlO K md P ρ σ H F as/\lA K mg md P R D H F as (m ρ O)
def VS(X:Cx)(md:List Md)(P:Pt)(R:RR)(st:Stmt)(m:MS):Prop:=PS X st (tMS X.K X.mg md P R m)
def VSs(X:Cx)(md:List Md)(P:Pt)(R:RR)(st:List Stmt)(m:MS):Prop:=PSs X st (tMS X.K X.mg md P R m)
section
variable {X:Cx}{md:List Md}{P:Pt}{R:RR}
theorem PE.imp{e:Expr}{t t':TE}(h:PE X e t)(k:∀σ H Q,t' σ H Q->t σ H Q):PE X e t':=λpins s σ H Q I q=>h pins s σ H Q I (k σ H Q q)
theorem PT.imp{e:Expr}{t t':TT}(h:PT X e t)(k:∀σ H Q,t' σ H Q->t σ H Q):PT X e t':=λpins s σ H Q I q=>h pins s σ H Q I (k σ H Q q)
theorem PW.imp{e:Expr}{t t':TT}(h:PW X e t)(k:∀σ H Q,t' σ H Q->t σ H Q):PW X e t':=λw pins s σ H Q I q=>h w pins s σ H Q I (k σ H Q q)
theorem PA.imp{e:List Expr}{t t':TA}(h:PA X e t)(k:∀σ H Q,t' σ H Q->t σ H Q):PA X e t':=λpos pins s σ H Q I q=>h pos pins s σ H Q I (k σ H Q q)
theorem PS.imp{e:Stmt}{t t':TS}(h:PS X e t)(k:∀D σ H,t' D σ H->t D σ H):PS X e t':=λpins s σ H D I q=>h pins s σ H D I (k D σ H q)
theorem PSs.imp{e:List Stmt}{t t':TS}(h:PSs X e t)(k:∀D σ H,t' D σ H->t D σ H):PSs X e t':=λpins s σ H D I q=>h pins s σ H D I (k D σ H q)
def aa(i:Nat):M D:=λρ O=>match ρ[i]? with
 |some (some d)=>.ok d O
 | _=>.no
def mC(d:D):M D:=λ_ O=>.ok d O
def mG(m:M D):M D:=λρ O=>match m ρ O with
 | .ok d O'=>if jA d=true then .ok d O' else .no
 |r=>r
theorem t8{i:Nat}{ρ:aA}{O O':aq}{d:D}(h:aa i ρ O=.ok d O'):ρ[i]?=some (some d)/\O'=O:=by
 unfold aa at h;split at h
 ·rename_i d' e;cases h;exact⟨e,rfl⟩
 ·cases h
theorem Vf{m:M D}{ρ:aA}{O O':aq}{d:D}(h:mG m ρ O=.ok d O'):m ρ O=.ok d O'/\jA d=true:=by
 unfold mG at h;split at h
 ·rename_i d' O1 e;split at h
  ·rename_i hn;cases h;exact⟨e,hn⟩
  ·cases h
 ·rename_i hne;exact absurd h (hne _ _)
theorem SlO.get{K:Frag}{ρ:aA}{σ:St}{H F:Hp}{as:List Addr}{i:Nat}{d:D}(s:SlO K md P ρ σ H F as)(h:ρ[i]?=some (some d)):∃m v,md[i]?=some m/\σ[i]?=some (some v)/\iJ P K H F as m v d:=by
 have hi:i<md.length:=by rw[<-s.len'];exact(zl.mp h).1
 obtain⟨v,h1,h2⟩:=s.sl i md[i] d (zp hi) h;exact⟨_,v,zp hi,h1,h2⟩
theorem iJ.sv{K:Frag}{H F:Hp}{as:List Addr}{m:Md}{v:V}{d:D}(h:iJ P K H F as m v d):Sv K H F as v d:=by
 cases m with
 |v=>exact .inl h
 |s =>
  rcases h with h | ⟨a,xs,ds,e1,e2,e3,e4,e5,e6⟩
  ·exact .inl h
  ·exact .inr ⟨a,xs,ds,e1,e2,e3,e4,e6⟩
 |o =>
  rcases h with⟨_,h⟩ | ⟨a,xs,ds,e1,e2,e3,e0,e4,e5,e6⟩
  ·exact .inl h
  ·exact .inr ⟨a,xs,ds,e1,e2,e3,e4,e6⟩
theorem aF(i:Nat){x:Str}{pos:Pos}(hN:X.N[i]?=some x:=by rfl)(hv:Vis X.env.scope x:=by first | exact Or.inl rfl | exact Or.inr (Or.inl rfl) | exact Or.inr (Or.inr rfl))
  (hd:(x == ("__debug__":Str))=false:=by decide) (hcd:(x == ("__classdict__":Str))=false:=by decide):SE X md P (.Name x pos) (aa i):=by
 refine(ou (i:=i) hN hv hd hcd).imp λσ H Q h=>?_
 obtain⟨ρ,O,F,as,d,O',r,s,e,k⟩:=h;obtain⟨e1,rfl⟩:=t8 e;obtain⟨m,v,h1,h2,h3⟩:=s.get e1;exact⟨v,h2,k v H F as Gr.refl r h3.sv⟩
theorem az(i:Nat){x:Str}{pos:Pos}(hm:md[i]?=some .v:=by rfl)(hN:X.N[i]?=some x:=by rfl)(hv:Vis X.env.scope x:=by first | exact Or.inl rfl | exact Or.inr (Or.inl rfl) | exact Or.inr (Or.inr rfl))
  (hd:(x == ("__debug__":Str))=false:=by decide) (hcd:(x == ("__classdict__":Str))=false:=by decide):VE X md P (.Name x pos) (aa i):=by
 refine(ou (i:=i) hN hv hd hcd).imp λσ H Q h=>?_
 obtain⟨ρ,O,F,as,d,O',r,s,e,k⟩:=h;obtain⟨e1,rfl⟩:=t8 e;obtain⟨v,h2,h3⟩:=s.sl i .v d hm e1;exact⟨v,h2,k v H F as Gr.refl r h3⟩
theorem ao{e:Expr}{m:M D}(h:VE X md P e m):SE X md P e m:=h.imp λσ H Q q=>by
 obtain⟨ρ,O,F,as,d,O',r,s,e,k⟩:=q;exact⟨ρ,_,F,as,_,_,r,s,e,λv H' F' as' g r' hv=>k v H' F' as' g r' (.inl hv)⟩
theorem aL{e:Expr}{m:M D}(h:OE X md P e m):SE X md P e m:=h.imp λσ H Q q=>by
 obtain⟨ρ,O,F,as,d,O',r,s,e,k⟩:=q;exact⟨ρ,_,F,as,_,_,r,s,e,λv H' F' as' g r' hv=>k v H' F' as' g r' (Ow.sv hv)⟩
theorem dJ{e:Expr}{m:M D}(h:SE X md P e m):VE X md P e (mG m):=h.imp λσ H Q q=>by
 obtain⟨ρ,O,F,as,d,O',r,s,e,k⟩:=q;obtain⟨e,hn⟩:=Vf e;exact⟨ρ,_,F,as,_,_,r,s,e,λv H' F' as' g r' hv=>k v H' F' as' g r' (Sv.rp hv hn)⟩
theorem bf{e:Expr}{m:M D}(h:OE X md P e m):VE X md P e m:=h.imp λσ H Q q=>by
 obtain⟨ρ,O,F,as,d,O',r,s,e,k⟩:=q;refine⟨ρ,_,F,as,_,_,r,s,e,λv H' F' as' g r' hv=>?_⟩
 rcases hv with⟨_,hv⟩ | ⟨a,xs,ds,rfl,rfl,e3,e4,e5,e6,e7⟩
 ·exact k v H' F' as' g r' hv
 ·have ff:Same F' (upd F' a (.lst xs)):=λb u q=>by rw[aO (cH q e4)];exact q
  refine k _ H' (upd F' a (.lst xs)) as' (g.frz e6 e4) (r'.frz e3 e4 e5 rfl) (Rp.mkL (.inl (.inl bM)) (Rps.mono ff (λ_ _ z=>z) _ e7))
theorem qH{e:Expr}{v:V}{d:D}(h:PE X e (tC v))(hd:∀K F as,Rp K F as v d):VE X md P e (mC d):=h.imp λσ H Q q=>by
 obtain⟨ρ,O,F,as,d,O',r,s,e,k⟩:=q;cases e;exact k v H F as Gr.refl r (hd _ _ _)
theorem aD{i:Int}{j pos}:VE X md P (.Constant (.int i) j pos) (mC (.int i)):=qH wK λ_ _ _=>Rp.int
theorem gq{b:Bool}{j pos}:VE X md P (.Constant (.bool b) j pos) (mC (.bl b)):=qH Pj λ_ _ _=>Rp.bl
theorem xG{j pos}:VE X md P (.Constant .none j pos) (mC .non):=qH Pk λ_ _ _=>Rp.non
theorem cC{x:Str}{j pos}(l:List Nat)(hx:x=S l:=by decide +kernel):VE X md P (.Constant (.str x) j pos) (mC (.str l)):=qH Fp λ_ _ _=>by rw[hx];exact Rp.str
theorem Hq{x:Str}{v:V}{d:D}{pos:Pos}(h:∃u,X.mg x=some u/\RelV v u)(hd:∀K F as,Rp K F as v d)(hg:Gl X x:=by rfl)(hdb:(x == ("__debug__":Str))=false:=by decide):VE X md P (.Name x pos) (mC d):=qH (Hg h hg hdb) hd
def au:M (List D):=λ_ O=>.ok [] O
def aj(m:M D)(r:M (List D)):M (List D):=λρ O=>(m ρ O).bind λd O1=>(r ρ O1).bind λds O2=>.ok (d::ds) O2
theorem aG:AE X md P [] [] au:=qw.imp λσ H Q q=>by
 obtain⟨ρ,O,F,as,d,O',r,s,e,k⟩:=q;cases e;exact k [] H F as Gr.refl r trivial
theorem rA.gr{K:Frag}{m:Md}{N:Addr->Prop}{H F H' F':Hp}{as as':List Addr}{v:V}{d:D}(h:rA K m N H F as v d)(g:Gr H F as H' F' as'):rA K m (λ_=>True) H' F' as' v d:=by
 cases m with
 |v=>exact Rp.gr (show Rp K F as v d from h) g
 |s=>exact Sv.gr (show Sv K H F as v d from h) g
 |o=>exact Sv.gr (show Sv K H F as v d from h) g
theorem cW.gr{K:Frag}{H F H' F':Hp}{as as':List Addr}(g:Gr H F as H' F' as'):∀{ms:List Md}{vs:List V}{ds:List D},cW K H F as ms vs ds->cW K H' F' as' ms vs ds
 | [],[],[],_=>trivial
 |m::ms,v::vs,d::ds,h=>⟨rA.gr h.1 g,cW.gr g h.2⟩
 | [],[],_::_,h=>h.elim
 | [],_::_,[],h=>h.elim
 | [],_::_,_::_,h=>h.elim
 | _::_,[],[],h=>h.elim
 | _::_,[],_::_,h=>h.elim
 | _::_,_::_,[],h=>h.elim
theorem Hr(md0:Md){e:Expr}{es:List Expr}{m:M D}{ms:List Md}{r:M (List D)}(h:XE X md P (rA X.K md0) e m)(hr:AE X md P ms es r)
  (hs:starEach (e::es) X.env=(false,eval e X.env)::starEach es X.env:=by exact dq rfl):AE X md P (md0::ms) (e::es) (aj m r):=(oA h hr hs).imp λσ H Q q=>by
 obtain⟨ρ,O,F,as,d,O',r0,s,e,k⟩:=q;obtain⟨d,O1,e1,e⟩:=Res.bind_ok e;obtain⟨ds',O2,e2,e⟩:=Res.bind_ok e;cases e;refine⟨ρ,_,F,as,_,_,r0,s,e1,λv H1 F1 as1 g1 r1 hv=>?_⟩;refine⟨ρ,_,F1,as1,_,_,r1,s.step g1,e2,λvs H2 F2 as2 g2 r2 hvs=>?_⟩;exact k (v::vs) H2 F2 as2 (g1.trans g2) r2 ⟨rA.gr hv g2,hvs⟩
theorem aZ{e:Expr}{es:List Expr}{m:M D}{ms:List Md}{r:M (List D)}(h:VE X md P e m)(hr:AE X md P ms es r)
  (hs:starEach (e::es) X.env=(false,eval e X.env)::starEach es X.env:=by exact dq rfl):AE X md P (.v::ms) (e::es) (aj m r):=Hr .v h hr hs
theorem aC{e:Expr}{es:List Expr}{m:M D}{ms:List Md}{r:M (List D)}(h:SE X md P e m)(hr:AE X md P ms es r)
  (hs:starEach (e::es) X.env=(false,eval e X.env)::starEach es X.env:=by exact dq rfl):AE X md P (.s::ms) (e::es) (aj m r):=Hr .s h hr hs
theorem cW.rps{K:Frag}{H F:Hp}{as:List Addr}:∀{n:Nat}{vs:List V}{ds:List D},cW K H F as (List.replicate n .v) vs ds->Rps K F as vs ds
 | 0,[],[],_=>Rps.nil
 |n+1,v::vs,d::ds,h=>by
  rw[List.replicate_succ] at h;exact Rps.cons h.1 (cW.rps h.2)
 | 0,[],_::_,h=>h.elim
 | 0,_::_,[],h=>h.elim
 | 0,_::_,_::_,h=>h.elim
 |n+1,[],[],h=>h.elim
 |n+1,[],_::_,h=>h.elim
 |n+1,_::_,[],h=>h.elim
def bY(r:M (List D)):M D:=λρ O=>(r ρ O).bind λds O1=>if ds.length<=1000000 then .ok (.lst ds) O1 else .no
def dh(r:M (List D)):M D:=λρ O=>(r ρ O).bind λds O1=>if ds.length<=1000000 then .ok (.tup ds) O1 else .no
theorem iK{n:Nat}(h:n<=1000000):n<=sizeLine:=zG h (by decide)
theorem dB{es:List Expr}{pos:Pos}{r:M (List D)}(n:Nat)(h:AE X md P (List.replicate n .v) es r):OE X md P (.List es pos) (bY r):=(RW h).imp λσ H Q q=>by
 obtain⟨ρ,O,F,as,d,O',r0,s,e,k⟩:=q;obtain⟨ds,O1,e1,e⟩:=Res.bind_ok e;split at e
 ·rename_i hz;cases e;refine⟨ρ,_,F,as,_,_,r0,s,e1,λvs H1 F1 as1 g1 r1 hv=>?_⟩;have hr:=hv.rps;refine⟨by rw[hr.length];exact iK hz,λp hp=>?_⟩
  have hF:F1 p=none:=by
   cases q:F1 p with
   |none=>rfl
   |some o=>rw[r1.fh p o q] at hp;cases hp
  refine k _ _ F1 as1 (g1.trans (Gr.lay hp)) (r1.lay hp) (.inr ⟨p,vs,ds,rfl,rfl,bM,hF,λz=>r1.all z hp,g1.dm p hp,hr⟩)
 ·cases e
theorem fW{es:List Expr}{pos:Pos}{x1}{r:M (List D)}(n:Nat)(h:AE X md P (List.replicate n .v) es r):VE X md P (.Tuple es x1 pos) (dh r):=(RV h).imp λσ H Q q=>by
 obtain⟨ρ,O,F,as,d,O',r0,s,e,k⟩:=q;obtain⟨ds,O1,e1,e⟩:=Res.bind_ok e;split at e
 ·rename_i hz;cases e;refine⟨ρ,_,F,as,_,_,r0,s,e1,λvs H1 F1 as1 g1 r1 hv=>?_⟩;have hr:=hv.rps;refine⟨by rw[hr.length];exact iK hz,λp hp=>?_⟩
  have hF:F1 p=none:=by
   cases q:F1 p with
   |none=>rfl
   |some o=>rw[r1.fh p o q] at hp;cases hp
  have ff:Same F1 (upd F1 p (.tup vs)):=λb u q=>by rw[aO (cH q hF)];exact q
  refine k _ _ (upd F1 p (.tup vs)) as1 ((g1.trans (Gr.lay hp)).frz (g1.dm p hp) hF) ((r1.lay hp).frz bM hF (λz=>r1.all z hp) rfl) (Rp.mkT (.inl bM) (Rps.mono ff (λ_ _ z=>z) _ hr))
 ·cases e
def rD(K:Frag)(mg:Str->Option Value)(g:D->D->Option D):R2:=λx y H Q=>∃O F as dx dy d,RlO K mg O H F as/\Lk K H F as x dx/\Lk K H F as y dy/\g dx dy=some d /\
 ∀v' H' F',Gr H F as H' F' as->RlO K mg O H' F' as->Ow K (λa=>H a=none) H' F' as v' d->Q v' H'
abbrev OpD(X:Cx)(f:Value->Value->Sem Value)(g:D->D->Option D):Prop:=OpR X f (rD X.K X.mg g)
def ak(g:D->D->Option D)(ma mb:M D):M D:=λρ O=>(ma ρ O).bind λx O1=>(mb ρ O1).bind λy O2=>match g (bB O2 x) (bB O2 y) with
 |some d=>.ok d O2
 |none=>.no
theorem xH{K:Frag}{mg:Str->Option Value}{g:D->D->Option D}{ma mb:M D}{σ:St}{H:Hp}{Q:VK}(h:tM K mg md P (rO K) (ak g ma mb) σ H Q):tOp (rD K mg g) (tM K mg md P (rS K) ma) (tM K mg md P (rS K) mb) σ H Q:=by
 obtain⟨ρ,O,F,as,d,O',r,sl,e,k⟩:=h;obtain⟨x,O1,e1,e⟩:=Res.bind_ok e;obtain⟨y,O2,e2,e⟩:=Res.bind_ok e;split at e
 ·rename_i d' hg;cases e;refine⟨ρ,_,F,as,_,_,r,sl,e1,λv H1 F1 as1 g1 r1 hv=>?_⟩;refine⟨ρ,_,F1,as1,_,_,r1,sl.step g1,e2,λu H2 F2 as2 g2 r2 hu=>?_⟩;refine⟨_,F2,as2,_,_,_,r2,Sv.lk (Sv.gr hv g2) r2,Sv.lk hu r2,hg,λv' H' F' g' r' hw=>?_⟩;exact k v' H' F' as2 ((g1.trans g2).trans g') r' (fj _ _ _ _ _ _ _ (λa ha=>(g1.trans g2).dm a ha) hw)
 ·cases e
theorem aR{e1 e2:Expr}{pos:Pos}{op:Operator}{g:D->D->Option D}{ma mb:M D}(ho:OpD X (binaryOp op) g)(ha:SE X md P e1 ma)(hb:SE X md P e2 mb):OE X md P (.BinOp e1 op e2 pos) (ak g ma mb):=
 (QT ho ha hb).imp λ_ _ _=>xH
theorem mH{e1 e2:Expr}{pos:Pos}{op:CmpOp}{g:D->D->Option D}{ma mb:M D}(ho:OpD X (compareOp op) g)(ha:SE X md P e1 ma)(hb:SE X md P e2 mb)(hm:behindInMarks op e2=false):OE X md P (.Compare e1 [op] [e2] pos) (ak g ma mb):=
 (Rf ho ha hb hm).imp λ_ _ _=>xH
def aJ(m:M D):M Bool:=λρ O=>(m ρ O).bind λd O1=>match d with
 | .bl b=>.ok b O1
 | _=>.no
theorem qI{K:Frag}{mg:Str->Option Value}{m:M D}{σ:St}{H:Hp}{Q:Bool->Hp->Prop}(h:tMT K mg md P (aJ m) σ H Q):tW (tM K mg md P (rO K) m) σ H Q:=by
 obtain⟨ρ,O,F,as,d,O',r,sl,e,k⟩:=h;obtain⟨d,O1,e1,e⟩:=Res.bind_ok e
 cases d with
 |bl c =>
  cases e;refine⟨ρ,_,F,as,_,_,r,sl,e1,λv H1 F1 as1 g1 r1 hv=>?_⟩
  rcases hv with⟨_,hv⟩ | ⟨a,xs,ds,_,e2,_⟩
  ·exact⟨_,hv.unB,k H1 F1 as1 g1 r1⟩
  ·cases e2
 | _=>cases e
theorem bO{e1 e2:Expr}{pos:Pos}{op:CmpOp}{g:D->D->Option D}{ma mb:M D}(ho:OpD X (compareOp op) g)(ha:SE X md P e1 ma)(hb:SE X md P e2 mb)(hm:behindInMarks op e2=false):TsE X md P (.Compare e1 [op] [e2] pos) (aJ (ak g ma mb)):=
 (Rg ho ha hb hm).imp λσ H Q h=>by
  have q:=qI h;exact xH q
def mJ(g g':D->D->Option D)(ma mb mc:M D):M D:=λρ O=>(ma ρ O).bind λx O1=>(mb ρ O1).bind λy O2=>match g (bB O2 x) (bB O2 y) with
 |some (.bl true)=>(mc ρ O2).bind λz O3=>match g' (bB O3 y) (bB O3 z) with
  |some d=>.ok d O3
  |none=>.no
 |some (.bl false)=>.ok (.bl false) O2
 | _=>.no
theorem Hs{K:Frag}{mg:Str->Option Value}{g g':D->D->Option D}{ma mb mc:M D}{σ:St}{H:Hp}{Q:VK}(h:tM K mg md P (rO K) (mJ g g' ma mb mc) σ H Q):
  wW (rD K mg g) (rD K mg g') (tM K mg md P (rS K) ma) (tM K mg md P (rS K) mb) (tM K mg md P (rS K) mc) σ H Q:=by
 obtain⟨ρ,O,F,as,d,O',r,sl,e,k⟩:=h;obtain⟨x,O1,e1,e⟩:=Res.bind_ok e;obtain⟨y,O2,e2,e⟩:=Res.bind_ok e;refine⟨ρ,_,F,as,_,_,r,sl,e1,λv H1 F1 as1 g1 r1 hv=>?_⟩;refine⟨ρ,_,F1,as1,_,_,r1,sl.step g1,e2,λu H2 F2 as2 g2 r2 hu=>?_⟩;split at e
 ·rename_i hg;obtain⟨z,O3,e3,e⟩:=Res.bind_ok e;refine⟨_,F2,as2,_,_,_,r2,Sv.lk (Sv.gr hv g2) r2,Sv.lk hu r2,hg,λv' H' F' g' r' hw=>?_⟩
  rcases hw with⟨_,hw⟩ | ⟨a,xs,ds,_,z,_⟩
  ·refine⟨true,hw.unB,?_⟩;rw[if_pos rfl];split at e
   ·rename_i d' hg';cases e;have g3:=(g1.trans g2).trans g';refine⟨ρ,_,F',as2,_,_,r',sl.step g3,e3,λw H4 F4 as4 g4 r4 hz=>?_⟩;refine⟨_,F4,as4,_,_,_,r4,Sv.lk (Sv.gr (Sv.gr hu g') g4) r4,Sv.lk hz r4,hg',λv5 H5 F5 g5 r5 hw5=>?_⟩;exact k v5 H5 F5 as4 ((g3.trans g4).trans g5) r5 (fj _ _ _ _ _ _ _ (λa ha=>(g3.trans g4).dm a ha) hw5)
   ·cases e
  ·cases z
 ·rename_i hg;cases e;refine⟨_,F2,as2,_,_,_,r2,Sv.lk (Sv.gr hv g2) r2,Sv.lk hu r2,hg,λv' H' F' g' r' hw=>?_⟩
  rcases hw with⟨_,hw⟩ | ⟨a,xs,ds,_,z,_⟩
  ·refine⟨false,hw.unB,?_⟩;rw[if_neg zh];exact k _ H' F' as2 ((g1.trans g2).trans g') r' (.inl ⟨rfl,Rp.bl⟩)
  ·cases z
 ·cases e
theorem Vg{a b c:Expr}{pos:Pos}{op op':CmpOp}{g g':D->D->Option D}{ma mb mc:M D}(ho:OpD X (compareOp op) g)(ho':OpD X (compareOp op') g')(ha:SE X md P a ma)(hb:SE X md P b mb)(hc:SE X md P c mc)
  (hm:lastMarks [op,op'] [b,c]=false:=by with_unfolding_all rfl):OE X md P (.Compare a [op,op'] [b,c] pos) (mJ g g' ma mb mc):=(Rh ho ho' ha hb hc hm).imp λ_ _ _=>Hs
theorem Vh{a b c:Expr}{pos:Pos}{op op':CmpOp}{g g':D->D->Option D}{ma mb mc:M D}(ho:OpD X (compareOp op) g)(ho':OpD X (compareOp op') g')(ha:SE X md P a ma)(hb:SE X md P b mb)(hc:SE X md P c mc)
  (hm:lastMarks [op,op'] [b,c]=false:=by with_unfolding_all rfl):TsE X md P (.Compare a [op,op'] [b,c] pos) (aJ (mJ g g' ma mb mc)):=(Ri ho ho' ha hb hc hm).imp λ_ _ _ h=>Hs (qI h)
def isNon:D->Bool
 | .non=>true
 | _=>false
def jB(m:M D):M D:=λρ O=>(m ρ O).bind λd O1=>.ok (.bl (isNon d)) O1
def iM(m:M D):M D:=λρ O=>(m ρ O).bind λd O1=>.ok (.bl (!isNon d)) O1
theorem Sv.isN{K:Frag}{H F:Hp}{as:List Addr}{v:V}{d:D}(h:Sv K H F as v d):decide (v=.non)=isNon d:=by
 rcases h with h | ⟨a,xs,ds,rfl,rfl,_⟩
 ·cases d with
  |non=>rw[h.unN];rfl
  |bl b=>rw[h.unB];rfl
  |int b=>rw[h.unI];rfl
  |str b=>rw[h.unS];rfl
  |lst b=>obtain⟨a,xs,rfl,_⟩:=h.unL;rfl
  |tup b=>obtain⟨a,xs,rfl,_⟩:=h.unT;rfl
  |dic k b=>obtain⟨a,xs,rfl,_⟩:=h.unD;rfl
  |ob b=>obtain⟨a,rfl,_⟩:=h.unO;rfl
 ·rfl
theorem Vi{K:Frag}{mg:Str->Option Value}{m:M D}{σ:St}{H:Hp}{Q:VK}(h:tM K mg md P (rO K) (jB m) σ H Q):Fq (tM K mg md P (rS K) m) σ H Q:=by
 obtain⟨ρ,O,F,as,d,O',r,sl,e,k⟩:=h;obtain⟨x,O1,e1,e⟩:=Res.bind_ok e;cases e;refine⟨ρ,_,F,as,_,_,r,sl,e1,λv H1 F1 as1 g1 r1 hv=>?_⟩;dsimp only;rw[Sv.isN hv];exact k _ H1 F1 as1 g1 r1 (.inl ⟨rfl,Rp.bl⟩)
theorem Vj{K:Frag}{mg:Str->Option Value}{m:M D}{σ:St}{H:Hp}{Q:VK}(h:tM K mg md P (rO K) (iM m) σ H Q):Ft (tM K mg md P (rS K) m) σ H Q:=by
 obtain⟨ρ,O,F,as,d,O',r,sl,e,k⟩:=h;obtain⟨x,O1,e1,e⟩:=Res.bind_ok e;cases e;refine⟨ρ,_,F,as,_,_,r,sl,e1,λv H1 F1 as1 g1 r1 hv=>?_⟩;dsimp only;rw[Sv.isN hv];exact k _ H1 F1 as1 g1 r1 (.inl ⟨rfl,Rp.bl⟩)
theorem Ht{t t':TE}{σ:St}{H:Hp}{Q:Bool->Hp->Prop}(h:∀Q',t σ H Q'->t' σ H Q')(q:tW t σ H Q):tB t' σ H Q:=h _ q
theorem xJ{a:Expr}{pos pos':Pos}{j}{m:M D}(h:SE X md P a m):TsE X md P (.Compare a [.Is] [.Constant .none j pos'] pos) (aJ (jB m)):=(wM (Px h)).imp λ_ _ _ q=>Ht (λ_=>Vi) (qI q)
theorem Hu{a:Expr}{pos pos':Pos}{j}{m:M D}(h:SE X md P a m):TsE X md P (.Compare a [.IsNot] [.Constant .none j pos'] pos) (aJ (iM m)):=(wM (Py h)).imp λ_ _ _ q=>Ht (λ_=>Vj) (qI q)
def oK:D->Option Bool
 | .non=>some false
 | .bl b=>some b
 | .int i=>some (i != 0)
 | .str l=>if l.length<=1000000 then some (!l.isEmpty) else none
 | .lst ds=>some (!ds.isEmpty)
 | .tup ds=>some (!ds.isEmpty)
 | .dic ks _=>some (!ks.isEmpty)
 | .ob _=>none
def cj(m:M D):M Bool:=λρ O=>(m ρ O).bind λd O1=>match oK (bB O1 d) with
 |some b=>.ok b O1
 |none=>.no
theorem Hv{α β:Type}{xs:List α}{ys:List β}(h:xs.length=ys.length):(!xs.isEmpty) = !ys.isEmpty:=by
 cases xs<;>cases ys<;>simp_all
theorem Lk.tru{K:Frag}{H F:Hp}{as:List Addr}{v:V}{d:D}{b:Bool}(h:Lk K H F as v d)(fh:Same F H)(e:oK d=some b):wX K v H b:=by
 cases d with
 |non=>rw[(h.rp rfl).unN];cases e;rfl
 |bl b=>rw[(h.rp rfl).unB];cases e;rfl
 |int b=>rw[(h.rp rfl).unI];cases e;rfl
 |str l =>
  rw[(h.rp rfl).unS];simp only[oK] at e;split at e
  ·rename_i hl;cases e;refine⟨by rw[fB];exact iK hl,?_⟩;rw[fB]
   cases l with
   |nil=>rfl
   |cons c l =>
    have:((((c::l).length:Nat):Int) != 0)=true:=by
     rw[bne_iff_ne,zv];omega
    rw[this];rfl
  ·cases e
 |lst ds =>
  obtain⟨a,xs,rfl,h1,h2⟩:=h.list fh;cases e;exact .inl ⟨xs,h1.sq,(Hv h2.length).symm⟩
 |tup ds =>
  obtain⟨a,xs,rfl,h1,h2⟩:=(h.rp rfl).unT;cases e;exact .inr (.inl ⟨xs,Same.seqT fh h1,(Hv h2.length).symm⟩)
 |dic ks vs =>
  obtain⟨a,kvs,rfl,h1,rfl,h2⟩:=(h.rp rfl).unD;cases e;exact .inr (.inr ⟨kvs,fh _ _ h1,by cases kvs<;>rfl⟩)
 |ob n=>cases e
theorem gQ{a:Expr}{m:M D}(h:SE X md P a m)(he:∀whole,isTrue a X.env whole=(do let v <-whole;standAt a.pos;holding [v] (truthy v)):=by intro _;rfl):TsE X md P a (cj m):=(Rm h he).imp λσ H Q q=>by
 obtain⟨ρ,O,F,as,d,O',r,sl,e,k⟩:=q;obtain⟨d,O1,e1,e⟩:=Res.bind_ok e;split at e
 ·rename_i c hc;cases e;exact⟨ρ,_,F,as,_,_,r,sl,e1,λv H1 F1 as1 g1 r1 hv=>⟨_,Lk.tru (Sv.lk hv r1) r1.fh hc,k H1 F1 as1 g1 r1⟩⟩
 ·cases e
def dC(a b:M Bool):M Bool:=λρ O=>(a ρ O).bind λc O1=>if c=true then b ρ O1 else .ok false O1
def cX(a b:M Bool):M Bool:=λρ O=>(a ρ O).bind λc O1=>if c=true then .ok true O1 else b ρ O1
def du(a:M Bool):M Bool:=λρ O=>(a ρ O).bind λc O1=>.ok (!c) O1
theorem Vk{K:Frag}{mg:Str->Option Value}{ma mb:M Bool}{σ:St}{H:Hp}{Q:Bool->Hp->Prop}(h:tMT K mg md P (dC ma mb) σ H Q):Fv (tMT K mg md P ma) (tMT K mg md P mb) σ H Q:=by
 obtain⟨ρ,O,F,as,d,O',r,sl,e,k⟩:=h;obtain⟨c,O1,e1,e⟩:=Res.bind_ok e;refine⟨ρ,_,F,as,_,_,r,sl,e1,λH1 F1 as1 g1 r1=>?_⟩
 cases c with
 |true =>
  rw[if_pos rfl] at e ⊢;exact⟨ρ,_,F1,as1,_,_,r1,sl.step g1,e,λH2 F2 as2 g2 r2=>k H2 F2 as2 (g1.trans g2) r2⟩
 |false =>
  rw[if_neg zh] at e ⊢;cases e;exact k H1 F1 as1 g1 r1
theorem Vl{K:Frag}{mg:Str->Option Value}{ma mb:M Bool}{σ:St}{H:Hp}{Q:Bool->Hp->Prop}(h:tMT K mg md P (cX ma mb) σ H Q):tOr (tMT K mg md P ma) (tMT K mg md P mb) σ H Q:=by
 obtain⟨ρ,O,F,as,d,O',r,sl,e,k⟩:=h;obtain⟨c,O1,e1,e⟩:=Res.bind_ok e;refine⟨ρ,_,F,as,_,_,r,sl,e1,λH1 F1 as1 g1 r1=>?_⟩
 cases c with
 |true =>
  rw[if_pos rfl] at e ⊢;cases e;exact k H1 F1 as1 g1 r1
 |false =>
  rw[if_neg zh] at e ⊢;exact⟨ρ,_,F1,as1,_,_,r1,sl.step g1,e,λH2 F2 as2 g2 r2=>k H2 F2 as2 (g1.trans g2) r2⟩
theorem mK{a:Expr}{pos:Pos}{m:M Bool}(h:TsE X md P a m):TwE X md P (.BoolOp .And [a] pos) m:=PB h
theorem mL{a:Expr}{pos:Pos}{m:M Bool}(h:TsE X md P a m):TwE X md P (.BoolOp .Or [a] pos) m:=PJ h
theorem mO{a b:Expr}{rest:List Expr}{pos:Pos}{ma mb:M Bool}(ha:TsE X md P a ma)(hb:TwE X md P (.BoolOp .And (b::rest) pos) mb):TwE X md P (.BoolOp .And (a::b::rest) pos) (dC ma mb):=(PK ha hb).imp λ_ _ _=>Vk
theorem iQ{a b:Expr}{rest:List Expr}{pos:Pos}{ma mb:M Bool}(ha:TsE X md P a ma)(hb:TwE X md P (.BoolOp .Or (b::rest) pos) mb):TwE X md P (.BoolOp .Or (a::b::rest) pos) (cX ma mb):=(PL ha hb).imp λ_ _ _=>Vl
theorem fX{e:Expr}{m:M Bool}(h:TwE X md P e m):TsE X md P e m:=PW.pt h
theorem lB{a:Expr}{pos:Pos}{m:M Bool}(h:TsE X md P a m):TsE X md P (.UnaryOp .Not a pos) (du m):=(PN h).imp λσ H Q q=>by
 obtain⟨ρ,O,F,as,d,O',r,sl,e,k⟩:=q;obtain⟨c,O1,e1,e⟩:=Res.bind_ok e;cases e;exact⟨ρ,_,F,as,_,_,r,sl,e1,k⟩
def jW(ma mb:M D):M D:=λρ O=>(ma ρ O).bind λd O1=>match d with
 | .bl true=>mb ρ O1
 | .bl false=>.ok (.bl false) O1
 | _=>.no
def Hw(ma mb:M D):M D:=λρ O=>(ma ρ O).bind λd O1=>match d with
 | .bl true=>.ok (.bl true) O1
 | .bl false=>mb ρ O1
 | _=>.no
def qJ(ma:M D):M D:=λρ O=>(ma ρ O).bind λd O1=>match d with
 | .bl b=>.ok (.bl (!b)) O1
 | _=>.no
theorem qK{a:Expr}{pos:Pos}{op}{m:M D}(h:VE X md P a m):VE X md P (.BoolOp op [a] pos) m:=PX h
theorem qL{a b:Expr}{rest:List Expr}{pos:Pos}{ma mb:M D}(ha:VE X md P a ma)(hb:VE X md P (.BoolOp .And (b::rest) pos) mb):VE X md P (.BoolOp .And (a::b::rest) pos) (jW ma mb):=(P0 ha hb).imp λσ H Q q=>by
 obtain⟨ρ,O,F,as,d,O',r,sl,e,k⟩:=q;obtain⟨x,O1,e1,e⟩:=Res.bind_ok e;refine⟨ρ,_,F,as,_,_,r,sl,e1,λv H1 F1 as1 g1 r1 hv=>?_⟩
 cases x with
 |bl c =>
  refine⟨c,Rp.unB hv,?_⟩
  cases c with
  |true =>
   rw[if_pos rfl];exact⟨ρ,_,F1,as1,_,_,r1,sl.step g1,e,λv2 H2 F2 as2 g2 r2 hv2=>k v2 H2 F2 as2 (g1.trans g2) r2 hv2⟩
  |false =>
   rw[if_neg zh];cases e;exact k _ H1 F1 as1 g1 r1 Rp.bl
 | _=>cases e
theorem Hx{a:Expr}{pos:Pos}{m:M D}(h:VE X md P a m):VE X md P (.UnaryOp .Not a pos) (qJ m):=(Qa h).imp λσ H Q q=>by
 obtain⟨ρ,O,F,as,d,O',r,sl,e,k⟩:=q;obtain⟨x,O1,e1,e⟩:=Res.bind_ok e;refine⟨ρ,_,F,as,_,_,r,sl,e1,λv H1 F1 as1 g1 r1 hv=>?_⟩
 cases x with
 |bl c =>
  cases e;exact⟨c,Rp.unB hv,k _ H1 F1 as1 g1 r1 Rp.bl⟩
 | _=>cases e
def mIf(t:M Bool)(a b:M D):M D:=λρ O=>(t ρ O).bind λc O1=>if c=true then a ρ O1 else b ρ O1
theorem Vm(hR:gn R){c a b:Expr}{pos:Pos}{mc:M Bool}{ma mb:M D}(hc:TsE X md P c mc)(ha:PE X a (tM X.K X.mg md P R ma))(hb:PE X b (tM X.K X.mg md P R mb)):PE X (.IfExp c a b pos) (tM X.K X.mg md P R (mIf mc ma mb)):=(Qc hc ha hb).imp λσ H Q q=>by
 obtain⟨ρ,O,F,as,d,O',r,sl,e,k⟩:=q;obtain⟨x,O1,e1,e⟩:=Res.bind_ok e;refine⟨ρ,_,F,as,_,_,r,sl,e1,λH1 F1 as1 g1 r1=>?_⟩
 cases x with
 |true =>
  rw[if_pos rfl] at e ⊢;exact⟨ρ,_,F1,as1,_,_,r1,sl.step g1,e,λv2 H2 F2 as2 g2 r2 hv2=>k v2 H2 F2 as2 (g1.trans g2) r2 (hR _ _ _ _ _ _ _ (λa ha=>g1.dm a ha) hv2)⟩
 |false =>
  rw[if_neg zh] at e ⊢;exact⟨ρ,_,F1,as1,_,_,r1,sl.step g1,e,λv2 H2 F2 as2 g2 r2 hv2=>k v2 H2 F2 as2 (g1.trans g2) r2 (hR _ _ _ _ _ _ _ (λa ha=>g1.dm a ha) hv2)⟩
theorem uc{c a b:Expr}{pos:Pos}{mc:M Bool}{ma mb:M D}(hc:TsE X md P c mc)(ha:VE X md P a ma)(hb:VE X md P b mb):VE X md P (.IfExp c a b pos) (mIf mc ma mb):=Vm cB hc ha hb
end
section
variable {K:Frag}{mg:Str->Option Value}{md:List Md}{P:Pt}{R:RR}{ρ:aA}{σ:St}{H F H' F':Hp}{as as':List Addr}{O O':aq}
theorem SlO.set{i:Nat}{m:Md}{v:V}{d:D}(s:SlO K md P ρ σ H F as)(hm:md[i]?=some m)(hns:m≠.s)(hv:iJ P K H F as m v d)
  (hj:∀(a:Addr) (ds:List D) (j:Nat) (es:List D),m=.o->v=.ref a->d=.lst ds->i≠j->md[j]?=some .o->ρ[j]?=some (some (.lst es))->σ[j]?≠some (some (.ref a))):SlO K md P (ρ.set i (some d)) (σ.set i (some v)) H F as:=by
 have hi:i<md.length:=(zl.mp hm).1;refine⟨by rw[jl];exact s.len,by rw[jl];exact s.len',s.pd,λj m' d' e1 e2=>?_,λj k a ds es h1 h2 h3 h4 h5 h6=>?_,λx hx=>?_⟩
 ·by_cases h:i=j
  ·subst h;rw[hm] at e1;cases e1;rw[zS (by rw[s.len'];exact hi)] at e2;cases e2;exact⟨v,zS (by rw[s.len];exact hi),hv⟩
  ·rw[zr h] at e2;rw[zr h];exact s.sl j m' d' e1 e2
 ·by_cases hij:i=j
  ·by_cases hik:i=k
   ·rw[<-hij,<-hik]
   ·exfalso
    subst hij;rw[hm] at h1;cases h1;rw[zS (by rw[s.len'];exact hi)] at h3;rw[zS (by rw[s.len];exact hi)] at h5;rw[zr hik] at h4 h6;cases h3;cases h5;exact hj a ds k es rfl rfl rfl hik h2 h4 h6
  ·by_cases hik:i=k
   ·exfalso
    subst hik;rw[hm] at h2;cases h2;rw[zS (by rw[s.len'];exact hi)] at h4;rw[zS (by rw[s.len];exact hi)] at h6;rw[zr hij] at h3 h5;cases h4;cases h6;exact hj a es j ds rfl rfl rfl hij h1 h3 h5
   ·rw[zr hij] at h3 h5;rw[zr hik] at h4 h6;exact s.inj j k a ds es h1 h2 h3 h4 h5 h6
 ·obtain⟨p1,p2,p3⟩:=s.pin x hx
  have hne:i≠x.1:=λz=>by
   rw[<-z,hm] at p1;exact hns (zt p1)
  exact⟨p1,by rw[zr hne];exact p2,by rw[zr hne];exact p3⟩
theorem SlO.setV{i:Nat}{v:V}{d:D}(s:SlO K md P ρ σ H F as)(hm:md[i]?=some .v)(hv:Rp K F as v d):SlO K md P (ρ.set i (some d)) (σ.set i (some v)) H F as :=
 s.set hm (by decide) hv λ_ _ _ _ z=>nomatch z
theorem SlO.setN{i:Nat}{v:V}{d:D}(s:SlO K md P ρ σ H F as)(hm:md[i]?=some .o)(hn:jA d=true)(hv:Rp K F as v d):SlO K md P (ρ.set i (some d)) (σ.set i (some v)) H F as :=
 s.set hm (by decide) (.inl ⟨hn,hv⟩) λ_ _ _ _ _ _ z=>by subst z;cases hn
theorem SlO.setO{i:Nat}{v:V}{d:D}{H0:Hp}(s:SlO K md P ρ σ H0 F as)(g:Gr H0 F as H' F' as')(hm:md[i]?=some .o)(hv:Ow K (λa=>H0 a=none) H' F' as' v d):SlO K md P (ρ.set i (some d)) (σ.set i (some v)) H' F' as':=by
 have s':=s.step g
 rcases hv with⟨hn,hv⟩ | ⟨a,xs,ds,rfl,rfl,e3,e4,e5,e6,e7⟩
 ·exact s'.setN hm hn hv
 ·refine s'.set hm (by decide) (.inr ⟨a,xs,ds,rfl,rfl,e3,e4,e5,λp=>s.pd a p e6,e7⟩) λb ds' j es _ hb hd hij hj he hs=>?_
  cases hb;obtain⟨v,h1,h2⟩:=s.sl j .o _ hj he;rw[hs] at h1;cases h1
  rcases h2 with⟨h2,_⟩ | ⟨a',xs',_,z1,_,z3,_⟩
  ·cases h2
  ·cases z1;rw[e6] at z3;cases z3
end
section
variable {X:Cx}{md:List Md}{P:Pt}{R:RR}
def bx:MS:=λρ O=>.nx ρ O
def aB(a b:MS):MS:=λρ O=>match a ρ O with
 | .nx ρ' O'=>b ρ' O'
 |r=>r
theorem cO:VSs X md P R [] bx:=Qg.imp λD σ H q=>by
 obtain⟨ρ,O,F,as,r,s,k⟩:=q;exact k σ H F as GrS.refl r s
theorem jC{K:Frag}{mg:Str->Option Value}{D:Ends}{H F H1 F1:Hp}{as as1:List Addr}(g:GrS P H F as H1 F1 as1){f:Fl}(k:lA K mg md P R D H F as f):lA K mg md P R D H1 F1 as1 f:=by
 cases f with
 |nx ρ' O'=>exact λσ' H' F' as' g'=>k σ' H' F' as' (g.trans g')
 |bk ρ' O'=>exact λσ' H' F' as' g'=>k σ' H' F' as' (g.trans g')
 |ct ρ' O'=>exact λσ' H' F' as' g'=>k σ' H' F' as' (g.trans g')
 |rt d O'=>exact λσ' H' F' as' g'=>k σ' H' F' as' (g.trans g')
 |ex _ _=>exact k
 |no=>exact k
theorem aM{st:Stmt}{rest:List Stmt}{a b:MS}(h1:VS X md P R st a)(h2:VSs X md P R rest b):VSs X md P R (st::rest) (aB a b):=(Qh h1 h2).imp λD σ H q=>by
 obtain⟨ρ,O,F,as,r,s,k⟩:=q;refine⟨ρ,O,F,as,r,s,?_⟩;unfold aB at k
 cases e:a ρ O with
 |nx ρ' O' =>
  rw[e] at k;dsimp only at k
  exact λσ' H' F' as' g r' s'=>⟨ρ',O',F',as',r',s',jC g k⟩
 |bk ρ' O'=>rw[e] at k;exact k
 |ct ρ' O'=>rw[e] at k;exact k
 |rt d O'=>rw[e] at k;exact k
 |ex x O'=>rw[e] at k;exact k
 |no=>rw[e] at k;exact k
theorem aP{st:Stmt}{a:MS}(h1:VS X md P R st a):VSs X md P R [st] a:=Qi h1
def ud:MS:=λρ O=>.bk ρ O
theorem Vn{pos:Pos}:VS X md P R (.Break pos) ud:=Qk.imp λD σ H q=>by
 obtain⟨ρ,O,F,as,r,s,k⟩:=q;exact k σ H F as GrS.refl r s
def xK:MS:=λ_ _=>.no
theorem Hy{st:Stmt}:VS X md P R st xK:=(Qq (X:=X) (st:=st)).imp λD σ H q=>by
 obtain⟨ρ,O,F,as,r,s,k⟩:=q;exact False.elim k
def qM(m:M D):MS:=λρ O=>match m ρ O with
 | .ok _ O'=>.nx ρ O'
 | .ex x O'=>.ex x O'
 | .no=>.no
theorem Vo{e:Expr}{pos:Pos}{m:M D}(h:SE X md P e m)(hs:swapsWith e none pos.line X.env=pure false:=by rfl):VS X md P R (.Expr e pos) (qM m):=(wN h hs).imp λD σ H q=>by
 obtain⟨ρ,O,F,as,r,s,k⟩:=q;unfold qM at k
 cases e:m ρ O with
 |ok d O' =>
  rw[e] at k;exact⟨ρ,_,F,as,_,_,r,s,e,λv H' F' as' g r' _=>k σ H' F' as' g.toS r' (s.step g)⟩
 |ex x O'=>rw[e] at k;exact False.elim k
 |no=>rw[e] at k;exact False.elim k
def aU(m:M D):MS:=λρ O=>match m ρ O with
 | .ok d O'=>.rt d O'
 | .ex x O'=>.ex x O'
 | .no=>.no
theorem Hz(hR:gn R){e:Expr}{pos:Pos}{m:M D}(h:PE X e (tM X.K X.mg md P R m)):VS X md P R (.Return (some e) pos) (aU m):=(Fw h).imp λD σ H q=>by
 obtain⟨ρ,O,F,as,r,s,k⟩:=q;unfold aU at k
 cases e:m ρ O with
 |ok d O' =>
  rw[e] at k;exact⟨ρ,_,F,as,_,_,r,s,e,λv H' F' as' g r' hv=>k v H' F' as' g.toS r' (hR _ _ _ _ _ _ _ (λa ha p=>s.pd a p ha) hv)⟩
 |ex x O'=>rw[e] at k;exact False.elim k
 |no=>rw[e] at k;exact False.elim k
theorem bT{e:Expr}{pos:Pos}{m:M D}(h:VE X md P e m):VS X md P (rV X.K) (.Return (some e) pos) (aU m):=Hz cB h
theorem jD{e:Expr}{pos:Pos}{m:M D}(h:OE X md P e m):VS X md P (rO X.K) (.Return (some e) pos) (aU m):=Hz fj h
theorem oM(i:Nat){x:Str}{p pos:Pos}(hm:md[i]?=some .o:=by rfl)(hN:X.N[i]?=some x:=by rfl)(hv:Vis X.env.scope x:=by first | exact Or.inl rfl | exact Or.inr (Or.inl rfl) | exact Or.inr (Or.inr rfl))
  (hd:(x == ("__debug__":Str))=false:=by decide) (hcd:(x == ("__classdict__":Str))=false:=by decide):VS X md P (rO X.K) (.Return (some (.Name x p)) pos) (aU (aa i)):=(Fw (ou (i:=i) hN hv hd hcd)).imp λD σ H q=>by
 obtain⟨ρ,O,F,as,r,s,k⟩:=q;unfold aU at k
 cases e:aa i ρ O with
 |ok d O' =>
  rw[e] at k;obtain⟨e1,rfl⟩:=t8 e;obtain⟨v,h1,h2⟩:=s.sl i .o d hm e1;refine⟨v,h1,k v H F as GrS.refl r ?_⟩
  rcases h2 with h2 | ⟨a,xs,ds,e1,e2,e3,e0,e4,e5,e6⟩
  ·exact .inl h2
  ·exact .inr ⟨a,xs,ds,e1,e2,e3,e0,e4,e5,e6⟩
 |ex x O'=>rw[e] at k;exact False.elim k
 |no=>rw[e] at k;exact False.elim k
def bh(t:M Bool)(a b:MS):MS:=λρ O=>match t ρ O with
 | .ok c O'=>if c=true then a ρ O' else b ρ O'
 | .ex x O'=>.ex x O'
 | .no=>.no
theorem cI{c:Expr}{a b:List Stmt}{pos:Pos}{t:M Bool}{ma mb:MS}(hc:TsE X md P c t)(ha:VSs X md P R a ma)(hb:VSs X md P R b mb):VS X md P R (.If c a b pos) (bh t ma mb):=(Qo hc ha hb).imp λD σ H q=>by
 obtain⟨ρ,O,F,as,r,s,k⟩:=q;unfold bh at k
 cases e:t ρ O with
 |ok c O' =>
  rw[e] at k;refine⟨ρ,_,F,as,_,_,r,s,e,λH1 F1 as1 g r1=>?_⟩;dsimp only at k
  cases c with
  |true =>
   rw[if_pos rfl] at k ⊢;exact⟨ρ,O',F1,as1,r1,s.step g,jC g.toS k⟩
  |false =>
   rw[if_neg zh] at k ⊢;exact⟨ρ,O',F1,as1,r1,s.step g,jC g.toS k⟩
 |ex x O'=>rw[e] at k;exact False.elim k
 |no=>rw[e] at k;exact False.elim k
def aH(i:Nat)(m:M D):MS:=λρ O=>match m ρ O with
 | .ok d O'=>.nx (ρ.set i (some d)) O'
 | .ex x O'=>.ex x O'
 | .no=>.no
theorem HB{K:Frag}{mg:Str->Option Value}{i:Nat}{m:M D}{t:TE}(hm:md[i]?=some .v)(ht:∀σ H Q,tM K mg md P (rV K) m σ H Q->t σ H Q){D:Ends}{σ:St}{H:Hp}(q:tMS K mg md P R (aH i m) D σ H):tU t (qi i) D σ H:=by
 obtain⟨ρ,O,F,as,r,s,k⟩:=q;unfold aH at k
 cases e:m ρ O with
 |ok d O' =>
  rw[e] at k;exact ht _ _ _ ⟨ρ,_,F,as,_,_,r,s,e,λv H' F' as' g r' hv=>k _ H' F' as' g.toS r' ((s.step g).setV hm hv)⟩
 |ex x O'=>rw[e] at k;exact False.elim k
 |no=>rw[e] at k;exact False.elim k
theorem Vp{K:Frag}{mg:Str->Option Value}{i:Nat}{m:M D}{t:TE}(hm:md[i]?=some .o)(ht:∀σ H Q,tM K mg md P (rO K) m σ H Q->t σ H Q){D:Ends}{σ:St}{H:Hp}(q:tMS K mg md P R (aH i m) D σ H):tU t (qi i) D σ H:=by
 obtain⟨ρ,O,F,as,r,s,k⟩:=q;unfold aH at k
 cases e:m ρ O with
 |ok d O' =>
  rw[e] at k;exact ht _ _ _ ⟨ρ,_,F,as,_,_,r,s,e,λv H' F' as' g r' hv=>k _ H' F' as' g.toS r' (s.setO g hm hv)⟩
 |ex x O'=>rw[e] at k;exact False.elim k
 |no=>rw[e] at k;exact False.elim k
theorem bu{i:Nat}{x:Str}{e:Expr}{pos pos':Pos}{m:M D}(hN:X.N.Nodup)(hi:X.N[i]?=some x)(hx:Loc X.env.scope x)(h:VE X md P e m)(hm:md[i]?=some .v:=by rfl)(hs:swapsWith e (some (.Name x pos')) pos.line X.env=pure false:=by rfl)
  (hf:X.fn x=true\/X.env.scope.names.lookup x=some .local:=by first | exact .inl rfl | exact .inr rfl | assumption):VS X md P R (.Assign [.Name x pos'] e pos) (aH i m):=(Fx (i:=i) hN hi hx h hs hf).imp λD σ H q=>HB hm (λ_ _ _ z=>z) q
theorem jX{i:Nat}{x:Str}{e:Expr}{pos pos':Pos}{m:M D}(hN:X.N.Nodup)(hi:X.N[i]?=some x)(hx:Loc X.env.scope x)(h:OE X md P e m)(hm:md[i]?=some .o:=by rfl)(hs:swapsWith e (some (.Name x pos')) pos.line X.env=pure false:=by rfl)
  (hf:X.fn x=true\/X.env.scope.names.lookup x=some .local:=by first | exact .inl rfl | exact .inr rfl | assumption):VS X md P R (.Assign [.Name x pos'] e pos) (aH i m):=(Fx (i:=i) hN hi hx h hs hf).imp λD σ H q=>Vp hm (λ_ _ _ z=>z) q
abbrev MG:=D->aA->Option aA
def tMG(K:Frag)(mg:Str->Option Value)(md:List Md)(P:Pt)(g:MG):TG:=λv σ H Q=>∃ρ O F as d ρ',RlO K mg O H F as/\SlO K md P ρ σ H F as/\Rp K F as v d/\g d ρ=some ρ'/\∀σ',SlO K md P ρ' σ' H F as->Q σ' H
def Vq(K:Frag)(mg:Str->Option Value)(md:List Md)(P:Pt)(g:List D->aA->Option aA):TGs:=λvs σ H Q=>∃ρ O F as ds ρ',RlO K mg O H F as/\SlO K md P ρ σ H F as/\Rps K F as vs ds/\g ds ρ=some ρ'/\∀σ',SlO K md P ρ' σ' H F as->Q σ' H
def VG(X:Cx)(md:List Md)(P:Pt)(tg:Expr)(g:MG):Prop:=PG X tg (tMG X.K X.mg md P g)
def VGs(X:Cx)(md:List Md)(P:Pt)(tg:List Expr)(g:List D->aA->Option aA):Prop:=PGs X tg (Vq X.K X.mg md P g)
theorem PG.imp{e:Expr}{t t':TG}(h:PG X e t)(k:∀v σ H Q,t' v σ H Q->t v σ H Q):PG X e t':=λpins s σ H v u Q I r q=>h pins s σ H v u Q I r (k v σ H Q q)
theorem PGs.imp{e:List Expr}{t t':TGs}(h:PGs X e t)(k:∀v σ H Q,t' v σ H Q->t v σ H Q):PGs X e t':=λpins s σ H v u Q I r q=>h pins s σ H v u Q I r (k v σ H Q q)
def mgN(i:Nat):MG:=λd ρ=>some (ρ.set i (some d))
theorem di{i:Nat}{x:Str}{pos:Pos}(hN:X.N.Nodup)(hi:X.N[i]?=some x)(hx:Loc X.env.scope x)(hm:md[i]?=some .v:=by rfl)(hf:X.fn x=true\/X.env.scope.names.lookup x=some .local:=by first | exact .inl rfl | exact .inr rfl | assumption):VG X md P (.Name x pos) (mgN i):=
 (Qs (i:=i) hN hi hx hf).imp λv σ H Q q=>by
  obtain⟨ρ,O,F,as,d,ρ',r,s,hv,e,k⟩:=q;cases e;exact k _ (s.setV hm hv)
def ue:List D->aA->Option aA:=λds ρ=>match ds with
 | []=>some ρ
 | _=>none
def lC(g:MG)(r:List D->aA->Option aA):List D->aA->Option aA:=λds ρ=>match ds with
 |d::ds=>(g d ρ).bind λρ1=>r ds ρ1
 | []=>none
theorem Vr:VGs X md P [] ue:=Qv.imp λv σ H Q q=>by
 obtain⟨ρ,O,F,as,ds,ρ',r,s,hv,e,k⟩:=q
 cases ds with
 |nil=>cases e;exact⟨hv.un0,k _ s⟩
 |cons _ _=>cases e
theorem HD{e:Expr}{es:List Expr}{g:MG}{r:List D->aA->Option aA}(h1:VG X md P e g)(h2:VGs X md P es r)(hs:(assignEach (e::es) X.env).map (·.2)=assign e X.env::(assignEach es X.env).map (·.2):=by rfl):VGs X md P (e::es) (lC g r):=
 (Qw h1 h2 hs).imp λv σ H Q q=>by
  obtain⟨ρ,O,F,as,ds,ρ',r0,s,hv,e,k⟩:=q
  cases ds with
  |nil=>cases e
  |cons d ds =>
   obtain⟨x,rs,rfl,hx,hr⟩:=hv.un;unfold lC at e;dsimp only at e
   cases e1:g d ρ with
   |none=>rw[e1] at e;cases e
   |some ρ1 =>
    rw[e1] at e;exact⟨x,rs,rfl,ρ,O,F,as,d,ρ1,r0,s,hx,e1,λσ' s'=>⟨ρ1,O,F,as,ds,ρ',r0,s',hr,e,k⟩⟩
def qN(n:Nat)(r:List D->aA->Option aA):MG:=λd ρ=>match d with
 | .tup ds=>if ds.length=n then r ds ρ else none
 | _=>none
theorem Vs{es:List Expr}{pos:Pos}{k:Nat}{r:List D->aA->Option aA}(n:Nat)(hc:X.calm=true)(h:VGs X md P es r)(hn:(assignEach es X.env).length=n:=by rfl)(hst:(assignEach es X.env).findIdx? (·.1)=none:=by rfl):VG X md P (.Tuple es k pos) (qN n r):=
 (Qy hc h hn hst).imp λv σ H Q q=>by
  obtain⟨ρ,O,F,as,d,ρ',r0,s,hv,e,k⟩:=q
  cases d with
  |tup ds =>
   obtain⟨a,xs,rfl,h1,h2⟩:=hv.unT;unfold qN at e;dsimp only at e;split at e
   ·rename_i hl;exact⟨a,xs,rfl,Same.seqT r0.fh h1,by rw[h2.length];exact hl,ρ,O,F,as,ds,ρ',r0,s,h2,e,k⟩
   ·cases e
  | _=>cases e
def Vt(m:M D)(g:MG):MS:=λρ O=>match m ρ O with
 | .ok d O'=>match g d ρ with
  |some ρ'=>.nx ρ' O'
  |none=>.no
 | .ex x O'=>.ex x O'
 | .no=>.no
end
structure mQ(K:Frag)(mg:Str->Option Value)(P:Pt)(J:It)(ds:List D)(H F:Hp)(as:List Addr):Prop where
 turn:∀(i:Nat) (d:D) (H2 F2:Hp) (as2:List Addr),GrS P H F as H2 F2 as2->(∃O,RlO K mg O H2 F2 as2)->ds[i]?=some d->J.go i H2/\∀x H3,J.yld i H2 x H3->∃F3,Gr H2 F2 as2 H3 F3 as2/\(∀O,RlO K mg O H2 F2 as2->RlO K mg O H3 F3 as2)/\Rp K F3 as2 x d
 stop:∀(H2 F2:Hp) (as2:List Addr),GrS P H F as H2 F2 as2->(∃O,RlO K mg O H2 F2 as2)->J.stop ds.length H2
structure HF(K:Frag)(mg:Str->Option Value)(J:It)(ds:List D)(H F:Hp)(as:List Addr):Prop where
 turn:∀(i:Nat) (d:D) (H2 F2:Hp) (as2:List Addr),Gr H F as H2 F2 as2->(∃O,RlO K mg O H2 F2 as2)->ds[i]?=some d->J.go i H2/\∀x H3,J.yld i H2 x H3->∃F3,Gr H2 F2 as2 H3 F3 as2/\(∀O,RlO K mg O H2 F2 as2->RlO K mg O H3 F3 as2)/\Rp K F3 as2 x d
 stop:∀(H2 F2:Hp) (as2:List Addr),Gr H F as H2 F2 as2->(∃O,RlO K mg O H2 F2 as2)->J.stop ds.length H2
theorem mQ.e{K:Frag}{mg:Str->Option Value}{P:Pt}{J:It}{ds:List D}{H F:Hp}{as:List Addr}(h:mQ K mg P J ds H F as):HF K mg J ds H F as:=⟨λi d H2 F2 as2 g=>h.turn i d H2 F2 as2 g.toS,λH2 F2 as2 g=>h.stop H2 F2 as2 g.toS⟩
def HH(K:Frag)(mg:Str->Option Value)(md:List Md)(P:Pt)(m:M (List D)):TI:=λσ H Q=>∃ρ O F as ds O',RlO K mg O H F as/\SlO K md P ρ σ H F as/\m ρ O=.ok ds O' /\
 ∀J H' F' as',Gr H F as H' F' as'->RlO K mg O' H' F' as'->HF K mg J ds H' F' as'->Q J H'
def VIc(X:Cx)(md:List Md)(P:Pt)(tg iter:Expr)(m:M (List D)):Prop:=PI X tg iter (HH X.K X.mg md P m)
def tMI(K:Frag)(mg:Str->Option Value)(md:List Md)(P:Pt)(m:M (List D)):TI:=λσ H Q=>∃ρ O F as ds O',RlO K mg O H F as/\SlO K md P ρ σ H F as/\m ρ O=.ok ds O' /\
 ∀J H' F' as',Gr H F as H' F' as'->RlO K mg O' H' F' as'->mQ K mg P J ds H' F' as'->Q J H'
def VI(X:Cx)(md:List Md)(P:Pt)(tg iter:Expr)(m:M (List D)):Prop:=PI X tg iter (tMI X.K X.mg md P m)
section
variable {X:Cx}{md:List Md}{P:Pt}{R:RR}
theorem PI.imp{tg e:Expr}{t t':TI}(h:PI X tg e t)(k:∀σ H Q,t' σ H Q->t σ H Q):PI X tg e t':=λpins s σ H Q I q=>h pins s σ H Q I (k σ H Q q)
theorem uf{tg e:Expr}{m:M (List D)}(h:VI X md P tg e m):VIc X md P tg e m:=h.imp λσ H Q q=>by
 obtain⟨ρ,O,F,as,ds,O',r,s,e,k⟩:=q;exact⟨ρ,O,F,as,ds,O',r,s,e,λJ H' F' as' g r' hJ=>k J H' F' as' g r' hJ.e⟩
def cD(g:MG)(b:MS):List D->MS
 | [],ρ,O=>.nx ρ O
 |d::ds,ρ,O=>match g d ρ with
  |none=>.no
  |some ρ1=>match b ρ1 O with
   | .nx ρ2 O2=>cD g b ds ρ2 O2
   | .ct ρ2 O2=>cD g b ds ρ2 O2
   | .bk ρ2 O2=>.nx ρ2 O2
   |r=>r
def b8(m:M (List D))(g:MG)(b:MS):MS:=λρ O=>match m ρ O with
 | .ok ds O'=>cD g b ds ρ O'
 | .ex x O'=>.ex x O'
 | .no=>.no
theorem Vu{K:Frag}{mg:Str->Option Value}{m:M (List D)}{g:MG}{b:MS}{D:Ends}{σ:St}{H:Hp}(q:tMS K mg md P R (b8 m g b) D σ H):FN (tMI K mg md P m) (tMG K mg md P g) (tMS K mg md P R b) D σ H:=by
 obtain⟨ρ,O,F,as,r,s,k⟩:=q;unfold b8 at k
 cases e:m ρ O with
 |ex x O'=>rw[e] at k;exact False.elim k
 |no=>rw[e] at k;exact False.elim k
 |ok ds O1 =>
  rw[e] at k;dsimp only at k;refine⟨ρ,_,F,as,_,_,r,s,e,λJ H1 F1 as1 g1 r1 hJ=>?_⟩;have k1:=jC (R:=R) g1.toS k;refine⟨λi m σ' H'=>m=ds.length - i/\i<=ds.length/\∃ρ' O' F' as',GrS P H1 F1 as1 H' F' as'/\RlO K mg O' H' F' as'/\SlO K md P ρ' σ' H' F' as'/\lA K mg md P R D H' F' as' (cD g b (ds.drop i) ρ' O'),⟨ds.length,by simp,Nat.zero_le _,ρ,O1,F1,as1,GrS.refl,r1,s.step g1,by rw[List.drop_zero];exact k1⟩,?_⟩;rintro i n σ' H' ⟨rfl,hi,ρ',O',F',as',g',r',s',k'⟩
  by_cases hlt:i<ds.length
  ·have hd:=zp hlt;obtain⟨go,yl⟩:=hJ.turn i _ H' F' as' g' ⟨O',r'⟩ hd;rw[List.drop_eq_getElem_cons hlt] at k';refine .inr ⟨go,λσ2 H2=>∃ρ2 O2 F2 as2,GrS P H1 F1 as1 H2 F2 as2/\RlO K mg O2 H2 F2 as2/\SlO K md P ρ2 σ2 H2 F2 as2/\lA K mg md P R D H2 F2 as2 (cD g b (ds.drop (i+1)) ρ2 O2),λσ2 H2 h2=>⟨ds.length - (i+1),by omega,rfl,hlt,h2⟩,λx H3 y=>?_⟩;obtain⟨F3,g3,r3,hx⟩:=yl x H3 y;have r3':=r3 O' r';unfold cD at k'
   cases eg:g ds[i] ρ' with
   |none=>rw[eg] at k';exact False.elim k'
   |some ρ1 =>
    rw[eg] at k';dsimp only at k';refine⟨ρ',O',F3,as',ds[i],ρ1,r3',s'.step g3,hx,eg,λσ4 s4=>?_⟩;refine⟨ρ1,O',F3,as',r3',s4,?_⟩;have g4:GrS P H1 F1 as1 H3 F3 as':=g'.trans g3.toS
    have keep:=λ{f}=>jC (K:=K) (mg:=mg) (md:=md) (R:=R) (D:=D) (f:=f) (g3.toS (P:=P))
    cases eb:b ρ1 O' with
    |nx ρ2 O2 =>
     rw[eb] at k'
     exact λσ2 H2 F2 as2 g2 r2 s2=>⟨ρ2,O2,F2,as2,g4.trans g2,r2,s2,jC g2 (keep k')⟩
    |ct ρ2 O2 =>
     rw[eb] at k'
     exact λσ2 H2 F2 as2 g2 r2 s2=>⟨ρ2,O2,F2,as2,g4.trans g2,r2,s2,jC g2 (keep k')⟩
    |bk ρ2 O2 =>
     rw[eb] at k'
     exact λσ2 H2 F2 as2 g2 r2 s2=>k' σ2 H2 F2 as2 (g3.toS.trans g2) r2 s2
    |rt d O2 =>
     rw[eb] at k'
     exact λv H2 F2 as2 g2 r2 s2=>k' v H2 F2 as2 (g3.toS.trans g2) r2 s2
    |ex _ _=>rw[eb] at k';exact False.elim k'
    |no=>rw[eb] at k';exact False.elim k'
  ·have hi':i=ds.length:=by omega
   subst hi';refine .inl ⟨hJ.stop H' F' as' g' ⟨O',r'⟩,?_⟩;rw[List.drop_length] at k';exact k' σ' H' F' as' GrS.refl r' s'
theorem fM{tg iter:Expr}{body:List Stmt}{pos:Pos}{m:M (List D)}{g:MG}{b:MS}(hc:X.calm=true)(hi:VI X md P tg iter m)(hg:VG X md P tg g)(hb:VSs X md P R body b)(hp:PassesOwn (model X.prog X.w) X.A X.env X.xe:=by exact PassesOwn.never)
  (hs:∀x,foldedSetIterable iter X.env x=pure x:=by intro _;rfl):VS X md P R (.For tg iter body [] pos) (b8 m g b):=(QR hp hc hi hg hb hs).imp λ_ _ _ q=>Vu q
def dM(t:M Bool)(b:MS):Nat->MS
 | 0,_,_=>.no
 |n+1,ρ,O=>match t ρ O with
  | .ok true O1=>match b ρ O1 with
   | .nx ρ2 O2=>dM t b n ρ2 O2
   | .ct ρ2 O2=>dM t b n ρ2 O2
   | .bk ρ2 O2=>.nx ρ2 O2
   |r=>r
  | .ok false O1=>.nx ρ O1
  | .ex x O'=>.ex x O'
  | .no=>.no
def gR(n:Nat)(t:M Bool)(b:MS):MS:=dM t b n
theorem Vv{K:Frag}{mg:Str->Option Value}{n:Nat}{t:M Bool}{b:MS}{D:Ends}{σ:St}{H:Hp}(q:tMS K mg md P R (gR n t b) D σ H):Fy (tMT K mg md P t) (tMS K mg md P R b) D σ H:=by
 refine⟨λn σ' H'=>tMS K mg md P R (dM t b n) D σ' H',⟨n,q⟩,?_⟩;rintro m σ1 H1 ⟨ρ,O,F,as,r,s,k⟩
 cases m with
 |zero=>exact False.elim k
 |succ m =>
  unfold dM at k
  cases e:t ρ O with
  |ex x O'=>rw[e] at k;exact False.elim k
  |no=>rw[e] at k;exact False.elim k
  |ok c O1 =>
   rw[e] at k;refine⟨ρ,_,F,as,_,_,r,s,e,λH2 F2 as2 g2 r2=>?_⟩
   cases c with
   |false =>
    rw[if_neg zh];exact k σ1 H2 F2 as2 g2.toS r2 (s.step g2)
   |true =>
    rw[if_pos rfl];refine⟨λσ' H'=>tMS K mg md P R (dM t b m) D σ' H',λσ' H' h'=>⟨m,jj m,h'⟩,ρ,O1,F2,as2,r2,s.step g2,?_⟩;dsimp only at k
    have keep:=λ{f}=>jC (K:=K) (mg:=mg) (md:=md) (R:=R) (D:=D) (f:=f) (g2.toS (P:=P))
    cases eb:b ρ O1 with
    |nx ρ2 O2 =>
     rw[eb] at k
     exact λσ3 H3 F3 as3 g3 r3 s3=>⟨ρ2,O2,F3,as3,r3,s3,jC g3 (keep k)⟩
    |ct ρ2 O2 =>
     rw[eb] at k
     exact λσ3 H3 F3 as3 g3 r3 s3=>⟨ρ2,O2,F3,as3,r3,s3,jC g3 (keep k)⟩
    |bk ρ2 O2 =>
     rw[eb] at k
     exact λσ3 H3 F3 as3 g3 r3 s3=>k σ3 H3 F3 as3 (g2.toS.trans g3) r3 s3
    |rt d O2 =>
     rw[eb] at k
     exact λσ3 H3 F3 as3 g3 r3 s3=>k σ3 H3 F3 as3 (g2.toS.trans g3) r3 s3
    |ex _ _=>rw[eb] at k;exact False.elim k
    |no=>rw[eb] at k;exact False.elim k
theorem qO(n:Nat){c:Expr}{body:List Stmt}{pos:Pos}{t:M Bool}{b:MS}(hc:TsE X md P c t)(hb:VSs X md P R body b)(hp:PassesOwn (model X.prog X.w) X.A X.env X.xe:=by exact PassesOwn.never):VS X md P R (.While c body [] pos) (gR n t b):=
 (Qz hp hc hb).imp λ_ _ _ q=>Vv q
def dw(g:MG)(t:M Bool)(m:M D):List D->aA->aq->List D->Res (List D)
 | [],ρ,O,acc=>.ok acc O
 |d::ds,ρ,O,acc=>match g d ρ with
  |none=>.no
  |some ρ1=>match t ρ1 O with
   | .ok true O1=>match m ρ1 O1 with
    | .ok y O2=>dw g t m ds ρ1 O2 (acc++[y])
    | .ex x O'=>.ex x O'
    | .no=>.no
   | .ok false O1=>dw g t m ds ρ1 O1 acc
   | .ex x O'=>.ex x O'
   | .no=>.no
def jE(own:Nat)(cap:List Nat)(ρ:aA):aA:=List.replicate own none++cap.map λj=>(ρ[j]?).join
def dD(m:M (List D))(own:Nat)(cap:List Nat)(g:MG)(t:M Bool)(e:M D):M D:=λρ O=>(m ρ O).bind λds O1=>if ds.length<=1000000 then(dw g t e ds (jE own cap ρ) O1 []).bind λys O2=>.ok (.lst ys) O2 else .no
def dN:M Bool:=λ_ O=>.ok true O
def cMd(own:Nat)(cap:List Nat)(md:List Md):List Md:=List.replicate own .v++cap.map λj=>match md[j]? with
 |some .v=>.v
 | _=>.s
theorem Vw{K:Frag}{ρ:aA}{σ:St}{H F:Hp}{as:List Addr}{own:List Str}{cap:List Nat}(s:SlO K md P ρ σ H F as)(hcap:∀j∈cap,j<md.length):SlO K (cMd own.length cap md) (Pt.all H) (jE own.length cap ρ) (compSt own cap σ) H F as:=by
 refine⟨by simp[compSt,cMd],by simp[jE,cMd],λa h=>h,λi m d e1 e2=>?_,λi j a ds es h1=>?_,λ_ z=>nomatch z⟩
 ·unfold jE at e2;unfold cMd at e1;unfold compSt
  by_cases hi:i<own.length
  ·rw[zD (by simpa using hi),List.getElem?_replicate_of_lt hi] at e2;cases e2
  ·have hi':own.length<=i:=Nat.le_of_not_lt hi;rw[zI (by simpa using hi'),List.length_replicate,zw] at e2 e1;rw[zI (by simpa using hi'),zf,zw]
   cases q:cap[i - own.length]? with
   |none=>rw[q] at e2;cases e2
   |some j =>
    rw[q] at e1 e2;simp only[Option.map_some,Option.some.injEq] at e1 e2 ⊢
    cases q2:ρ[j]? with
    |none=>rw[q2] at e2;cases e2
    |some o =>
     rw[q2] at e2;have e2':o=some d:=e2;subst e2';obtain⟨m0,v,h1,h2,h3⟩:=s.get q2;rw[h1] at e1;refine⟨v,by rw[h2];rfl,?_⟩
     cases m0 with
     |v=>dsimp only at e1;subst e1;exact h3
     |s =>
      dsimp only at e1;subst e1
      rcases h3 with h3 | ⟨a,xs,ds,e1,e2,e3,e4,e5,e6⟩
      ·exact .inl h3
      ·exact .inr ⟨a,xs,ds,e1,e2,e3,e4,(show H a≠none by rw[e3];exact λz=>nomatch z),e6⟩
     |o =>
      dsimp only at e1;subst e1
      rcases h3 with⟨_,h3⟩ | ⟨a,xs,ds,e1,e2,e3,e0,e4,e5,e6⟩
      ·exact .inl h3
      ·exact .inr ⟨a,xs,ds,e1,e2,e3,e4,(show H a≠none by rw[e3];exact λz=>nomatch z),e6⟩
 ·exfalso
  unfold cMd at h1
  by_cases hi:i<own.length
  ·rw[zD (by simpa using hi),List.getElem?_replicate_of_lt hi] at h1;cases h1
  ·have hi':own.length<=i:=Nat.le_of_not_lt hi;rw[zI (by simpa using hi'),List.length_replicate,zw] at h1
   cases q:cap[i - own.length]? with
   |none=>rw[q] at h1;cases h1
   |some j =>
    rw[q] at h1;simp only[Option.map_some,Option.some.injEq] at h1
    split at h1<;>cases h1
end
section
variable {X:Cx}{md:List Md}{P:Pt}{R:RR}
def xM(K:Frag)(mg:Str->Option Value)(md:List Md)(R:RR)(m:M D):TE:=λσ H Q=>∃P,tM K mg md P R m σ H Q
def xMT(K:Frag)(mg:Str->Option Value)(md:List Md)(m:M Bool):TT:=λσ H Q=>∃P,tMT K mg md P m σ H Q
def xMG(K:Frag)(mg:Str->Option Value)(md:List Md)(g:MG):TG:=λv σ H Q=>∃P,tMG K mg md P g v σ H Q
theorem xm{e:Expr}{m:M D}(h:∀P,PE X e (tM X.K X.mg md P R m)):PE X e (xM X.K X.mg md R m):=λpins s σ H Q I ⟨P,q⟩=>h P pins s σ H Q I q
theorem xmg{e:Expr}{g:MG}(h:∀P,VG X md P e g):PG X e (xMG X.K X.mg md g):=λpins s σ H v u Q I r ⟨P,q⟩=>h P pins s σ H v u Q I r q
theorem xmt{e:List Expr}{m:M Bool}(h:∀P,lu X e (tMT X.K X.mg md P m)):lu X e (xMT X.K X.mg md m):=λpins s σ H Q I ⟨P,q⟩=>h P pins s σ H Q I q
def VIf(X:Cx)(md:List Md)(P:Pt)(e:List Expr)(m:M Bool):Prop:=lu X e (tMT X.K X.mg md P m)
theorem mR:VIf X md P [] dN:=λpins s σ H Q I q=>by
 obtain⟨ρ,O,F,as,d,O',r,s,e,k⟩:=q;cases e;exact Um pins _ σ H Q I (k H F as Gr.refl r)
theorem HJ{c:Expr}{m:M Bool}(h:TsE X md P c m):VIf X md P [c] m:=Uo h
theorem HN{K:Frag}{mg:Str->Option Value}{m:M (List D)}{own:List Str}{cap:List Nat}{g:MG}{t:M Bool}{e:M D}(hcap:∀j∈cap,j<md.length){σ:St}{H:Hp}{Q:VK}(q:tM K mg md P (rO K) (dD m own.length cap g t e) σ H Q):
  xE (HH K mg md P m) own cap (xMG K mg (cMd own.length cap md) g) (xMT K mg (cMd own.length cap md) t) (xM K mg (cMd own.length cap md) (rV K) e) σ H Q:=by
 obtain⟨ρ,O,F,as,d,OZ,r,s,eq,k⟩:=q;obtain⟨ds,O1,e1,eq⟩:=Res.bind_ok eq;split at eq
 ·rename_i hz;obtain⟨yf,O2,e2,eq⟩:=Res.bind_ok eq;cases eq;refine⟨ρ,_,F,as,_,_,r,s,e1,λJ H1 F1 as1 g1 r1 hJ=>?_⟩;have sb:=Vw (own:=own) (s.step g1) hcap
  refine⟨λi n ys σ' H'=>n=ds.length - i/\i<=ds.length/\∃ρ' O' F' as' acc,Gr H1 F1 as1 H' F' as'/\RlO K mg O' H' F' as'/\SlO K (cMd own.length cap md) (Pt.all H1) ρ' σ' H' F' as'/\Rps K F' as' ys acc/\acc.length<=i /\
   dw g t e (ds.drop i) ρ' O' acc=.ok yf OZ,⟨ds.length,by simp,Nat.zero_le _,jE own.length cap ρ,O1,F1,as1,[],Gr.refl,r1,sb,Rps.nil,zc _,by rw[List.drop_zero];exact e2⟩,?_⟩
  rintro i n ys σ' H' ⟨rfl,hi,ρ',O',F',as',acc,g',r',s',hy,hl,ec⟩
  by_cases hlt:i<ds.length
  ·obtain⟨go,yl⟩:=hJ.turn i _ H' F' as' g' ⟨O',r'⟩ (zp hlt)
   refine .inr ⟨go,?_,λys σ2 H2=>∃ρ2 O3 F2 as2 acc2,Gr H1 F1 as1 H2 F2 as2/\RlO K mg O3 H2 F2 as2/\SlO K (cMd own.length cap md) (Pt.all H1) ρ2 σ2 H2 F2 as2/\Rps K F2 as2 ys acc2/\acc2.length<=i+1 /\
    dw g t e (ds.drop (i+1)) ρ2 O3 acc2=.ok yf OZ,λys2 σ2 H2 h2=>⟨ds.length - (i+1),by omega,rfl,hlt,h2⟩,λx H3 y=>?_⟩
   ·rw[hy.length]
    have:=iK hz
    omega
   obtain⟨F3,g3,r3,hx⟩:=yl x H3 y;have r3':=r3 O' r';have g13:=g'.trans g3;rw[List.drop_eq_getElem_cons hlt] at ec;unfold dw at ec
   cases eg:g ds[i] ρ' with
   |none=>rw[eg] at ec;cases ec
   |some ρ1 =>
    rw[eg] at ec;dsimp only at ec;refine⟨_,ρ',O',F3,as',ds[i],ρ1,r3',s'.step g3,hx,eg,λσ4 s4=>?_⟩
    cases et:t ρ1 O' with
    |ex _ _=>rw[et] at ec;cases ec
    |no=>rw[et] at ec;cases ec
    |ok c O4 =>
     rw[et] at ec;refine⟨_,ρ1,O',F3,as',c,O4,r3',s4,et,λH5 F5 as5 g5 r5=>?_⟩
     cases c with
     |false =>
      rw[if_neg zh];exact⟨ρ1,O4,F5,as5,acc,g13.trans g5,r5,s4.step g5,(hy.gr g3).gr g5,by omega,ec⟩
     |true =>
      rw[if_pos rfl];dsimp only at ec
      cases em:e ρ1 O4 with
      |ex _ _=>rw[em] at ec;cases ec
      |no=>rw[em] at ec;cases ec
      |ok yd O6 =>
       rw[em] at ec;refine⟨_,ρ1,O4,F5,as5,yd,O6,r5,s4.step g5,em,λvy H7 F7 as7 g7 r7 hvy=>?_⟩;exact⟨ρ1,O6,F7,as7,acc++[yd],(g13.trans g5).trans g7,r7,(s4.step g5).step g7,(((hy.gr g3).gr g5).gr g7).snoc hvy,by rw[zz];show acc.length+1<=i+1;omega,ec⟩
  ·have hi':i=ds.length:=by omega
   subst hi';rw[List.drop_length] at ec;cases ec;refine .inl ⟨hJ.stop H' F' as' g' ⟨_,r'⟩,?_,λp hp=>?_⟩
   ·rw[hy.length];exact zG hl (iK hz)
   ·have hF:F' p=none:=by
     cases q:F' p with
     |none=>rfl
     |some o=>rw[r'.fh p o q] at hp;cases hp
    exact k _ _ F' as' ((g1.trans g').trans (Gr.lay hp)) (r'.lay hp) (.inr ⟨p,ys,yf,rfl,rfl,bM,hF,λz=>r'.all z hp,(g1.trans g').dm p hp,hy⟩)
 ·cases eq
variable {tg iter elt:Expr}{ifs:List Expr}{scope:Scope}{pos:Pos}{mi:M (List D)}{g:MG}{t:M Bool}{e:M D}
theorem oN(sc0:Scope)(N0 own:List Str)(cap:List Nat)(hc:X.calm=true)(hi:VIc X md P tg iter mi)
  (hg:∀C s H ex P,VG (cN X scope C (bQ N0 own cap) s H ex) (cMd own.length cap md) P tg g) (ht:∀C s H ex P,VIf (cN X scope C (bQ N0 own cap) s H ex) (cMd own.length cap md) P ifs t)
  (he:∀C s H ex P,VE (cN X scope C (bQ N0 own cap) s H ex) (cMd own.length cap md) P elt e)
  (hcap:∀j∈cap,j<md.length:=by decide) (hsc:X.env.scope=sc0:=by rfl) (hN0:X.N=N0:=by rfl) (ok:oH sc0 N0 scope own cap=true:=by decide +kernel) (hs:∀x,foldedSetIterable iter X.env x=pure x:=by intro _;rfl):
  OE X md P (.ListComp elt [⟨tg,iter,ifs,0⟩] scope pos) (dD mi own.length cap g t e):=
 (Us sc0 N0 own cap hc hi (λC s H ex=>xmg (hg C s H ex)) (λC s H ex=>xmt (ht C s H ex)) (λC s H ex=>xm (he C s H ex)) hsc hN0 ok hs).imp λ_ _ _ q=>HN hcap q
theorem xN{i:Nat}{x:Str}{pos' spos:Pos}(sc0:Scope)(N0 own:List Str)(cap:List Nat)(hN:X.N.Nodup)(hx:X.N[i]?=some x)(hl:Loc X.env.scope x)(hc:X.calm=true)(hi:VIc X md P tg iter mi)
  (hg:∀C s H ex P,VG (cN X scope C (bQ N0 own cap) s H ex) (cMd own.length cap md) P tg g) (ht:∀C s H ex P,VIf (cN X scope C (bQ N0 own cap) s H ex) (cMd own.length cap md) P ifs t)
  (he:∀C s H ex P,VE (cN X scope C (bQ N0 own cap) s H ex) (cMd own.length cap md) P elt e)
  (hm:md[i]?=some .v:=by rfl) (hcap:∀j∈cap,j<md.length:=by decide) (hsw:swapsWith (.ListComp elt [⟨tg,iter,ifs,0⟩] scope pos) (some (.Name x pos')) spos.line X.env=pure true:=by rfl)
  (hf:X.fn x=true\/X.env.scope.names.lookup x=some .local:=by first | exact .inl rfl | exact .inr rfl | assumption)
  (hsc:X.env.scope=sc0:=by rfl) (hN0:X.N=N0:=by rfl) (ok:oH sc0 N0 scope own cap=true:=by decide +kernel) (hs:∀x,foldedSetIterable iter X.env x=pure x:=by intro _;rfl):
  VS X md P R (.Assign [.Name x pos'] (.ListComp elt [⟨tg,iter,ifs,0⟩] scope pos) spos) (aH i (dD mi own.length cap g t e)):=
 (Ut (i:=i) sc0 N0 own cap hN hx hl hc hi (λC s H ex=>xmg (hg C s H ex)) (λC s H ex=>xmt (ht C s H ex)) (λC s H ex=>xm (he C s H ex)) hsw hf hsc hN0 ok hs).imp λD σ H q =>
  HB hm (λσ H Q z=>HN hcap (by
   obtain⟨ρ,O,F,as,d,O',r,s,e,k⟩:=z;refine⟨ρ,_,F,as,_,_,r,s,e,λv H' F' as' g r' hv=>?_⟩
   rcases hv with⟨_,hv⟩ | ⟨a,xs,ds,rfl,rfl,e3,e4,e5,e6,e7⟩
   ·exact k v H' F' as' g r' hv
   ·have ff:Same F' (upd F' a (.lst xs)):=λb u q=>by rw[aO (cH q e4)];exact q
    exact k _ H' (upd F' a (.lst xs)) as' (g.frz e6 e4) (r'.frz e3 e4 e5 rfl) (Rp.mkL (.inl (.inl bM)) (Rps.mono ff (λ_ _ z=>z) _ e7)))) q
end
def vSp(K:Frag)(mg:Str->Option Value)(pm:List Md)(R:RR)(c:List D->aq->Res D):Sp:=λvs H Q _ =>
 ∃ds O F as d O',RlO K mg O H F as/\cW K H F as pm vs ds/\c ds O=.ok d O'/\∀v H' F' as',Gr H F as H' F' as'->RlO K mg O' H' F' as'->R (λa=>H a=none) H' F' as' v d->Q v H'
def bH(n:Nat)(b:MS):List D->aq->Res D:=λds O=>match b (ds.map some++List.replicate (n - ds.length) none) O with
 | .rt d O'=>.ok d O'
 | .nx _ O'=>.ok .non O'
 | .ex x O'=>.ex x O'
 | _=>.no
theorem cW.len{K:Frag}{H F:Hp}{as:List Addr}:∀{ms:List Md}{vs:List V}{ds:List D},cW K H F as ms vs ds->vs.length=ms.length/\ds.length=ms.length
 | [],[],[],_=>⟨rfl,rfl⟩
 |m::ms,v::vs,d::ds,h=>by
  have:=cW.len h.2
  simp[this.1,this.2]
 | [],[],_::_,h=>h.elim
 | [],_::_,[],h=>h.elim
 | [],_::_,_::_,h=>h.elim
 | _::_,[],[],h=>h.elim
 | _::_,[],_::_,h=>h.elim
 | _::_,_::_,[],h=>h.elim
theorem cW.get{K:Frag}{H F:Hp}{as:List Addr}:∀{ms:List Md}{vs:List V}{ds:List D}{i:Nat}{m:Md}{d:D},cW K H F as ms vs ds->ms[i]?=some m->ds[i]?=some d->∃v,vs[i]?=some v/\rA K m (λ_=>True) H F as v d
 |m::ms,v::vs,d::ds,0,m',d',h,e1,e2=>by
  simp at e1 e2
  subst e1 e2;exact⟨v,rfl,h.1⟩
 |m::ms,v::vs,d::ds,i+1,m',d',h,e1,e2=>by
  obtain⟨v',h1,h2⟩:=cW.get (i:=i) (m:=m') (d:=d') h.2 (by simpa using e1) (by simpa using e2);exact⟨v',by simpa using h1,h2⟩
 | [],[],[],_,_,_,_,e1,_=>by simp at e1
 | [],[],_::_,_,_,_,h,_,_=>h.elim
 | [],_::_,[],_,_,_,h,_,_=>h.elim
 | [],_::_,_::_,_,_,_,h,_,_=>h.elim
 | _::_,[],[],_,_,_,h,_,_=>h.elim
 | _::_,[],_::_,_,_,_,h,_,_=>h.elim
 | _::_,_::_,[],_,_,_,h,_,_=>h.elim
theorem HQ{K:Frag}{H F:Hp}{as:List Addr}{N:List Str}{pm lm:List Md}{vs:List V}{ds:List D}(h:cW K H F as pm vs ds)(hl:(pm++lm).length=N.length)(hp:∀m∈pm,m≠.o):
  SlO K (pm++lm) (Pt.all H) (ds.map some++List.replicate (N.length - ds.length) none) (start N vs) H F as:=by
 obtain⟨h1,h2⟩:=h.len;rw[zz] at hl
 have vsl:vs.length<=N.length:=by omega
 have no:∀i a,(ds.map some++List.replicate (N.length - ds.length) none)[i]?=some (some a)->i<ds.length:=λi a e=>by
  by_cases hi:i<ds.length
  ·exact hi
  ·rw[zI (by simpa using hi),List.getElem?_replicate] at e
   split at e<;>cases e
 refine⟨by unfold start;simp;omega,by simp;omega,λa z=>z,λi m d e1 e2=>?_,λi j a es fs e1 e2 e3=>?_,λ_ z=>nomatch z⟩
 ·have hi:=no i d e2;rw[zD (by simpa using hi),zw] at e2;rw[zD (by omega)] at e1
  cases q:ds[i]? with
  |none=>rw[q] at e2;cases e2
  |some d' =>
   rw[q] at e2;cases e2;obtain⟨v,h3,h4⟩:=h.get e1 q;refine⟨v,?_,?_⟩
   ·unfold start;rw[zD (by simp;omega),zw,h3];rfl
   ·cases m with
    |v=>exact h4
    |s =>
     rcases h4 with h4 | ⟨a,xs,es,z1,z2,z3,z4,z5⟩
     ·exact .inl h4
     ·exact .inr ⟨a,xs,es,z1,z2,z3,z4,(show H a≠none by rw[z3];exact λz=>nomatch z),z5⟩
    |o=>exact absurd rfl (hp .o (zM e1))
 ·have hi:=no i _ e3;rw[zD (by omega)] at e1;exact absurd rfl (hp .o (zM e1))
section
variable {Pr:Program}{w:World}{K:Frag}{mg:Str->Option Value}{base:Heap}
theorem cP{x:Str}{st:Stmt}{N ps:List Str}{k:Nat}(Df:Def K mg x st)(S:bK N ps (aY st))
  (hb:∀(kV doc pm:Value) (an:Option Addr) (cdv ct:Value) (us:List Value),us.length=ps.length->bindArgs (PySem.W.fnOf x x (gP st) (fc st) (aY st) .none kV doc pm an cdv ct) ⟨us,[]⟩=pure (ps.zip us))
  (pm lm:List Md) {R:RR}{b:MS} (hR:gn R) (hR0:∀N H F as,R N H F as .non .non) (hpl:pm.length=ps.length:=by rfl) (hl:(pm++lm).length=N.length:=by rfl) (hp:∀m∈pm,m≠.o:=by decide)
  (body:∀(f:Addr) (cdv:Value) (A:Around) (outer:List Env) (s:Shared) (H:Hp) (E:XK),bw k (A.deeper (envOfC x (aY st) s.heap.objs.size f cdv))->∀P,VSs ((iI CX0 Pr w K mg base N x (aY st) f cdv A outer s H E).nox) (pm++lm) P R (fc st) b):
  Can Pr w K mg base x ps (k+1) (vSp K mg pm R (bH N.length b)):=by
 refine Df.can (k:=k) S hb (λvs H Q E h=>?_) (λf cdv A outer s H vs Q E hr h=>?_)
 ·obtain⟨ds,O,F,as,d,O',r,a,_⟩:=h;rw[a.len.1,hpl]
 ·obtain⟨ds,O,F,as,d,O',r,a,e,q⟩:=h;refine⟨_,body f cdv A outer s H E hr (Pt.all H),?_⟩;refine⟨_,O,F,as,r,HQ a hl hp,?_⟩;unfold bH at e
  cases eb:b (ds.map some++List.replicate (N.length - ds.length) none) O with
  |rt d' O2 =>
   rw[eb] at e;cases e
   exact λv H' F' as' g r' hv=>q v H' F' as' g.gr r' (hR _ _ _ _ _ _ _ (λc hc=>Classical.not_not.mp hc) hv)
  |nx ρ O2 =>
   rw[eb] at e;cases e
   exact λσ' H' F' as' g r' _=>q _ H' F' as' g.gr r' (hR0 _ _ _ _)
  |bk _ _=>rw[eb] at e;cases e
  |ct _ _=>rw[eb] at e;cases e
  |ex _ _=>rw[eb] at e;cases e
  |no=>rw[eb] at e;cases e
end
section
variable {X:Cx}{md:List Md}{P:Pt}{R:RR}{k:Nat}{x:Str}{ps:List Str}{p pos:Pos}{e:Expr}{es:List Expr}{pm:List Md}{c:List D->aq->Res D}{ma:M (List D)}
def aK(c:List D->aq->Res D)(ma:M (List D)):M D:=λρ O=>(ma ρ O).bind λds O1=>c ds O1
theorem Vx{K:Frag}{mg:Str->Option Value}(hR:gn R){E:XK}{σ:St}{H:Hp}{Q:VK}(q:tM K mg md P R (aK c ma) σ H Q):wZ (vSp K mg pm R c) [] E (tMA K mg md P pm ma) σ H Q:=by
 obtain⟨ρ,O,F,as,d,O',r,s,e,k⟩:=q;obtain⟨ds,O1,e1,e⟩:=Res.bind_ok e;refine⟨ρ,_,F,as,_,_,r,s,e1,λvs H1 F1 as1 g1 r1 hv=>?_⟩;dsimp only;rw[zZ];exact⟨ds,O1,F1,as1,d,O',r1,hv,e,λv H' F' as' g' r' hw=>k v H' F' as' (g1.trans g') r' (hR _ _ _ _ _ _ _ (λa ha=>g1.dm a ha) hw)⟩
theorem HR(hR:gn R)(C:Can X.prog X.w X.K X.mg X.base x ps k (vSp X.K X.mg pm R c))(hr:bw k X.A)(ha:AE X md P pm (e::es) ma)(hg:Gl X x:=by rfl)(hdb:(x == ("__debug__":Str))=false:=by decide)
  (he:starEach (e::es) X.env=(false,eval e X.env)::starEach es X.env:=by exact dq rfl) (hpl:(backTo pos (starEach es X.env)).any (·.1)=false:=by exact fJ rfl):PE X (.Call (.Name x p) (e::es) [] pos) (tM X.K X.mg md P R (aK c ma)):=
 (Uu C hr ha hg hdb he hpl).imp λ_ _ _ q=>Vx hR q
end
section
variable {K:Frag}{mg:Str->Option Value}{H F:Hp}{as:List Addr}{O:aq}{Q:VK}{d:D}{p:Addr}{xs:List V}{ds:List D}
theorem cu{v:V}(r:RlO K mg O H F as)(k:∀v' H' F',Gr H F as H' F' as->RlO K mg O H' F' as->Ow K (λa=>H a=none) H' F' as v' d->Q v' H')(hn:jA d=true)(hv:Rp K F as v d):Q v H:=k v H F Gr.refl r (.inl ⟨hn,hv⟩)
theorem RlO.frF(r:RlO K mg O H F as)(hp:H p=none):F p=none:=by
 cases q:F p with
 |none=>rfl
 |some o=>rw[r.fh p o q] at hp;cases hp
theorem oO(r:RlO K mg O H F as)(k:∀v' H' F',Gr H F as H' F' as->RlO K mg O H' F' as->Ow K (λa=>H a=none) H' F' as v' (.lst ds)->Q v' H')(hp:H p=none)(hs:Rps K F as xs ds):Q (.ref p) (upd H p (.lst xs)):=
 k _ _ F (Gr.lay hp) (r.lay hp) (.inr ⟨p,xs,ds,rfl,rfl,bM,r.frF hp,λz=>r.all z hp,hp,hs⟩)
theorem HS(r:RlO K mg O H F as)(k:∀v' H' F',Gr H F as H' F' as->RlO K mg O H' F' as->Ow K (λa=>H a=none) H' F' as v' (.tup ds)->Q v' H')(hp:H p=none)(hs:Rps K F as xs ds):Q (.ref p) (upd H p (.tup xs)):=by
 have hF:=r.frF hp
 have ff:Same F (upd F p (.tup xs)):=λb u q=>by rw[aO (cH q hF)];exact q
 exact k _ _ (upd F p (.tup xs)) ((Gr.lay hp).frz hp hF) ((r.lay hp).frz bM hF (λz=>r.all z hp) rfl) (.inl ⟨rfl,Rp.mkT (.inl bM) (Rps.mono ff (λ_ _ z=>z) _ hs)⟩)
end
section
variable {X:Cx}
def Vy(K:Frag):R2:=λx y H Q=>∃l b xs zs,x=.ref l/\y=.ref b/\RdK K H l xs/\RdK K H b zs/\xs.length+zs.length<=sizeLine/\∀p,H p=none->Q (.ref p) (upd H p (.lst (xs++zs)))
theorem Vz:OpR X (binaryOp .Add) (Vy X.K):=by
 intro pins s σ H x y v u Q I rx ry h;obtain⟨l,b,xs,zs,rfl,rfl,hH,hB,hz,q⟩:=h;cases rx;cases ry;obtain⟨z,its,n,r,e⟩:=hH.ok I;obtain⟨z2,its2,n2,r2,e2⟩:=hB.ok I;have hl:=r.length;have hl2:=r2.length;refine PySem.P.add_list e e2 ?_ (by rw[zq,zq];omega)
 have ea:its.toArray++its2.toArray=(its++its2).toArray:=by simp
 rw[ea];exact⟨.ref _,_,I.lnew (t':=s.toks) (r.append r2) (by rw[zz];omega),rfl,q _ I.fresh⟩
def VB(K:Frag):R2:=λx y H Q=>∃l k xs,x=.ref l/\y=.int k/\RdK K H l xs/\-(2 ^ 63)<=k/\k<2 ^ 63/\xs.length * k.toNat<=sizeLine /\
 ∀p,H p=none->Q (.ref p) (upd H p (.lst (List.replicate k.toNat xs).flatten))
theorem VD:OpR X (binaryOp .Mult) (VB X.K):=by
 intro pins s σ H x y v u Q I rx ry h;obtain⟨l,k,xs,rfl,rfl,hH,h1,h2,hz,q⟩:=h;cases rx;obtain⟨t,rfl⟩:=ry;obtain⟨z,its,n,r,e⟩:=hH.ok I;have hl:=r.length
 have hlen:its.toArray.size * k.toNat<=sizeLine:=by rw[zq,<-hl];exact hz
 have hcap:¬its.toArray.size * k.toNat>(2 ^ 63 - 1) / 8:=by
  have:(sizeLine:Nat)<=(2 ^ 63 - 1) / 8:=by decide
  omega
 have hfit:¬(!Builtin.List.listFitsIndex k)=true:=by
  rw[fitsIndex_both h1 h2];exact zh
 have hlong:¬Builtin.List.listTooLong (its.toArray.size * k.toNat)=true:=by
  rw[xq hlen];exact zh
 have hnew:List.foldl (λx1 x2=>x1++x2) #[] (List.replicate (if its.toArray.isEmpty=true then 0 else k.toNat) its.toArray)=(List.replicate k.toNat its).flatten.toArray:=by
  have f0:∀m:Nat,List.foldl (λx1 x2=>x1++x2) #[] (List.replicate m its.toArray)=(List.replicate m its).flatten.toArray:=λm=>by
   have:=foldl_rep its m []
   rw[zK] at this;exact this
  rw[f0]
  cases its with
  |nil=>simp
  |cons a r'=>rw[if_neg (by simp)]
 refine wpAny_binaryOp_repeat_ref (T:="list") (U:="int") (by decide) ⟨_,e,rfl⟩ (λs'=>typeIs_int s' k t) noFill_list_mul F.fills_int_mul F.slot_int_rmul repeat_list F.slot_int_index.lookup
  (call_meets F.slot_int_rmul (typeIs_int s k t) F.entry_int_rmul (F.args_int_rmul_2 _ _) (int___rmul___int_list k t l its.toArray n)
   ⟨e,rfl,⟨_,e,rfl⟩,call_meets F.slot_list_mul ⟨_,e,rfl⟩ F.entry_list_mul (F.args_list_mul_2 _ _) (AutoListH.list___mul___list_int_3 l its.toArray n k t hfit hcap hlong) ⟨e,?_⟩⟩)
 rw[hnew];exact⟨.ref _,_,I.lnew (t':=s.toks) (r.rep k.toNat) (by rw[len_rep,Nat.mul_comm];exact hz),rfl,q _ I.fresh⟩
def bc:D->D->Option D
 | .int i,.int j=>some (.int (i+j))
 | .int i,.bl k=>some (.int (i+b2i k))
 | .str a,.str b=>if a.length+b.length<=1000000 then some (.str (a++b)) else none
 | .lst a,.lst b=>if a.length+b.length<=1000000 then some (.lst (a++b)) else none
 | .tup a,.tup b=>if a.length+b.length<=1000000/\a≠[] then some (.tup (a++b)) else none
 | _,_=>none
instance (a:List D):Decidable (a≠[]):=match a with
 | []=>isFalse λh=>h rfl
 | _::_=>isTrue λh=>nomatch h
theorem cR:OpD X (binaryOp .Add) bc:=by
 intro pins s σ H x y v u Q I rx ry h;obtain⟨O,F,as,dx,dy,d,r,hx,hy,e,k⟩:=h
 cases dx with
 |int i =>
  cases(hx.rp rfl).unI
  cases dy with
  |int j =>
   cases(hy.rp rfl).unI;cases e;exact QZ pins s σ H _ _ v u Q I rx ry ⟨i,j,rfl,rfl,cu r k rfl Rp.int⟩
  |bl j =>
   cases(hy.rp rfl).unB;cases e;exact Q8 pins s σ H _ _ v u Q I rx ry ⟨i,j,rfl,rfl,cu r k rfl Rp.int⟩
  | _=>cases e
 |str a =>
  cases(hx.rp rfl).unS
  cases dy with
  |str b =>
   cases(hy.rp rfl).unS;simp only[bc] at e;split at e
   ·rename_i hz;cases e;refine Rn pins s σ H _ _ v u Q I rx ry ⟨S a,S b,rfl,rfl,by rw[fB,fB];exact iK hz,?_⟩;rw[Uy];exact cu r k rfl Rp.str
   ·cases e
  | _=>cases e
 |lst a =>
  obtain⟨p,xs,rfl,h1,h2⟩:=hx.list r.fh
  cases dy with
  |lst b =>
   obtain⟨p',ys,rfl,h3,h4⟩:=hy.list r.fh;simp only[bc] at e;split at e
   ·rename_i hz;cases e;exact Vz pins s σ H _ _ v u Q I rx ry ⟨p,p',xs,ys,rfl,rfl,h1,h3,by rw[h2.length,h4.length];exact iK hz,λq hq=>oO r k hq (Rps.append h4 h2)⟩
   ·cases e
  | _=>cases e
 |tup a =>
  obtain⟨p,xs,rfl,h1,h2⟩:=(hx.rp rfl).unT
  cases dy with
  |tup b =>
   obtain⟨p',ys,rfl,h3,h4⟩:=(hy.rp rfl).unT;simp only[bc] at e;split at e
   ·rename_i hz;cases e
    have hxs:xs≠[]:=λz=>hz.2 (List.eq_nil_of_length_eq_zero (by rw[<-h2.length,z];rfl))
    refine Sy pins s σ H _ _ v u Q I rx ry ⟨p,p',xs,ys,rfl,rfl,Same.seqT r.fh h1,Same.seqT r.fh h3,hxs,by rw[h2.length,h4.length];exact iK hz.1,λz=>?_,λ_ q hq=>HS r k hq (Rps.append h4 h2)⟩;have hb:b=[]:=List.eq_nil_of_length_eq_zero (by rw[<-h4.length,z];rfl);subst hb;rw[zZ] at k;exact cu r k rfl (hx.rp rfl)
   ·cases e
  | _=>cases e
 | _=>cases e
def gI(C:Int->Int->Bool)(f:Int->Int->Int):D->D->Option D
 | .int i,.int j=>if C i j=true then some (.int (f i j)) else none
 | _,_=>none
theorem xO{f:Value->Value->Sem Value}{Cp:Int->Int->Prop}{g:Int->Int->Int}{C:Int->Int->Bool}(h:OpR X f (rI Cp λi j=>.int (g i j)))(hc:∀i j,C i j=true->Cp i j):OpD X f (gI C g):=by
 intro pins s σ H x y v u Q I rx ry h';obtain⟨O,F,as,dx,dy,d,r,hx,hy,e,k⟩:=h'
 cases dx with
 |int i =>
  cases(hx.rp rfl).unI
  cases dy with
  |int j =>
   cases(hy.rp rfl).unI;simp only[gI] at e;split at e
   ·rename_i hC;cases e;exact h pins s σ H _ _ v u Q I rx ry ⟨i,j,rfl,rfl,hc i j hC,cu r k rfl Rp.int⟩
   ·cases e
  | _=>cases e
 | _=>cases e
def gw:D->D->Option D:=gI (λ_ _=>true) λi j=>i - j
theorem oR:OpD X (binaryOp .Sub) gw:=by
 intro pins s σ H x y v u Q I rx ry h';obtain⟨O,F,as,dx,dy,d,r,hx,hy,e,k⟩:=h'
 cases dx with
 |int i =>
  cases(hx.rp rfl).unI
  cases dy with
  |int j =>
   cases(hy.rp rfl).unI;cases e;exact Q0 pins s σ H _ _ v u Q I rx ry ⟨i,j,rfl,rfl,cu r k rfl Rp.int⟩
  | _=>cases e
 | _=>cases e
def lD(i:Int):Bool:=decide (-(2 ^ 64)<i)&&decide (i<2 ^ 64)
theorem xP{i:Int}(h:lD i=true):-(2 ^ 64)<i/\i<2 ^ 64:=by
 unfold lD at h;rw[zo,decide_eq_true_eq,decide_eq_true_eq] at h;exact h
def cz:D->D->Option D
 | .int i,.int j=>if(lD i || lD j)=true then some (.int (i * j)) else none
 | .str l,.int n=>if -1000000<n/\n<1000000/\l.length * n.toNat<=16777216 then some (.str (List.replicate n.toNat l).flatten) else none
 | .lst l,.int n=>if -1000000<n/\n<1000000/\l.length * n.toNat<=1000000 then some (.lst (List.replicate n.toNat l).flatten) else none
 | _,_=>none
theorem gU:OpD X (binaryOp .Mult) cz:=by
 intro pins s σ H x y v u Q I rx ry h;obtain⟨O,F,as,dx,dy,d,r,hx,hy,e,k⟩:=h
 cases dx with
 |int i =>
  cases(hx.rp rfl).unI
  cases dy with
  |int j =>
   cases(hy.rp rfl).unI;simp only[cz] at e;split at e
   ·rename_i hz;cases e;refine Q3 pins s σ H _ _ v u Q I rx ry ⟨i,j,rfl,rfl,?_,cu r k rfl Rp.int⟩;rw[Bool.or_eq_true] at hz
    rcases hz with z | z
    ·exact .inl (xP z)
    ·exact .inr (xP z)
   ·cases e
  | _=>cases e
 |str l =>
  cases(hx.rp rfl).unS
  cases dy with
  |int n =>
   cases(hy.rp rfl).unI;simp only[cz] at e;split at e
   ·rename_i hz;cases e;exact Vd pins s σ H _ _ v u Q I rx ry ⟨l,n,rfl,rfl,hz.1,hz.2.1,hz.2.2,cu r k rfl Rp.str⟩
   ·cases e
  | _=>cases e
 |lst l =>
  obtain⟨p,xs,rfl,h1,h2⟩:=hx.list r.fh
  cases dy with
  |int n =>
   cases(hy.rp rfl).unI;simp only[cz] at e;split at e
   ·rename_i hz;cases e;exact VD pins s σ H _ _ v u Q I rx ry ⟨p,n,xs,rfl,rfl,h1,by omega,by omega,by rw[h2.length];exact iK hz.2.2,λq hq=>oO r k hq (h2.rep _)⟩
   ·cases e
  | _=>cases e
 | _=>cases e
def bD:D->D->Option D:=gI (λ_ j=>decide (0<j)) λi j=>i % j
theorem dj:OpD X (binaryOp .Mod) bD:=xO Q5 λ_ _ h=>jh h
def fY:D->D->Option D:=gI (λ_ j=>decide (0<j)&&decide (j<1073741824)) λi j=>i / j
theorem qP:OpD X (binaryOp .FloorDiv) fY:=xO Q4 λi j h=>by
 rw[zo,decide_eq_true_eq,decide_eq_true_eq] at h;exact h
def eG:D->D->Option D:=gI (λi j=>decide (0<=j)&&(decide (j<=1000000)&&lD i)) λi j=>i ^ j.toNat
theorem mU:OpD X (binaryOp .Pow) eG:=xO Q6 λi j h=>by
 rw[zo,zo,decide_eq_true_eq,decide_eq_true_eq] at h
 have:=xP h.2.2
 exact⟨h.1,h.2.1,by omega⟩
def mUn(g:D->Option D)(m:M D):M D:=λρ O=>(m ρ O).bind λd O1=>match g (bB O1 d) with
 |some y=>.ok y O1
 |none=>.no
def jF:D->Option D
 | .int i=>some (.int (-i))
 | _=>none
theorem ug{md:List Md}{P:Pt}{a:Expr}{pos:Pos}{m:M D}(h:SE X md P a m):OE X md P (.UnaryOp .USub a pos) (mUn jF m):=(QV Q7 h).imp λσ H Q q=>by
 obtain⟨ρ,O,F,as,d,O',r,s,e,k⟩:=q;obtain⟨x,O1,e1,e⟩:=Res.bind_ok e;refine⟨ρ,_,F,as,_,_,r,s,e1,λv H1 F1 as1 g1 r1 hv=>?_⟩
 cases ed:bB O1 x with
 |int i =>
  rw[ed] at e;cases e
  have:=Sv.lk hv r1
  rw[ed] at this;exact⟨i,(this.rp rfl).unI,k _ H1 F1 as1 g1 r1 (.inl ⟨rfl,Rp.int⟩)⟩
 | _=>rw[ed] at e;cases e
def gCI(f:Int->Int->Bool):D->D->Option D
 | .int i,.int j=>some (.bl (f i j))
 | _,_=>none
theorem HW{f:Value->Value->Sem Value}{g:Int->Int->Bool}(h:OpR X f (rI0 λi j=>.bl (g i j))):OpD X f (gCI g):=by
 intro pins s σ H x y v u Q I rx ry h';obtain⟨O,F,as,dx,dy,d,r,hx,hy,e,k⟩:=h'
 cases dx with
 |int i =>
  cases(hx.rp rfl).unI
  cases dy with
  |int j =>
   cases(hy.rp rfl).unI;cases e;exact h pins s σ H _ _ v u Q I rx ry ⟨i,j,rfl,rfl,cu r k rfl Rp.bl⟩
  | _=>cases e
 | _=>cases e
def gLt:D->D->Option D:=gCI λi j=>decide (i<j)
def gGt:D->D->Option D:=gCI λi j=>decide (j<i)
def gGe:D->D->Option D:=gCI λi j=>decide (j<=i)
def gLe:D->D->Option D
 | .int i,.int j=>some (.bl (decide (i<=j)))
 | .str a,.str b=>some (.bl (!decide (b<a)))
 | _,_=>none
theorem oU:OpD X (compareOp .LtE) gLe:=by
 intro pins s σ H x y v u Q I rx ry h';obtain⟨O,F,as,dx,dy,d,r,hx,hy,e,k⟩:=h'
 cases dx with
 |int i =>
  cases(hx.rp rfl).unI
  cases dy with
  |int j =>
   cases(hy.rp rfl).unI;cases e;exact Ra pins s σ H _ _ v u Q I rx ry ⟨i,j,rfl,rfl,cu r k rfl Rp.bl⟩
  | _=>cases e
 |str a =>
  cases(hx.rp rfl).unS
  cases dy with
  |str b =>
   cases(hy.rp rfl).unS;cases e;refine UG pins s σ H _ _ v u Q I rx ry ⟨S a,S b,rfl,rfl,?_⟩;rw[jV,jV];exact cu r k rfl Rp.bl
  | _=>cases e
 | _=>cases e
theorem mV:OpD X (compareOp .Lt) gLt:=HW Q9
theorem jY:OpD X (compareOp .Gt) gGt:=HW Rb
mutual
def toP:D->PyData
 | .non=>.none
 | .bl b=>.bool b
 | .int i=>.int i
 | .str l=>.str (S l)
 | .lst ds=>.list (jZ ds)
 | .tup ds=>.tuple (jZ ds)
 | .dic _ _=>.none
 | .ob _=>.none
def jZ:List D->List PyData
 | []=>[]
 |d::ds=>toP d::jZ ds
end
mutual
def gW:D->Bool
 | .lst ds=>mW ds
 | .tup ds=>mW ds
 | .dic _ _=>false
 | .ob _=>false
 | _=>true
def mW:List D->Bool
 | []=>true
 |d::ds=>gW d&&mW ds
end
section
variable {K:Frag}{F:Hp}{as:List Addr}
mutual
theorem Rp.rep:∀(d:D) {v:V},gW d=true->Rp K F as v d->Rep K F v (toP d)
 | .non,v,_,h=>by rw[toP,Rep];exact h.unN
 | .bl b,v,_,h=>by rw[toP,Rep];exact h.unB
 | .int i,v,_,h=>by rw[toP,Rep];exact h.unI
 | .str x,v,_,h=>by rw[toP,Rep];exact h.unS
 | .lst ds,v,hp,h=>by
  obtain⟨a,xs,h1,h2,h3⟩:=h.unL;rw[toP,Rep];rw[gW] at hp;exact⟨a,xs,h1,h2.sq,Rps.rep' ds hp h3⟩
 | .tup ds,v,hp,h=>by
  obtain⟨a,xs,h1,h2,h3⟩:=h.unT;rw[toP,Rep];rw[gW] at hp;exact⟨a,xs,h1,h2,Rps.rep' ds hp h3⟩
 | .dic _ _,v,hp,h=>by rw[gW] at hp;cases hp
 | .ob _,v,hp,h=>by rw[gW] at hp;cases hp
theorem Rps.rep':∀(ds:List D) {xs:List V},mW ds=true->Rps K F as xs ds->aW K F xs (jZ ds)
 | [],xs,_,h=>by rw[h.un0,jZ];exact aW.nil
 |d::ds,xs,hp,h=>by
  obtain⟨x,r,rfl,h2,h3⟩:=h.un;rw[mW,zo] at hp;rw[jZ];exact aW.cons (Rp.rep d hp.1 h2) (Rps.rep' ds hp.2 h3)
end
theorem Lk.rep{H:Hp}{d:D}{v:V}(h:Lk K H F as v d)(fh:Same F H)(hp:gW d=true):Rep K H v (toP d):=by
 rcases h with h | ⟨a,xs,ds,rfl,rfl,h1,h2⟩
 ·exact Rep.mono fh _ (Rp.rep d hp h)
 ·rw[gW] at hp;rw[toP,Rep];exact⟨a,xs,rfl,.inl (.inl h1),aW.mono fh _ (Rps.rep' ds hp h2)⟩
end
def okE(d:D):Bool:=gW d&&okD (toP d)
def j0(a b:D):Bool:=PyData.eqv (toP a) (toP b)
def gEq:D->D->Option D
 | .int i,.int j=>some (.bl (decide (i=j)))
 | .str a,.str b=>some (.bl (decide (a=b)))
 | .bl a,.bl b=>some (.bl (decide (a=b)))
 |a,b=>if(okE a&&okE b)=true then some (.bl (j0 a b)) else none
def gNe:D->D->Option D
 | .int i,.int j=>some (.bl (!decide (i=j)))
 | .str a,.str b=>some (.bl (!decide (a=b)))
 | .bl a,.bl b=>some (.bl (!decide (a=b)))
 |a,b=>if(okE a&&okE b)=true then some (.bl (!j0 a b)) else none
theorem HX(a b:List Nat):decide (V.str (S a)=V.str (S b))=decide (a=b):=by
 by_cases h:a=b
 ·subst h;simp
 ·rw[zg h,zg];intro z;exact h (Uz (V.str.inj z))
theorem HY(a b:Int):decide (V.int a=V.int b)=decide (a=b):=by
 by_cases h:a=b
 ·subst h;simp
 ·rw[zg h,zg];intro z;exact h (V.int.inj z)
theorem H9(a b:Bool):decide (V.bl a=V.bl b)=decide (a=b):=by
 cases a<;>cases b<;>rfl
theorem VF{a b d:D}(h:gEq a b=some d):(∃i j,a=.int i/\b=.int j/\d=.bl (decide (i=j)))\/(∃i j,a=.str i/\b=.str j/\d=.bl (decide (i=j)))\/(∃i j,a=.bl i/\b=.bl j/\d=.bl (decide (i=j))) \/
  (okE a=true/\okE b=true/\d=.bl (j0 a b)):=by
 unfold gEq at h;split at h
 ·cases h;exact .inl ⟨_,_,rfl,rfl,rfl⟩
 ·cases h;exact .inr (.inl ⟨_,_,rfl,rfl,rfl⟩)
 ·cases h;exact .inr (.inr (.inl ⟨_,_,rfl,rfl,rfl⟩))
 ·split at h
  ·rename_i hk;rw[zo] at hk;cases h;exact .inr (.inr (.inr ⟨hk.1,hk.2,rfl⟩))
  ·cases h
theorem VH{a b d:D}(h:gNe a b=some d):(∃i j,a=.int i/\b=.int j/\d=.bl (!decide (i=j)))\/(∃i j,a=.str i/\b=.str j/\d=.bl (!decide (i=j)))\/(∃i j,a=.bl i/\b=.bl j/\d=.bl (!decide (i=j))) \/
  (okE a=true/\okE b=true/\d=.bl (!j0 a b)):=by
 unfold gNe at h;split at h
 ·cases h;exact .inl ⟨_,_,rfl,rfl,rfl⟩
 ·cases h;exact .inr (.inl ⟨_,_,rfl,rfl,rfl⟩)
 ·cases h;exact .inr (.inr (.inl ⟨_,_,rfl,rfl,rfl⟩))
 ·split at h
  ·rename_i hk;rw[zo] at hk;cases h;exact .inr (.inr (.inr ⟨hk.1,hk.2,rfl⟩))
  ·cases h
theorem eO{k:Nat}(hr:bw k X.A):OpD X (compareOp .Eq) gEq:=by
 intro pins s σ H x y v u Q I rx ry h';obtain⟨O,F,as,dx,dy,d,r,hx,hy,e,k⟩:=h'
 rcases VF e with⟨i,j,rfl,rfl,rfl⟩ | ⟨i,j,rfl,rfl,rfl⟩ | ⟨i,j,rfl,rfl,rfl⟩ | ⟨h1,h2,rfl⟩
 ·cases(hx.rp rfl).unI;cases(hy.rp rfl).unI;refine wU pins s σ H _ _ v u Q I rx ry ⟨rfl,?_⟩;rw[HY];exact cu r k rfl Rp.bl
 ·cases(hx.rp rfl).unS;cases(hy.rp rfl).unS;refine wU pins s σ H _ _ v u Q I rx ry ⟨rfl,?_⟩;rw[HX];exact cu r k rfl Rp.bl
 ·cases(hx.rp rfl).unB;cases(hy.rp rfl).unB;refine wU pins s σ H _ _ v u Q I rx ry ⟨rfl,?_⟩;rw[H9];exact cu r k rfl Rp.bl
 ·unfold okE at h1 h2;rw[zo] at h1 h2;exact Uv hr pins s σ H _ _ v u Q I rx ry ⟨toP dx,toP dy,hx.rep r.fh h1.1,hy.rep r.fh h2.1,h1.2,h2.2,cu r k rfl Rp.bl⟩
theorem jG{k:Nat}(hr:bw k X.A):OpD X (compareOp .NotEq) gNe:=by
 intro pins s σ H x y v u Q I rx ry h';obtain⟨O,F,as,dx,dy,d,r,hx,hy,e,k⟩:=h'
 rcases VH e with⟨i,j,rfl,rfl,rfl⟩ | ⟨i,j,rfl,rfl,rfl⟩ | ⟨i,j,rfl,rfl,rfl⟩ | ⟨h1,h2,rfl⟩
 ·cases(hx.rp rfl).unI;cases(hy.rp rfl).unI;refine wV pins s σ H _ _ v u Q I rx ry ⟨rfl,?_⟩;rw[HY];exact cu r k rfl Rp.bl
 ·cases(hx.rp rfl).unS;cases(hy.rp rfl).unS;refine wV pins s σ H _ _ v u Q I rx ry ⟨rfl,?_⟩;rw[HX];exact cu r k rfl Rp.bl
 ·cases(hx.rp rfl).unB;cases(hy.rp rfl).unB;refine wV pins s σ H _ _ v u Q I rx ry ⟨rfl,?_⟩;rw[H9];exact cu r k rfl Rp.bl
 ·unfold okE at h1 h2;rw[zo] at h1 h2;exact Uw hr pins s σ H _ _ v u Q I rx ry ⟨toP dx,toP dy,hx.rep r.fh h1.1,hy.rep r.fh h2.1,h1.2,h2.2,cu r k rfl Rp.bl⟩
def toV:D->V
 | .bl b=>.bl b
 | .int i=>.int i
 | .str l=>.str (S l)
 | _=>.non
def j4:D->Bool
 | .non=>true
 | .bl _=>true
 | .int _=>true
 | .str _=>true
 | _=>false
def eqF(x y:D):Bool:=eqV (toV x) (toV y)
theorem Rp.flat{K:Frag}{F:Hp}{as:List Addr}{v:V}{d:D}(h:Rp K F as v d)(hf:j4 d=true):v=toV d/\jy v=true:=by
 cases d with
 |non=>rw[h.unN];exact⟨rfl,rfl⟩
 |bl b=>rw[h.unB];exact⟨rfl,rfl⟩
 |int b=>rw[h.unI];exact⟨rfl,rfl⟩
 |str b=>rw[h.unS];exact⟨rfl,rfl⟩
 | _=>cases hf
theorem Rps.flat{K:Frag}{F:Hp}{as:List Addr}:∀{ds:List D}{xs:List V},Rps K F as xs ds->ds.all j4=true->xs=ds.map toV/\xs.all jy=true
 | [],xs,h,_=>by rw[h.un0];exact⟨rfl,rfl⟩
 |d::ds,xs,h,hf=>by
  obtain⟨x,r,rfl,h2,h3⟩:=h.un;rw[List.all_cons,zo] at hf;obtain⟨e1,e2⟩:=h2.flat hf.1;obtain⟨e3,e4⟩:=Rps.flat h3 hf.2;exact⟨by rw[zd,<-e1,<-e3],by rw[List.all_cons,e2,e4];rfl⟩
def gIn(neg:Bool):D->D->Option D
 | .str [c],.str l=>some (.bl (neg ^^ decide (c∈l)))
 |x,.lst ds=>if(j4 x&&ds.all j4)=true then some (.bl (neg ^^ ds.any λy=>eqF y x)) else none
 |x,.tup ds=>if(j4 x&&ds.all j4)=true then some (.bl (neg ^^ ds.any λy=>eqF y x)) else none
 | _,_=>none
theorem VJ{neg:Bool}{a b d:D}(h:gIn neg a b=some d):(∃c l,a=.str [c]/\b=.str l/\d=.bl (neg ^^ decide (c∈l)))\/(∃ds,(b=.lst ds\/b=.tup ds)/\j4 a=true/\ds.all j4=true/\d=.bl (neg ^^ ds.any λy=>eqF y a)):=by
 unfold gIn at h;split at h
 ·cases h;exact .inl ⟨_,_,rfl,rfl,rfl⟩
 ·split at h
  ·rename_i hk;rw[zo] at hk;cases h;exact .inr ⟨_,.inl rfl,hk.1,hk.2,rfl⟩
  ·cases h
 ·split at h
  ·rename_i hk;rw[zo] at hk;cases h;exact .inr ⟨_,.inr rfl,hk.1,hk.2,rfl⟩
  ·cases h
 ·cases h
theorem VL{x:D}{ds:List D}:inV (toV x) (ds.map toV)=ds.any λy=>eqF y x:=by
 unfold inV;rw[List.any_map];rfl
theorem VM{K:Frag}{mg:Str->Option Value}{H F:Hp}{as:List Addr}{O:aq}{v:V}{b:D}{ds:List D}(r:RlO K mg O H F as)(hy:Lk K H F as v b)(hb:b=.lst ds\/b=.tup ds):∃p xs,v=.ref p/\(SqL K H p xs\/SqT K H p xs)/\Rps K F as xs ds:=by
 rcases hb with rfl | rfl
 ·obtain⟨p,xs,e,h1,h2⟩:=hy.list r.fh;exact⟨p,xs,e,.inl h1.sq,h2⟩
 ·obtain⟨p,xs,e,h1,h2⟩:=(hy.rp rfl).unT;exact⟨p,xs,e,.inr (Same.seqT r.fh h1),h2⟩
theorem VN{d:D}(h:j4 d=true):jA d=true:=by cases d<;>first | rfl | cases h
theorem Ia:OpD X (compareOp .In) (gIn false):=by
 intro pins s σ H x y v u Q I rx ry h';obtain⟨O,F,as,dx,dy,d,r,hx,hy,e,k⟩:=h'
 rcases VJ e with⟨c,l,rfl,rfl,rfl⟩ | ⟨ds,hb,h1,h2,rfl⟩
 ·cases(hx.rp rfl).unS;cases(hy.rp rfl).unS;refine UJ pins s σ H _ _ v u Q I rx ry ⟨c,l,rfl,rfl,?_⟩;rw[Bool.false_xor] at k;exact cu r k rfl Rp.bl
 ·obtain⟨p,xs,rfl,h3,h4⟩:=VM r hy hb;obtain⟨e1,e2⟩:=(hx.rp (VN h1)).flat h1;obtain⟨e3,e4⟩:=h4.flat h2;refine Th pins s σ H _ _ v u Q I rx ry ⟨p,xs,rfl,h3,e2,e4,?_⟩;rw[if_neg zh,e1,e3,VL];rw[Bool.false_xor] at k;exact cu r k rfl Rp.bl
def gIx:D->D->Option D
 | .lst ds,.int i=>atI ds i
 | .tup ds,.int i=>atI ds i
 | .str l,.int i=>if l.length<=1000000 then(atI l i).map λc=>.str [c] else none
 | _,_=>none
theorem Rps.atI{K:Frag}{F:Hp}{as:List Addr}{xs:List V}{ds:List D}{i:Int}{d:D}(h:Rps K F as xs ds)(e:atI ds i=some d):∃v,L2.atI xs i=some v/\Rp K F as v d:=by
 unfold L2.atI at e ⊢;rw[h.length]
 cases q:ixN ds.length i with
 |none=>rw[q] at e;cases e
 |some j =>
  rw[q] at e;exact h.get' e
def rDv(K:Frag)(mg:Str->Option Value)(g:D->D->Option D):R2:=λx y H Q=>∃O F as dx dy d,RlO K mg O H F as/\Lk K H F as x dx/\Lk K H F as y dy/\g dx dy=some d/\∀v',Rp K F as v' d->Q v' H
theorem VP:IxR X (rDv X.K X.mg gIx):=by
 intro value slice pins s σ H x y v u Q I rx ry h' hsb;obtain⟨O,F,as,dx,dy,d,r,hx,hy,e,k⟩:=h'
 cases dx with
 |lst ds =>
  obtain⟨p,xs,rfl,h1,h2⟩:=hx.list r.fh
  cases dy with
  |int i =>
   cases(hy.rp rfl).unI;obtain⟨z,e1,e2⟩:=h2.atI e;exact S8 value slice pins s σ H _ _ v u Q I rx ry ⟨p,xs,i,z,rfl,rfl,h1.sq,e1,k z e2⟩ hsb
  | _=>cases e
 |tup ds =>
  obtain⟨p,xs,rfl,h1,h2⟩:=(hx.rp rfl).unT
  cases dy with
  |int i =>
   cases(hy.rp rfl).unI;obtain⟨z,e1,e2⟩:=h2.atI e;exact S9 value slice pins s σ H _ _ v u Q I rx ry ⟨p,xs,i,z,rfl,rfl,Same.seqT r.fh h1,e1,k z e2⟩ hsb
  | _=>cases e
 |str l =>
  cases(hx.rp rfl).unS
  cases dy with
  |int i =>
   cases(hy.rp rfl).unI;simp only[gIx] at e;split at e
   ·rename_i hz
    cases q:L2.atI l i with
    |none=>rw[q] at e;cases e
    |some c =>
     rw[q] at e;cases e;exact Tc value slice pins s σ H _ _ v u Q I rx ry ⟨S l,i,c,rfl,rfl,by rw[fB];exact iK hz,by rw[jV];exact q,k _ Rp.str⟩ hsb
   ·cases e
  | _=>cases e
 | _=>cases e
theorem bj{md:List Md}{P:Pt}{a b:Expr}{pos:Pos}{ma mb:M D}(ha:SE X md P a ma)(hb:SE X md P b mb)(hs:qx b:=by intro _ _;rfl):VE X md P (.Subscript a b pos) (ak gIx ma mb):=(SM VP ha hb hs).imp λσ H Q h=>by
 obtain⟨ρ,O,F,as,d,O',r,sl,e,k⟩:=h;obtain⟨x,O1,e1,e⟩:=Res.bind_ok e;obtain⟨y,O2,e2,e⟩:=Res.bind_ok e;split at e
 ·rename_i d' hg;cases e;refine⟨ρ,_,F,as,_,_,r,sl,e1,λv H1 F1 as1 g1 r1 hv=>?_⟩;refine⟨ρ,_,F1,as1,_,_,r1,sl.step g1,e2,λu H2 F2 as2 g2 r2 hu=>?_⟩;exact⟨_,F2,as2,_,_,_,r2,Sv.lk (Sv.gr hv g2) r2,Sv.lk hu r2,hg,λv' hw=>k v' H2 F2 as2 (g1.trans g2) r2 hw⟩
 ·cases e
def tMO(K:Frag)(mg:Str->Option Value)(md:List Md)(P:Pt)(m:M (Option Int)):TO:=λσ H Q =>
 ∃ρ O F as b O',RlO K mg O H F as/\SlO K md P ρ σ H F as/\m ρ O=.ok b O'/\∀H' F' as',Gr H F as H' F' as'->RlO K mg O' H' F' as'->Q b H'
def VO(X:Cx)(md:List Md)(P:Pt)(e:Option Expr)(m:M (Option Int)):Prop:=PO X e (tMO X.K X.mg md P m)
theorem PO.imp{e:Option Expr}{t t':TO}(h:PO X e t)(k:∀σ H Q,t' σ H Q->t σ H Q):PO X e t':=λpins s σ H Q I q=>h pins s σ H Q I (k σ H Q q)
def moN:M (Option Int):=λ_ O=>.ok none O
def moS(m:M D):M (Option Int):=λρ O=>(m ρ O).bind λd O1=>match d with
 | .int i=>.ok (some i) O1
 | _=>.no
theorem xQ{md:List Md}{P:Pt}:VO X md P none moN:=Sh.imp λσ H Q q=>by
 obtain⟨ρ,O,F,as,d,O',r,s,e,k⟩:=q;cases e;exact k H F as Gr.refl r
theorem mX{md:List Md}{P:Pt}{e:Expr}{m:M D}(h:VE X md P e m):VO X md P (some e) (moS m):=(Sq h).imp λσ H Q q=>by
 obtain⟨ρ,O,F,as,d,O',r,s,e,k⟩:=q;obtain⟨x,O1,e1,e⟩:=Res.bind_ok e
 cases x with
 |int i =>
  cases e;exact⟨ρ,_,F,as,_,_,r,s,e1,λv H1 F1 as1 g1 r1 hv=>⟨i,Rp.unI hv,k H1 F1 as1 g1 r1⟩⟩
 | _=>cases e
def gSl(d:D)(lo hi:Option Int):Option D:=match d with
 | .lst ds=>some (.lst (eE ds lo hi))
 | .tup ds=>some (.tup (eE ds lo hi))
 | .str l=>if l.length<=16777216 then some (.str (eE l lo hi)) else none
 | _=>none
def VR(K:Frag)(mg:Str->Option Value):V->Option Int->Option Int->Hp->VK->Prop:=λx lo hi H Q=>∃O F as dx d,RlO K mg O H F as/\Lk K H F as x dx/\gSl dx lo hi=some d /\
 ∀v' H' F',Gr H F as H' F' as->RlO K mg O H' F' as->Ow K (λa=>H a=none) H' F' as v' d->Q v' H'
theorem Rps.cut{K:Frag}{F:Hp}{as:List Addr}{xs:List V}{ds:List D}(h:Rps K F as xs ds)(lo hi:Option Int):Rps K F as (jR xs lo hi) (eE ds lo hi):=by
 unfold jR eE;rw[h.length];exact(h.drop _).take _
theorem V0:SlR X (VR X.K X.mg):=by
 intro pins s σ H x v vl vu lo hi sl Q I rx hs pl pu h;obtain⟨O,F,as,dx,d,r,hx,e,k⟩:=h
 cases dx with
 |lst ds =>
  obtain⟨p,xs,rfl,h1,h2⟩:=hx.list r.fh;cases e;exact Tf pins s σ H _ v vl vu lo hi sl Q I rx hs pl pu ⟨p,xs,rfl,h1.sq,λq hq=>oO r k hq (h2.cut lo hi)⟩
 |tup ds =>
  obtain⟨p,xs,rfl,h1,h2⟩:=(hx.rp rfl).unT;cases e;refine U5 X.K rfl pins s σ H _ v vl vu lo hi sl Q I rx hs pl pu ⟨p,xs,rfl,Same.seqT r.fh h1,λz=>?_,λ_ q hq=>HS r k hq (h2.cut lo hi)⟩
  have:eE ds lo hi=ds:=by
   unfold eE;rw[<-h2.length,z.1,z.2,List.drop_zero,Nat.sub_zero,h2.length,List.take_length]
  rw[this] at k;exact cu r k rfl (hx.rp rfl)
 |str l =>
  cases(hx.rp rfl).unS;simp only[gSl] at e;split at e
  ·rename_i hz;cases e;exact U3 pins s σ H _ v vl vu lo hi sl Q I rx hs pl pu ⟨l,rfl,zG hz (Nat.le_of_eq sizeLine_eq.symm),cu r k rfl Rp.str⟩
  ·cases e
 | _=>cases e
def mSl(m:M D)(lo hi:M (Option Int)):M D:=λρ O=>(m ρ O).bind λd O1=>(lo ρ O1).bind λl O2=>(hi ρ O2).bind λh O3=>match gSl (bB O3 d) l h with
 |some y=>.ok y O3
 |none=>.no
end
section
variable {X:Cx}{md:List Md}{P:Pt}{R:RR}
theorem qQ{e:Expr}{lo hi:Option Expr}{p2 pos:Pos}{m:M D}{ml mh:M (Option Int)}(he:SE X md P e m)(hl:VO X md P lo ml)(hh:VO X md P hi mh):OE X md P (.Subscript e (.Slice lo hi none p2) pos) (mSl m ml mh):=(Ss V0 he hl hh).imp λσ H Q q=>by
 obtain⟨ρ,O,F,as,d,O',r,s,e,k⟩:=q;obtain⟨x,O1,e1,e⟩:=Res.bind_ok e;obtain⟨l,O2,e2,e⟩:=Res.bind_ok e;obtain⟨h,O3,e3,e⟩:=Res.bind_ok e;split at e
 ·rename_i y hg;cases e;refine⟨ρ,_,F,as,_,_,r,s,e1,λv H1 F1 as1 g1 r1 hv=>?_⟩;refine⟨ρ,_,F1,as1,_,_,r1,s.step g1,e2,λH2 F2 as2 g2 r2=>?_⟩;have g12:=g1.trans g2;refine⟨ρ,_,F2,as2,_,_,r2,s.step g12,e3,λH3 F3 as3 g3 r3=>?_⟩;have g13:=g12.trans g3;exact⟨_,F3,as3,_,_,r3,Sv.lk (Sv.gr (Sv.gr hv g2) g3) r3,hg,λv' H' F' g' r' hw=>k v' H' F' as3 (g13.trans g') r' (fj _ _ _ _ _ _ _ (λa ha=>g13.dm a ha) hw)⟩
 ·cases e
def Lks(K:Frag)(H F:Hp)(as:List Addr):List V->List D->Prop
 | [],[]=>True
 |v::vs,d::ds=>Lk K H F as v d/\Lks K H F as vs ds
 | _,_=>False
theorem cW.lks{K:Frag}{mg:Str->Option Value}{O:aq}{H F:Hp}{as:List Addr}(r:RlO K mg O H F as):∀{ms:List Md}{vs:List V}{ds:List D},cW K H F as ms vs ds->Lks K H F as vs (ds.map (bB O))
 | [],[],[],_=>trivial
 |m::ms,v::vs,d::ds,h=>by
  refine⟨?_,cW.lks r h.2⟩
  have h1:Sv K H F as v d:=by
   cases m with
   |v=>exact .inl h.1
   |s=>exact h.1
   |o=>exact h.1
  exact h1.lk r
 | [],[],_::_,h=>h.elim
 | [],_::_,[],h=>h.elim
 | [],_::_,_::_,h=>h.elim
 | _::_,[],[],h=>h.elim
 | _::_,[],_::_,h=>h.elim
 | _::_,_::_,[],h=>h.elim
def rC(K:Frag)(mg:Str->Option Value)(g:List D->Option D):List V->Hp->VK->Prop:=λvs H Q=>∃O F as ds d,RlO K mg O H F as/\Lks K H F as vs ds/\g ds=some d /\
 ∀v' H' F',Gr H F as H' F' as->RlO K mg O H' F' as->Ow K (λa=>H a=none) H' F' as v' d->Q v' H'
abbrev jH(X:Cx)(f:Value)(g:List D->Option D):Prop:=iG X f (rC X.K X.mg g)
def aV(g:List D->Option D)(ma:M (List D)):M D:=λρ O=>(ma ρ O).bind λds O1=>match g (ds.map (bB O1)) with
 |some d=>.ok d O1
 |none=>.no
theorem uh{K:Frag}{mg:Str->Option Value}{g:List D->Option D}{ms:List Md}{ma:M (List D)}{σ:St}{H:Hp}{Q:VK}(q:tM K mg md P (rO K) (aV g ma) σ H Q):tCB (rC K mg g) (tMA K mg md P ms ma) σ H Q:=by
 obtain⟨ρ,O,F,as,d,O',r,s,e,k⟩:=q;obtain⟨ds,O1,e1,e⟩:=Res.bind_ok e;split at e
 ·rename_i y hg;cases e;refine⟨ρ,_,F,as,_,_,r,s,e1,λvs H1 F1 as1 g1 r1 hv=>?_⟩;exact⟨_,F1,as1,_,_,r1,hv.lks r1,hg,λv' H' F' g' r' hw=>k v' H' F' as1 (g1.trans g') r' (fj _ _ _ _ _ _ _ (λa ha=>g1.dm a ha) hw)⟩
 ·cases e
theorem cJ{x:Str}{p pos:Pos}{e:Expr}{es:List Expr}{id:String}{g:List D->Option D}{ms:List Md}{ma:M (List D)}(hc:jH X (.builtin id) g)(hm:X.mg x=none)(ha:AE X md P ms (e::es) ma)(hv:bootBuiltins x=some (.builtin id):=by decide +kernel)(hg:Gl X x:=by rfl)
  (hn:x≠"__name__":=by decide) (hdb:(x == ("__debug__":Str))=false:=by decide) (he:starEach (e::es) X.env=(false,eval e X.env)::starEach es X.env:=by exact dq rfl) (hpl:(backTo pos (starEach es X.env)).any (·.1)=false:=by exact fJ rfl):
  OE X md P (.Call (.Name x p) (e::es) [] pos) (aV g ma):=(Gu hc hg hm hv ha hn hdb he hpl).imp λ_ _ _ q=>uh q
theorem oV{x:Str}{p pos:Pos}{e:Expr}{es:List Expr}{T:String}{g:List D->Option D}{ms:List Md}{ma:M (List D)}(hc:jH X (.type T) g)(hm:X.mg x=none)(ha:AE X md P ms (e::es) ma)(hv:bootBuiltins x=some (.type T):=by decide +kernel)(hg:Gl X x:=by rfl)
  (hn:x≠"__name__":=by decide) (hdb:(x == ("__debug__":Str))=false:=by decide) (he:starEach (e::es) X.env=(false,eval e X.env)::starEach es X.env:=by exact dq rfl) (hpl:(backTo pos (starEach es X.env)).any (·.1)=false:=by exact fJ rfl):
  OE X md P (.Call (.Name x p) (e::es) [] pos) (aV g ma):=(R6 hc hg hm hv ha hn hdb he hpl).imp λ_ _ _ q=>uh q
theorem Lks.one{K:Frag}{H F:Hp}{as:List Addr}{vs:List V}{d:D}(h:Lks K H F as vs [d]):∃v,vs=[v]/\Lk K H F as v d:=by
 cases vs with
 |nil=>exact h.elim
 |cons v vs =>
  cases vs with
  |nil=>exact⟨v,rfl,h.1⟩
  |cons u us=>exact h.2.elim
theorem Lks.two{K:Frag}{H F:Hp}{as:List Addr}{vs:List V}{d e:D}(h:Lks K H F as vs [d,e]):∃v u,vs=[v,u]/\Lk K H F as v d/\Lk K H F as u e:=by
 cases vs with
 |nil=>exact h.elim
 |cons v vs =>
  cases vs with
  |nil=>exact h.2.elim
  |cons u us =>
   cases us with
   |nil=>exact⟨v,u,rfl,h.1,h.2.1⟩
   |cons w ws=>exact h.2.2.elim
def bC:List D->Option D
 | [.str l]=>if l.length<=1000000 then some (.int l.length) else none
 | [.lst ds]=>some (.int ds.length)
 | [.tup ds]=>some (.int ds.length)
 | _=>none
theorem cY:jH X (.builtin "len") bC:=by
 intro pins s σ H xs us Q I rs h;obtain⟨O,F,as,ds,d,r,hvs,e,k⟩:=h;unfold bC at e;split at e
 ·rename_i l;obtain⟨v,rfl,hv⟩:=hvs.one;split at e
  ·rename_i hz;cases e;cases(hv.rp rfl).unS;refine call_len pins s σ H _ us Q I rs ⟨_,_,rfl,⟨by rw[fB];exact iK hz,rfl⟩,?_⟩;rw[fB];exact cu r k rfl Rp.int
  ·cases e
 ·rename_i l;obtain⟨v,rfl,hv⟩:=hvs.one;cases e;obtain⟨p,xs,rfl,h1,h2⟩:=hv.list r.fh;refine call_len pins s σ H _ us Q I rs ⟨_,_,rfl,.inl ⟨xs,h1.sq,rfl⟩,?_⟩;rw[h2.length];exact cu r k rfl Rp.int
 ·rename_i l;obtain⟨v,rfl,hv⟩:=hvs.one;cases e;obtain⟨p,xs,rfl,h1,h2⟩:=(hv.rp rfl).unT;refine call_len pins s σ H _ us Q I rs ⟨_,_,rfl,.inr ⟨xs,Same.seqT r.fh h1,rfl⟩,?_⟩;rw[h2.length];exact cu r k rfl Rp.int
 ·cases e
def qR:List D->Option D
 | [.int i,.int j]=>some (.int (if j>i then j else i))
 | _=>none
def lE:List D->Option D
 | [.int i,.int j]=>some (.int (if j<i then j else i))
 | _=>none
theorem V1(hc:X.calm=true):jH X (.builtin "max") qR:=by
 intro pins s σ H xs us Q I rs h;obtain⟨O,F,as,ds,d,r,hvs,e,k⟩:=h;unfold qR at e;split at e
 ·obtain⟨v,u,rfl,hv,hu⟩:=hvs.two;cases e;cases(hv.rp rfl).unI;cases(hu.rp rfl).unI;exact Ro hc pins s σ H _ us Q I rs ⟨_,_,rfl,cu r k rfl Rp.int⟩
 ·cases e
theorem Ib(hc:X.calm=true):jH X (.builtin "min") lE:=by
 intro pins s σ H xs us Q I rs h;obtain⟨O,F,as,ds,d,r,hvs,e,k⟩:=h;unfold lE at e;split at e
 ·obtain⟨v,u,rfl,hv,hu⟩:=hvs.two;cases e;cases(hv.rp rfl).unI;cases(hu.rp rfl).unI;exact Rq hc pins s σ H _ us Q I rs ⟨_,_,rfl,cu r k rfl Rp.int⟩
 ·cases e
def mY:List D->Option D
 | [.int i]=>some (.int i)
 | [.bl b]=>some (.int (if b then 1 else 0))
 | _=>none
theorem V2:jH X (.type "int") mY:=by
 intro pins s σ H xs us Q I rs h;obtain⟨O,F,as,ds,d,r,hvs,e,k⟩:=h;unfold mY at e;split at e
 ·obtain⟨v,rfl,hv⟩:=hvs.one;cases e;cases(hv.rp rfl).unI;exact Gf pins s σ H _ us Q I rs (.inl ⟨_,rfl,cu r k rfl Rp.int⟩)
 ·obtain⟨v,rfl,hv⟩:=hvs.one;cases e;cases(hv.rp rfl).unB;exact Gf pins s σ H _ us Q I rs (.inr ⟨_,rfl,cu r k rfl Rp.int⟩)
 ·cases e
def gY:List D->Option D
 | [.lst ds]=>some (.lst ds)
 | [.tup ds]=>some (.lst ds)
 | _=>none
theorem xR:jH X (.type "list") gY:=by
 intro pins s σ H xs us Q I rs h;obtain⟨O,F,as,ds,d,r,hvs,e,k⟩:=h;unfold gY at e;split at e
 ·obtain⟨v,rfl,hv⟩:=hvs.one;cases e;obtain⟨p,xs,rfl,h1,h2⟩:=hv.list r.fh;exact GC pins s σ H _ us Q I rs ⟨p,xs,rfl,.inl h1.sq,λl hl=>oO r k hl h2⟩
 ·obtain⟨v,rfl,hv⟩:=hvs.one;cases e;obtain⟨p,xs,rfl,h1,h2⟩:=(hv.rp rfl).unT;exact GC pins s σ H _ us Q I rs ⟨p,xs,rfl,.inr (Same.seqT r.fh h1),λl hl=>oO r k hl h2⟩
 ·cases e
def gD:List D->Option (List Int)
 | []=>some []
 | .int b::ds=>(gD ds).map (b :: ·)
 | _=>none
theorem Rps.ints{K:Frag}{F:Hp}{as:List Addr}:∀{ds:List D}{xs:List V}{bs:List Int},Rps K F as xs ds->gD ds=some bs->xs=bs.map V.int
 | [],xs,bs,h,e=>by cases e;rw[h.un0];rfl
 |d::ds,xs,bs,h,e=>by
  obtain⟨x,r,rfl,h2,h3⟩:=h.un
  cases d with
  |int b =>
   unfold gD at e
   cases q:gD ds with
   |none=>rw[q] at e;cases e
   |some cs =>
    rw[q] at e;cases e;rw[h2.unI,Rps.ints h3 q];rfl
  | _=>cases e
def oW:List D->Option D
 | [.lst ds]=>(gD ds).bind λns=>if(ns.all (λn=>decide (0<=n)&&decide (n<=1000000))&&decide (ns.length<=1000000))=true then some (.int ns.sum) else none
 | _=>none
theorem Ie(hc:X.calm=true):jH X (.builtin "sum") oW:=by
 intro pins s σ H xs us Q I rs h;obtain⟨O,F,as,ds,d,r,hvs,e,k⟩:=h;unfold oW at e;split at e
 ·rename_i es;obtain⟨v,rfl,hv⟩:=hvs.one;obtain⟨p,xs,rfl,h1,h2⟩:=hv.list r.fh
  cases q:gD es with
  |none=>rw[q] at e;cases e
  |some ns =>
   rw[q] at e;dsimp only[Option.bind_some] at e;split at e
   ·rename_i hz;rw[zo,decide_eq_true_eq,jq] at hz;cases e;refine UW hc pins s σ H _ us Q I rs ⟨p,ns,rfl,?_,λn hn=>?_,hz.2,cu r k rfl Rp.int⟩
    ·rw[<-h2.ints q];exact h1.sq
    ·have:=hz.1 n hn
     rw[zo,decide_eq_true_eq,decide_eq_true_eq] at this;exact this
   ·cases e
 ·cases e
theorem cZ:bootBuiltins "len" = some (.builtin "len"):=by decide +kernel
theorem V3:bootBuiltins "max" = some (.builtin "max"):=by decide +kernel
theorem Ig:bootBuiltins "min" = some (.builtin "min"):=by decide +kernel
theorem Ih:bootBuiltins "sum" = some (.builtin "sum"):=by decide +kernel
theorem um:bootBuiltins "int" = some (.type "int"):=by decide +kernel
theorem Ii:bootBuiltins "str" = some (.type "str"):=by decide +kernel
theorem Ij:bootBuiltins "bool" = some (.type "bool"):=by decide +kernel
theorem qT:bootBuiltins "list" = some (.type "list"):=by decide +kernel
theorem V4:bootBuiltins "tuple" = some (.type "tuple"):=by decide +kernel
def tyD:D->Option String
 | .non=>some "NoneType"
 | .bl _=>some "bool"
 | .int _=>some "int"
 | .str _=>some "str"
 | .lst _=>some "list"
 | .tup _=>some "tuple"
 | .dic _ _=>some "dict"
 | .ob _=>none
def dF(t n:String):Bool:=t == n || (t == "bool" && n == "int")
def fC(n:String)(m:M D):M D:=λρ O=>(m ρ O).bind λd O1=>match tyD (bB O1 d) with
 |some t=>.ok (.bl (dF t n)) O1
 |none=>.no
def xT:List String:=["str","int","bool","list","tuple","dict"]
theorem V5(K:Frag):∀d t,tyD d=some t->∀n∈xT,PySem.W.kitOne K (.type t) (.type n)=some (dF t n):=by
 intro d t e n hn;simp only[xT,zk,List.not_mem_nil,or_false] at hn
 cases d<;>cases e<;>rcases hn with rfl | rfl | rfl | rfl | rfl | rfl<;>first | exact U8 K _ | kernel_rfl
theorem Lk.ty{K:Frag}{H F:Hp}{as:List Addr}{v:V}{d:D}{t:String}(h:Lk K H F as v d)(fh:Same F H)(e:tyD d=some t):TyQ K H v t:=by
 cases d with
 |non=>cases e;rw[(h.rp rfl).unN];exact .non
 |bl b=>cases e;rw[(h.rp rfl).unB];exact .bl _
 |int b=>cases e;rw[(h.rp rfl).unI];exact .int _
 |str b=>cases e;rw[(h.rp rfl).unS];exact .str _
 |lst ds=>cases e;obtain⟨p,xs,rfl,h1,h2⟩:=h.list fh;exact .lst h1.sq
 |tup ds=>cases e;obtain⟨p,xs,rfl,h1,h2⟩:=(h.rp rfl).unT;exact .tup (Same.seqT fh h1)
 |dic ks vs=>cases e;obtain⟨p,xs,rfl,h1,h2⟩:=(h.rp rfl).unD;exact .dK (fh _ _ h1)
 |ob n=>cases e
theorem mZ(n:String){T:Str}{a:Expr}{p p' pos:Pos}{m:M D}(hm:X.mg "isinstance" = none)(hT:X.mg T=none)(h:SE X md P a m)(hb:bootBuiltins T=some (.type n):=by decide +kernel)(hn:n∈xT:=by decide)(hg:Gl X "isinstance":=by rfl)(hgT:Gl X T:=by rfl)
  (hTn:T≠"__name__":=by decide) (hTd:(T == ("__debug__":Str))=false:=by decide)
  (hs1:starEach [a,.Name T p'] X.env=(false,eval a X.env)::starEach [.Name T p'] X.env:=by exact dq rfl) (hs2:starEach [.Name T p'] X.env=(false,eval (.Name T p') X.env)::starEach [] X.env:=by rfl) (hpl:(backTo pos (starEach [.Name T p'] X.env)).any (·.1)=false:=by exact fJ rfl):
  OE X md P (.Call (.Name "isinstance" p) [a,.Name T p'] [] pos) (fC n m):=
 (Gu (U7 X.K) hg hm (by decide +kernel) (oA h (oA (Pq (v:=.ty n) hgT hT hb rfl hTn hTd) qw hs2) hs1) (by decide) (by decide) hs1 hpl).imp λσ H Q q=>by
  obtain⟨ρ,O,F,as,d,O',r,s,e,k⟩:=q;obtain⟨x,O1,e1,e⟩:=Res.bind_ok e;split at e
  ·rename_i t ht;cases e;refine⟨ρ,_,F,as,_,_,r,s,e1,λv H1 F1 as1 g1 r1 hv=>?_⟩;exact⟨v,n,t,_,rfl,Lk.ty (Sv.lk hv r1) r1.fh ht,V5 _ _ t ht n hn,k _ H1 F1 as1 g1 r1 (.inl ⟨rfl,Rp.bl⟩)⟩
  ·cases e
def uo(m:M D):M (List D):=λρ O=>(m ρ O).bind λd O1=>match d with
 | .lst ds=>.ok ds O1
 | _=>.no
def xU(m:M D):M (List D):=λρ O=>(m ρ O).bind λd O1=>match d with
 | .tup ds=>.ok ds O1
 | _=>.no
theorem V6{K:Frag}{mg:Str->Option Value}{H F:Hp}{as:List Addr}{a:Addr}{xs:List V}{ds:List D}(hs:Rps K F as xs ds)(hp:∀(H2 F2:Hp) (as2:List Addr),GrS P H F as H2 F2 as2->(∃O,RlO K mg O H2 F2 as2)->RdK K H2 a xs):mQ K mg P (Itl K a) ds H F as:=by
 refine⟨λi d H2 F2 as2 g r e=>?_,λH2 F2 as2 g r=>⟨xs,(hp H2 F2 as2 g r).sq,by rw[hs.length];exact zc _⟩⟩;obtain⟨x,h1,h2⟩:=hs.get' e;have q:=hp H2 F2 as2 g r;refine⟨⟨xs,x,q.sq,h1⟩,λy H3 hy=>?_⟩;obtain⟨rfl,hy⟩:=hy
 have:=hy xs q.sq
 rw[h1] at this;cases this;exact⟨F2,Gr.refl,λ_ r=>r,h2.grS g⟩
end
section
variable {X:Cx}{pins:List (Addr×Obj)}{σ:St}{H:Hp}{s:Shared}
end
section
variable {X:Cx}{elts:List Expr}{x1:Nat}{tpos:Pos}
end
def rW(K:Frag)(P:Pt):RR:=λ_ H F as v d=>Rp K F as v d\/∃a xs ds,v=.ref a/\d=.lst ds/\H a=some (.lst xs)/\a∉as/\P a/\Rps K F as xs ds
def WE(X:Cx)(md:List Md)(P:Pt)(e:Expr)(m:M D):Prop:=PE X e (tM X.K X.mg md P (rW X.K P) m)
section
variable {X:Cx}{md:List Md}{P:Pt}{R:RR}
theorem qU{e:Expr}{m:M D}(h:VE X md P e m):WE X md P e m:=h.imp λσ H Q q=>by
 obtain⟨ρ,O,F,as,d,O',r,s,e,k⟩:=q;exact⟨ρ,O,F,as,d,O',r,s,e,λv H' F' as' g r' hv=>k v H' F' as' g r' (.inl hv)⟩
theorem V7(i:Nat){x:Str}{pos:Pos}(hm:md[i]?=some .s:=by rfl)(hN:X.N[i]?=some x:=by rfl)(hv:Vis X.env.scope x:=by first | exact Or.inl rfl | exact Or.inr (Or.inl rfl) | exact Or.inr (Or.inr rfl))
  (hd:(x == ("__debug__":Str))=false:=by decide) (hcd:(x == ("__classdict__":Str))=false:=by decide):WE X md P (.Name x pos) (aa i):=by
 refine(ou (i:=i) hN hv hd hcd).imp λσ H Q h=>?_
 obtain⟨ρ,O,F,as,d,O',r,s,e,k⟩:=h;obtain⟨e1,rfl⟩:=t8 e;obtain⟨v,h2,h3⟩:=s.sl i .s d hm e1;exact⟨v,h2,k v H F as Gr.refl r h3⟩
theorem Ik{K:Frag}{mg:Str->Option Value}{N:Addr->Prop}{H F:Hp}{as:List Addr}{v:V}{ds:List D}(hv:rW K P N H F as v (.lst ds)):
  ∃a xs,v=.ref a/\Rps K F as xs ds/\∀(H2 F2:Hp) (as2:List Addr),GrS P H F as H2 F2 as2->(∃O,RlO K mg O H2 F2 as2)->RdK K H2 a xs:=by
 rcases hv with hv | ⟨a,xs,ds',rfl,e,e3,e4,e5,e6⟩
 ·obtain⟨a,xs,rfl,h1,h2⟩:=hv.unL;exact⟨a,xs,rfl,h2,λH2 F2 as2 g ⟨O,r⟩=>(h1.mono g.ff).mono r.fh⟩
 ·cases e;exact⟨a,xs,rfl,e6,λH2 F2 as2 g _=>.inl (.inl (g.fr _ _ e5 e3 e4 rfl))⟩
theorem V8{tg e:Expr}{m:M D}(h:WE X md P e m):VI X md P tg e (uo m):=(Fz h).imp λσ H Q q=>by
 obtain⟨ρ,O,F,as,ds,O',r,s,e,k⟩:=q;obtain⟨d,O1,e1,e⟩:=Res.bind_ok e
 cases d with
 |lst es =>
  cases e;refine⟨ρ,_,F,as,_,_,r,s,e1,λv H1 F1 as1 g1 r1 hv=>?_⟩;obtain⟨a,xs,rfl,h1,h2⟩:=Ik (mg:=X.mg) hv;exact⟨a,rfl,⟨xs,(h2 H1 F1 as1 GrS.refl ⟨_,r1⟩).sq⟩,k _ H1 F1 as1 g1 r1 (V6 h1 h2)⟩
 | _=>cases e
theorem Il{tg e:Expr}{m:M D}(h:VE X md P e m):VI X md P tg e (xU m):=(QH h).imp λσ H Q q=>by
 obtain⟨ρ,O,F,as,ds,O',r,s,e,k⟩:=q;obtain⟨d,O1,e1,e⟩:=Res.bind_ok e
 cases d with
 |tup es =>
  cases e;refine⟨ρ,_,F,as,_,_,r,s,e1,λv H1 F1 as1 g1 r1 hv=>?_⟩;obtain⟨a,xs,rfl,h1,h2⟩:=Rp.unT hv
  have hp:∀(H2 F2:Hp) (as2:List Addr),GrS P H1 F1 as1 H2 F2 as2->(∃O,RlO X.K X.mg O H2 F2 as2)->SqT X.K H2 a xs:=λH2 F2 as2 g ⟨O,r⟩=>Same.seqT r.fh (Same.seqT g.ff h1)
  refine⟨a,rfl,⟨xs,hp H1 F1 as1 GrS.refl ⟨_,r1⟩⟩,k _ H1 F1 as1 g1 r1 ⟨λi d H2 F2 as2 g r e=>?_,λH2 F2 as2 g r=>⟨xs,hp H2 F2 as2 g r,by rw[h2.length];exact zc _⟩⟩⟩;obtain⟨x,h3,h4⟩:=h2.get' e;have q:=hp H2 F2 as2 g r;refine⟨⟨xs,x,q,h3⟩,λy H3 hy=>?_⟩;obtain⟨rfl,hy⟩:=hy
  have:=hy xs q
  rw[h3] at this;cases this;exact⟨F2,Gr.refl,λ_ r=>r,h4.grS g⟩
 | _=>cases e
def fZ(l:List Nat):List D:=l.map λc=>.str [c]
def xV(m:M D):M (List D):=λρ O=>(m ρ O).bind λd O1=>match d with
 | .str l=>if ascii l=true then .ok (fZ l) O1 else .no
 | _=>.no
theorem xW{K:Frag}{mg:Str->Option Value}{J:It}{ds:List D}{H F:Hp}{as:List Addr}(h1:∀(i:Nat) (d:D) (H2:Hp),ds[i]?=some d->J.go i H2/\∀x H3,J.yld i H2 x H3->H3=H2/\∀K F as,Rp K F as x d)(h2:∀H2,J.stop ds.length H2):mQ K mg P J ds H F as :=
 ⟨λi d H2 F2 as2 _ _ e=>⟨(h1 i d H2 e).1,λx H3 y=>by
  obtain⟨rfl,hx⟩:=(h1 i d H2 e).2 x H3 y
  exact⟨F2,Gr.refl,λ_ r=>r,hx _ _ _⟩⟩,λH2 _ _ _ _=>h2 H2⟩
theorem Im{tg e:Expr}{m:M D}(h:SE X md P e m):VI X md P tg e (xV m):=(UV h).imp λσ H Q q=>by
 obtain⟨ρ,O,F,as,ds,O',r,s,e,k⟩:=q;obtain⟨d,O1,e1,e⟩:=Res.bind_ok e
 cases d with
 |str l =>
  dsimp only at e;split at e
  ·rename_i hl;cases e;refine⟨ρ,_,F,as,_,_,r,s,e1,λv H1 F1 as1 g1 r1 hv=>?_⟩;refine⟨l,(Sv.rp hv rfl).unS,hl,k _ H1 F1 as1 g1 r1 (xW (λi d H2 e=>?_) λH2=>by simp[fZ,Its])⟩;unfold fZ at e;rw[zw] at e
   cases q:l[i]? with
   |none=>rw[q] at e;cases e
   |some c =>
    rw[q] at e;cases e;refine⟨(zl.mp q).1,λx H3 y=>?_⟩;obtain⟨e1,c',e2,rfl⟩:=y;rw[q] at e2;cases e2;exact⟨e1,λ_ _ _=>Rp.str⟩
  ·cases e
 | _=>cases e
def bI(lo:Int)(n:Nat):List D:=(List.range n).map λ(k:Nat)=>.int (lo+(k:Int))
def eQ(m:M (List D)):M (List D):=λρ O=>(m ρ O).bind λds O1=>match ds with
 | [.int j]=>if j<=1000000000/\-1000000000<=j then .ok (bI 0 j.toNat) O1 else .no
 | _=>.no
def j5(m:M (List D)):M (List D):=λρ O=>(m ρ O).bind λds O1=>match ds with
 | [.int i,.int j]=>if(i<=1000000000/\-1000000000<=i)/\j<=1000000000/\-1000000000<=j then .ok (bI i (j - i).toNat) O1 else .no
 | _=>.no
theorem Io{K:Frag}{mg:Str->Option Value}{lo:Int}{n:Nat}{H F:Hp}{as:List Addr}:mQ K mg P (Itr lo n) (bI lo n) H F as:=xW (λi d H2 e=>by
 unfold bI at e;rw[zw] at e
 by_cases hi:i<n
 ·rw[List.getElem?_range hi] at e;cases e;refine⟨hi,λx H3 y=>?_⟩;obtain⟨e1,rfl⟩:=y;exact⟨e1,λ_ _ _=>Rp.int⟩
 ·rw[List.getElem?_eq_none (by simpa using hi)] at e
  cases e) λH2=>by simp[bI,Itr]
theorem cW.one{K:Frag}{H F:Hp}{as:List Addr}{m:Md}{vs:List V}{d:D}(h:cW K H F as [m] vs [d]):∃v,vs=[v]/\rA K m (λ_=>True) H F as v d:=by
 cases vs with
 |nil=>exact h.elim
 |cons v vs =>
  cases vs with
  |nil=>exact⟨v,rfl,h.1⟩
  |cons u us=>exact h.2.elim
theorem cW.two{K:Frag}{H F:Hp}{as:List Addr}{m n:Md}{vs:List V}{d e:D}(h:cW K H F as [m,n] vs [d,e]):∃v u,vs=[v,u]/\rA K m (λ_=>True) H F as v d/\rA K n (λ_=>True) H F as u e:=by
 cases vs with
 |nil=>exact h.elim
 |cons v vs =>
  cases vs with
  |nil=>exact h.2.elim
  |cons u us =>
   cases us with
   |nil=>exact⟨v,u,rfl,h.1,h.2.1⟩
   |cons w ws=>exact h.2.2.elim
theorem oX{tg a:Expr}{p pos:Pos}{m:M (List D)}(hm:X.mg "range" = none)(ha:AE X md P [.s] [a] m)(hg:Gl X "range":=by rfl)(hs:starEach [a] X.env=[(false,eval a X.env)]:=by exact qG rfl):VI X md P tg (.Call (.Name "range" p) [a] [] pos) (eQ m):=(QL hg hm ha hs).imp λσ H Q q=>by
 obtain⟨ρ,O,F,as,ds,O',r,s,e,k⟩:=q;obtain⟨es,O1,e1,e⟩:=Res.bind_ok e;split at e
 ·rename_i j;split at e
  ·rename_i hj;cases e;refine⟨ρ,_,F,as,_,_,r,s,e1,λvs H1 F1 as1 g1 r1 hv=>?_⟩;obtain⟨v,rfl,hv1⟩:=hv.one
   have:=(Sv.rp hv1 rfl).unI
   subst this;exact⟨j,rfl,by omega,by omega,k _ H1 F1 as1 g1 r1 Io⟩
  ·cases e
 ·cases e
theorem xX{tg a b:Expr}{p pos:Pos}{m:M (List D)}(hm:X.mg "range" = none)(ha:AE X md P [.s,.s] [a,b] m)(hg:Gl X "range":=by rfl)(hs:starEach [a,b] X.env=[(false,eval a X.env),(false,eval b X.env)]:=by exact Ve rfl rfl)(hs2:starEach [b] X.env=[(false,eval b X.env)]:=by exact qG rfl):
  VI X md P tg (.Call (.Name "range" p) [a,b] [] pos) (j5 m):=(QM hg hm ha hs hs2).imp λσ H Q q=>by
 obtain⟨ρ,O,F,as,ds,O',r,s,e,k⟩:=q;obtain⟨es,O1,e1,e⟩:=Res.bind_ok e;split at e
 ·rename_i i j;split at e
  ·rename_i hj;cases e;refine⟨ρ,_,F,as,_,_,r,s,e1,λvs H1 F1 as1 g1 r1 hv=>?_⟩;obtain⟨v,u,rfl,hv1,hu⟩:=hv.two;have e3:=(Sv.rp hv1 rfl).unI;have e4:=(Sv.rp hu rfl).unI;subst e3 e4;exact⟨i,j,rfl,⟨by omega,by omega,by omega,by omega⟩,k _ H1 F1 as1 g1 r1 Io⟩
  ·cases e
 ·cases e
def qW:Nat->List D->List D
 | _,[]=>[]
 |k,d::ds=>.tup [.int k,d]::qW (k+1) ds
variable {elts:List Expr}{x1:Nat}{tpos:Pos}
def jJ:List D->Option (List (List Nat))
 | []=>some []
 | .str l::ds=>(jJ ds).map (l :: ·)
 | _=>none
theorem Rps.strs{K:Frag}{F:Hp}{as:List Addr}:∀{ds:List D}{xs:List V}{ls:List (List Nat)},Rps K F as xs ds->jJ ds=some ls->xs=ls.map λl=>V.str (S l)
 | [],xs,bs,h,e=>by cases e;rw[h.un0];rfl
 |d::ds,xs,bs,h,e=>by
  obtain⟨x,r,rfl,h2,h3⟩:=h.un
  cases d with
  |str b =>
   unfold jJ at e
   cases q:jJ ds with
   |none=>rw[q] at e;cases e
   |some cs =>
    rw[q] at e;cases e;rw[h2.unS,Rps.strs h3 q];rfl
  | _=>cases e
def uq(m:M D):M D:=λρ O=>(m ρ O).bind λd O1=>match bB O1 d with
 | .lst ds=>match jJ ds with
  |some ls=>if(ls.map List.length).sum<=1000000 then .ok (.str ls.flatten) O1 else .no
  |none=>.no
 | _=>.no
theorem V9{e:Expr}{j:Nat}{p apos cpos:Pos}{m:M D}(h:SE X md P e m){x:Str}(hx:x=S []:=by decide +kernel)
  (hfew:((backTo cpos (starEach [e] X.env)).all (λx=>!x.1)&&(backToKw cpos (keywordEach [] X.env)).all (λx=>x.1.isSome)&&decide ([e].length+([]:List Keyword).length+(if([]:List Keyword).isEmpty then 0 else 1)<30))=true:=by rfl)
  (hline:(apos.endLine == cpos.line)=true:=by rfl) (hs:starEach [e] X.env=(false,eval e X.env)::starEach [] X.env:=by exact dq rfl) (hbase:attributeBase (.Constant (.str x) j p) "join" X.env (eval (.Constant (.str x) j p) X.env)=eval (.Constant (.str x) j p) X.env:=by rfl) (hplain:(backTo cpos (starEach [] X.env)).any (·.1)=false:=by exact fJ rfl):
  OE X md P (.Call (.Attribute (.Constant (.str x) j p) "join" apos) [e] [] cpos) (uq m):=
 (GF PySem.F.plainAttrs_str PySem.F.slot_str_join PySem.F.type_str_join (Vb X.K) (Fp (x:=x)) (oA h qw hs) hbase hfew hline hs hplain).imp λσ H Q q=>by
  obtain⟨ρ,O,F,as,d,O',r,s,e,k⟩:=q;obtain⟨y,O1,e1,e⟩:=Res.bind_ok e
  cases ed:bB O1 y with
  |lst ds =>
   rw[ed] at e;dsimp only at e
   cases es:jJ ds with
   |none=>rw[es] at e;cases e
   |some ls =>
    rw[es] at e;dsimp only at e;split at e
    ·rename_i hz;cases e;refine⟨rfl,ρ,_,F,as,_,_,r,s,e1,λv H1 F1 as1 g1 r1 hv=>?_⟩;have q:=Sv.lk hv r1;rw[ed] at q;obtain⟨a,xs,rfl,h1,h2⟩:=q.list r1.fh;refine⟨a,ls,by rw[hx],rfl,?_,hz,k _ H1 F1 as1 g1 r1 (.inl ⟨rfl,Rp.str⟩)⟩;rw[<-h2.strs es];exact h1.sq
    ·cases e
  | _=>rw[ed] at e;cases e
def Wa(mo m:M D):M D:=λρ O=>(mo ρ O).bind λa O1=>(m ρ O1).bind λb O2=>match a,b with
 | .str l,.str n=>.ok (.bl (decide (l.take n.length=n))) O2
 | _,_=>.no
end
section
variable {K:Frag}{mg:Str->Option Value}{md:List Md}{P:Pt}{ρ:aA}{σ:St}{H F:Hp}{as:List Addr}{O:aq}{i:Nat}{a:Addr}{xs xs':List V}{ds ds':List D}
theorem SlO.own(s:SlO K md P ρ σ H F as)(hm:md[i]?=some .o)(hρ:ρ[i]?=some (some (.lst ds))):∃a xs,σ[i]?=some (some (.ref a))/\H a=some (.lst xs)/\F a=none/\a∉as/\¬P a/\Rps K F as xs ds:=by
 obtain⟨v,h1,h2⟩:=s.sl i .o _ hm hρ
 rcases h2 with⟨h2,_⟩ | ⟨a,xs,es,rfl,e2,e3,e0,e4,e5,e6⟩
 ·cases h2
 ·cases e2;exact⟨a,xs,h1,e3,e0,e4,e5,e6⟩
theorem SlO.mut(s:SlO K md P ρ σ H F as)(hm:md[i]?=some .o)(hρ:ρ[i]?=some (some (.lst ds)))(hσ:σ[i]?=some (some (.ref a)))(hF:F a=none)(ha:a∉as)(hP:¬P a)(r:Rps K F as xs' ds'):SlO K md P (ρ.set i (some (.lst ds'))) σ (upd H a (.lst xs')) F as:=by
 have hi:i<md.length:=(zl.mp hm).1;refine⟨s.len,by rw[jl];exact s.len',λc p=>?_,λj m d e1 e2=>?_,λj k c es fs h1 h2 h3 h4 h5 h6=>?_,λx hx=>?_⟩
 ·have:=s.pd c p
  unfold upd
  split
  ·exact λz=>nomatch z
  ·exact this
 ·by_cases h:i=j
  ·subst h;rw[hm] at e1;cases e1;rw[zS (by rw[s.len'];exact hi)] at e2;cases e2;exact⟨_,hσ,.inr ⟨a,xs',ds',rfl,rfl,bM,hF,ha,hP,r⟩⟩
  ·rw[zr h] at e2;obtain⟨v,q1,q2⟩:=s.sl j m d e1 e2;refine⟨v,q1,?_⟩
   cases m with
   |v=>exact q2
   |s =>
    rcases q2 with q2 | ⟨c,ys,es,z1,z2,z3,z4,z5,z6⟩
    ·exact .inl q2
    ·exact .inr ⟨c,ys,es,z1,z2,by rw[aO (λz=>hP (by rw[<-z];exact z5))];exact z3,z4,z5,z6⟩
   |o =>
    rcases q2 with q2 | ⟨c,ys,es,z1,z2,z3,z0,z4,z5,z6⟩
    ·exact .inl q2
    ·refine .inr ⟨c,ys,es,z1,z2,?_,z0,z4,z5,z6⟩;rw[aO]
     ·exact z3
     ·intro z;subst z z1 z2;exact h (s.inj i j c ds es hm e1 hρ e2 hσ q1)
 ·have f:∀k es,(ρ.set i (some (.lst ds')))[k]?=some (some (D.lst es))->∃es',ρ[k]?=some (some (D.lst es')):=λk es q=>by
   by_cases h:i=k
   ·subst h;exact⟨ds,hρ⟩
   ·rw[zr h] at q;exact⟨es,q⟩
  obtain⟨es',q3⟩:=f j es h3;obtain⟨fs',q4⟩:=f k fs h4;exact s.inj j k c es' fs' h1 h2 q3 q4 h5 h6
 ·obtain⟨p1,p2,p3⟩:=s.pin x hx
  have hne:i≠x.1:=λz=>by rw[<-z,hm] at p1;cases p1
  exact⟨p1,by rw[zr hne];exact p2,p3⟩
theorem Ip{xs:List V}(hH:H a=some (.lst xs))(hP:¬P a){o:HO}:GrS P H F as (upd H a o) F as :=
 ⟨λ_ _ _ _ _ _=>rfl,Same.refl F,⟨[],by simp,λ_ h=>nomatch h⟩,λc u p e _ _=>by rw[aO (λz=>hP (by rw[<-z];exact p))];exact e,λc e=>by
  by_cases h:c=a
  ·subst h;rw[bM] at e;cases e
  ·rwa [aO h] at e,λc o' u e=>by rw[aO (λz=>by rw[z,hH] at e;cases e)];exact e⟩
theorem RlO.mut(r:RlO K mg O H F as)(hF:F a=none)(ha:a∉as){o:HO}:RlO K mg O (upd H a o) F as:=by
 refine⟨λc u e=>?_,r.fd,r.nd,r.len,r.fa,λn c u hc hu=>(r.ob n c u hc hu).keep (aO ?_) (Same.refl F) λ_ _ h=>h⟩
 ·rw[aO (cH e hF)];exact r.fh c u e
 ·intro z;subst z;exact ha (zM hc)
end
section
variable {X:Cx}{md:List Md}{P:Pt}{R:RR}
def dW(i:Nat)(m:M D):MS:=λρ O=>match m ρ O with
 | .ok d O'=>match ρ[i]? with
  |some (some (.lst ds))=>if ds.length<1000000 then .nx (ρ.set i (some (.lst (ds++[d])))) O' else .no
  | _=>.no
 | .ex x O'=>.ex x O'
 | .no=>.no
theorem Wb{i:Nat}{m:M D}{ρ:aA}{O:aq}(K:Frag)(mg:Str->Option Value){D:Ends}{H F:Hp}{as:List Addr}(k:lA K mg md P R D H F as (dW i m ρ O)):
  ∃d O' ds,m ρ O=.ok d O'/\ρ[i]?=some (some (.lst ds))/\ds.length<1000000/\lA K mg md P R D H F as (.nx (ρ.set i (some (.lst (ds++[d])))) O'):=by
 unfold dW at k;split at k
 ·rename_i d O' e;split at k
  ·rename_i ds e2;split at k
   ·rename_i hz;exact⟨d,O',ds,e,e2,hz,k⟩
   ·exact False.elim k
  ·exact False.elim k
 ·exact False.elim k
 ·exact False.elim k
theorem m6(i:Nat){x:Str}{p apos cpos pos:Pos}{e:Expr}{m:M D}(h:VE X md P e m)(hm:md[i]?=some .o:=by rfl)(hN:X.N[i]?=some x:=by rfl)(hv:Vis X.env.scope x:=by first | exact Or.inl rfl | exact Or.inr (Or.inl rfl) | exact Or.inr (Or.inr rfl))
  (hd:(x == ("__debug__":Str))=false:=by decide) (hcd:(x == ("__classdict__":Str))=false:=by decide)
  (hbase:attributeBase (.Name x p) "append" X.env (eval (.Name x p) X.env)=eval (.Name x p) X.env:=by rfl)
  (hfew:((backTo cpos (starEach [e] X.env)).all (λx=>!x.1)&&(backToKw cpos (keywordEach [] X.env)).all (λx=>x.1.isSome)&&decide ([e].length+([]:List Keyword).length+(if([]:List Keyword).isEmpty then 0 else 1)<30))=true:=by rfl)
  (hline:(apos.endLine == cpos.line)=true:=by rfl) (hs:starEach [e] X.env=(false,eval e X.env)::starEach [] X.env:=by exact dq rfl) (hplain:(backTo cpos (starEach [] X.env)).any (·.1)=false:=by exact fJ rfl)
  (hsw:swapsWith (.Call (.Attribute (.Name x p) "append" apos) [e] [] cpos) none pos.line X.env=pure false:=by rfl):
  VS X md P R (.Expr (.Call (.Attribute (.Name x p) "append" apos) [e] [] cpos) pos) (dW i m):=
 (wN (GF PySem.F.plainAttrs_list PySem.F.slot_list_append PySem.F.type_list_append Tp (ou (i:=i) hN hv hd hcd) (oA h qw hs) hbase hfew hline hs hplain) hsw).imp λD σ H q=>by
  obtain⟨ρ,O,F,as,r,s,k⟩:=q;obtain⟨d,O',ds,e,e2,hz,k⟩:=Wb X.K X.mg k;obtain⟨a,xs,h1,h2,h3,h4,h5,h6⟩:=s.own hm e2;refine⟨_,h1,.inl ⟨rfl,xs,.inl (.inl h2)⟩,ρ,O,F,as,d,O',r,s,e,λy H1 F1 as1 g1 r1 hy=>?_⟩;have s1:=s.step g1
  have hn:H a≠none:=by rw[h2];exact λz=>nomatch z
  have q2:=g1.fr _ _ h2 h4 rfl
  have q3:F1 a=none:=by rw[g1.fz a _ h2 h4 rfl];exact h3
  have q4:=g1.out h4 hn
  have hn1:H1 a≠none:=by rw[q2];exact λz=>nomatch z
  exact⟨a,xs,y,rfl,rfl,q2,by rw[h6.length];exact zF hz (by decide),k σ _ F1 as1 (g1.toS.trans (Ip q2 h5)) (r1.mut q3 q4) (s1.mut hm e2 h1 q3 q4 h5 ((h6.gr g1).snoc hy))⟩
def Wc(i:Nat)(m:M D):MS:=λρ O=>match m ρ O with
 | .ok d O'=>match ρ[i]?,bB O' d with
  |some (some (.lst ds)),.lst es=>if ds.length+es.length<=1000000 then .nx (ρ.set i (some (.lst (ds++es)))) O' else .no
  | _,_=>.no
 | .ex x O'=>.ex x O'
 | .no=>.no
end
def putD(f:Str)(v:D):List (Str×D)->List (Str×D)
 | []=>[(f,v)]
 | (g,x)::r=>if g=f then(g,v)::r else(g,x)::putD f v r
section
variable {K:Frag}{F:Hp}{as:List Addr}
theorem FsR.cons_inv{gs:List (Str×V)}{f:Str}{d:D}{fs:List (Str×D)}(h:FsR K F as gs ((f,d)::fs)):∃v gs',gs=(f,v)::gs'/\Rp K F as v d/\FsR K F as gs' fs:=by
 obtain⟨h1,h2⟩:=h
 cases gs with
 |nil=>cases h1
 |cons g gs' =>
  obtain⟨g1,g2⟩:=g;simp only[zd,List.cons.injEq] at h1;obtain⟨x,r,e,h3,h4⟩:=h2.un;simp only[zd,List.cons.injEq] at e;obtain⟨rfl,rfl⟩:=e;exact⟨g2,gs',by rw[h1.1],h3,⟨h1.2,h4⟩⟩
theorem FsR.nil_inv{gs:List (Str×V)}(h:FsR K F as gs []):gs=[]:=List.map_eq_nil_iff.mp h.nm
theorem FsR.get:∀{fs:List (Str×D)}{gs:List (Str×V)}{f:Str}{d:D},FsR K F as gs fs->fs.lookup f=some d->∃v,gs.lookup f=some v/\Rp K F as v d
 | [],_,_,_,_,e=>by cases e
 | (g,x)::fs,gs,f,d,h,e=>by
  obtain⟨v,gs',rfl,h1,h2⟩:=h.cons_inv;rw[List.lookup_cons] at e ⊢
  cases q:f == g with
  |true =>
   rw[q] at e;cases e;exact⟨v,rfl,h1⟩
  |false =>
   rw[q] at e;exact FsR.get h2 e
theorem FsR.no:∀{fs:List (Str×D)}{gs:List (Str×V)}{f:Str},FsR K F as gs fs->fs.lookup f=none->gs.lookup f=none
 | [],_,_,h,e=>by rw[h.nil_inv];rfl
 | (g,x)::fs,gs,f,h,e=>by
  obtain⟨v,gs',rfl,h1,h2⟩:=h.cons_inv;rw[List.lookup_cons] at e ⊢
  cases q:f == g with
  |true=>rw[q] at e;cases e
  |false =>
   rw[q] at e;exact FsR.no h2 e
theorem FsR.put{f:Str}{v:V}{d:D}(hv:Rp K F as v d):∀{fs:List (Str×D)}{gs:List (Str×V)},FsR K F as gs fs->FsR K F as (d9 f v gs) (putD f d fs)
 | [],_,h=>by
  rw[h.nil_inv];exact⟨rfl,Rps.cons hv Rps.nil⟩
 | (g,x)::fs,gs,h=>by
  obtain⟨u,gs',rfl,h1,h2⟩:=h.cons_inv;rw[d9,putD]
  by_cases q:g=f
  ·rw[if_pos q,if_pos q];exact⟨by simp[h2.nm],Rps.cons hv h2.vl⟩
  ·rw[if_neg q,if_neg q];have ih:=FsR.put (f:=f) hv h2;exact⟨by simp[ih.nm],Rps.cons h1 ih.vl⟩
theorem FsR.length{fs:List (Str×D)}{gs:List (Str×V)}(h:FsR K F as gs fs):gs.length=fs.length:=by
 have:=congrArg List.length h.nm
 simpa using this
theorem RlO.set{mg:Str->Option Value}{O:aq}{H:Hp}{n:Nat}{a:Addr}{o:Ob}{u:HO}(r:RlO K mg O H F as)(ha:as[n]?=some a)(ho:ObR K mg (upd H a u) F as a o):RlO K mg (O.set n o) (upd H a u) F as:=by
 have hF:=r.fa a (zM ha);refine⟨λc w e=>?_,r.fd,r.nd,by rw[jl];exact r.len,r.fa,λk c w hc hw=>?_⟩
 ·rw[aO (cH e hF)];exact r.fh c w e
 ·by_cases h:n=k
  ·subst h;rw[ha] at hc;cases hc;rw[zS (by rw[<-r.len];exact(zl.mp ha).1)] at hw;cases hw;exact ho
  ·rw[zr h] at hw
   refine(r.ob k c w hc hw).keep (aO ?_) (Same.refl F) λ_ _ h=>h
   intro z;subst z;obtain⟨l1,q1⟩:=zl.mp ha;obtain⟨l2,q2⟩:=zl.mp hc;exact h ((List.getElem_inj r.nd).mp (q1.trans q2.symm))
end
def KC(K:Frag)(mg:Str->Option Value)(c f:Str):Prop:=∃C,mg c=some (.ref C)/\Cls K C/\mj K C f
section
variable {X:Cx}{md:List Md}{P:Pt}{R:RR}
def fO(cs:List Str)(f:Str)(m:M D):M D:=λρ O=>(m ρ O).bind λd O1=>match d with
 | .ob n=>match O1[n]? with
  |some (.ins c fs)=>if c∈cs then match fs.lookup f with
   |some y=>.ok y O1
   |none=>.no else .no
  | _=>.no
 | _=>.no
theorem oY{cs:List Str}{f:Str}{o:Expr}{pos:Pos}{m:M D}(hc:∀c∈cs,KC X.K X.mg c f)(h:VE X md P o m)(hb:attributeBase o f X.env (eval o X.env)=eval o X.env:=by rfl):VE X md P (.Attribute o f pos) (fO cs f m):=(RK h hb).imp λσ H Q q=>by
 obtain⟨ρ,O,F,as,d,O',r,s,e,k⟩:=q;obtain⟨x,O1,e1,e⟩:=Res.bind_ok e
 cases x with
 |ob n =>
  dsimp only at e;split at e
  ·rename_i c fs eo;split at e
   ·rename_i hcs;split at e
    ·rename_i y ey;cases e;refine⟨ρ,_,F,as,_,_,r,s,e1,λv H1 F1 as1 g1 r1 hv=>?_⟩;obtain⟨a,rfl,ha⟩:=Rp.unO hv;obtain⟨C,dx,gs,h1,h2,h3⟩:=r1.ob n a _ ha eo;obtain⟨C',h4,h5,h6⟩:=hc c hcs;rw[h1] at h4;cases h4;obtain⟨w,h7,h8⟩:=h3.get ey;exact⟨a,C,dx,gs,w,rfl,h2,h5,h6,h7,k w H1 F1 as1 g1 r1 h8⟩
    ·cases e
   ·cases e
  ·cases e
 | _=>cases e
def j6(cs:List Str)(f:Str)(mo mv:M D):MS:=λρ O=>match mv ρ O with
 | .ok d O1=>match mo ρ O1 with
  | .ok (.ob n) O2=>match O2[n]? with
   |some (.ins c fs)=>if c∈cs/\fs.length<900 then .nx ρ (O2.set n (.ins c (putD f d fs))) else .no
   | _=>.no
  | _=>.no
 | .ex x O'=>.ex x O'
 | .no=>.no
theorem Ir{cs:List Str}{f:Str}{o value:Expr}{pos pos':Pos}{mo mv:M D}(hc:∀c∈cs,KC X.K X.mg c f)(ho:VE X md P o mo)(hv:VE X md P value mv)(hs:swapsWith value (some (.Attribute o f pos')) pos.line X.env=pure false:=by rfl):VS X md P R (.Assign [.Attribute o f pos'] value pos) (j6 cs f mo mv):=(RL ho hv hs).imp λD σ H q=>by
 obtain⟨ρ,O,F,as,r,s,k⟩:=q;unfold j6 at k;split at k
 ·rename_i d O1 e1;split at k
  ·rename_i n O2 e2;split at k
   ·rename_i c fs eo;split at k
    ·rename_i hcs;refine⟨ρ,O,F,as,d,O1,r,s,e1,λy H1 F1 as1 g1 r1 hy=>?_⟩;refine⟨ρ,O1,F1,as1,.ob n,O2,r1,s.step g1,e2,λz H2 F2 as2 g2 r2 hz=>?_⟩;have g:=g1.trans g2;obtain⟨a,rfl,ha⟩:=Rp.unO hz;obtain⟨C,dx,gs,h1,h2,h3⟩:=r2.ob n a _ ha eo;obtain⟨C',h4,h5,h6⟩:=hc c hcs.1;rw[h1] at h4;cases h4;have hmem:=zM ha
     have hn:H2 a≠none:=by rw[h2];exact λz=>nomatch z
     have gg:Gr H2 F2 as2 (upd H2 a (.ins C dx (d9 f y gs))) F2 as2:=⟨λ_ _ _ _ _=>rfl,Same.refl _,⟨[],by simp,λ_ h=>nomatch h⟩,λb u e hb _=>by rw[aO (λz=>hb (by rw[z];exact hmem))];exact e,λb e=>by
      by_cases h:b=a
      ·subst h;rw[bM] at e;cases e
      ·rwa [aO h] at e,λb o' u e=>by rw[aO (λz=>by rw[z,h2] at e;cases e)];exact e⟩
     refine⟨a,C,dx,gs,rfl,h2,h5,h6,by rw[h3.length];omega,?_⟩;exact k σ _ F2 as2 (g.trans gg).toS (r2.set ha ⟨C,dx,_,h1,bM,h3.put (Rp.gr hy g2)⟩) ((s.step g).step gg)
    ·exact False.elim k
   ·exact False.elim k
  ·exact False.elim k
 ·exact False.elim k
 ·exact False.elim k
end
section
variable {Pr:Program}{w:World}{K:Frag}{mg:Str->Option Value}{base:Heap}
theorem Iu{x qual:Str}{st:Stmt}{f:Addr}{fd:FuncData}{N ps:List Str}{k:Nat}(Fn:Fun K x qual st f fd)(S:bK N ps (aY st))
  (pm lm:List Md) {R:RR}{b:MS} (hR:gn R) (hR0:∀N H F as,R N H F as .non .non) (hpl:pm.length=ps.length) (hl:(pm++lm).length=N.length) (hp:∀m∈pm,m≠.o)
  (body:∀(cdv:Value) (A:Around) (outer:List Env) (s:Shared) (H:Hp) (E:XK),bw k (A.deeper (envOfC qual (aY st) s.heap.objs.size f cdv))->∀P,VSs ((iI CX0 Pr w K mg base N qual (aY st) f cdv A outer s H E).nox) (pm++lm) P R (fc st) b):
  dg Pr w K mg base CX0 (k+1) f fd ps (vSp K mg pm R (bH N.length b)):=by
 refine Fn.ok S (λvs H Q E h=>?_) (λcdv A outer s H vs Q E hr h=>?_)
 ·obtain⟨ds,O,F,as,d,O',r,a,_⟩:=h;rw[a.len.1,hpl]
 ·obtain⟨ds,O,F,as,d,O',r,a,e,q⟩:=h;refine⟨_,body cdv A outer s H E hr (Pt.all H),?_⟩;refine⟨_,O,F,as,r,HQ a hl hp,?_⟩;unfold bH at e
  cases eb:b (ds.map some++List.replicate (N.length - ds.length) none) O with
  |rt d' O2 =>
   rw[eb] at e;cases e
   exact λv H' F' as' g r' hv=>q v H' F' as' g.gr r' (hR _ _ _ _ _ _ _ (λc hc=>Classical.not_not.mp hc) hv)
  |nx ρ O2 =>
   rw[eb] at e;cases e
   exact λσ' H' F' as' g r' _=>q _ H' F' as' g.gr r' (hR0 _ _ _ _)
  |bk _ _=>rw[eb] at e;cases e
  |ct _ _=>rw[eb] at e;cases e
  |ex _ _=>rw[eb] at e;cases e
  |no=>rw[eb] at e;cases e
def lF(K:Frag)(mg:Str->Option Value)(c m qual:Str)(st:Stmt):Prop:=∃C f fd,mg c=some (.ref C)/\Cls K C/\qp K C m f/\Fun K m qual st f fd
def gZ(P:Program)(w:World)(K:Frag)(mg:Str->Option Value)(base:Heap)(c m:Str)(ps:List Str)(k:Nat)(sp:Sp):Prop :=
 ∃C f fd,mg c=some (.ref C)/\Cls K C/\qp K C m f/\Binds K fd ps []/\dg P w K mg base CX0 k f fd ps sp
def xY(P:Program)(w:World)(K:Frag)(mg:Str->Option Value)(base:Heap)(c:Str)(ps:List Str)(k:Nat)(sp:Sp):Prop :=
 ∃C f fd,mg c=some (.ref C)/\Mk K C f/\Binds K fd ps []/\dg P w K mg base CX0 k f fd ps sp
def xZ(K:Frag)(mg:Str->Option Value)(c qual:Str)(st:Stmt):Prop:=∃C f fd,mg c=some (.ref C)/\Mk K C f/\Fun K "__init__" qual st f fd
theorem oZ{c x qual:Str}{st:Stmt}{N ps:List Str}{k:Nat}(Df:lF K mg c x qual st)(S:bK N ps (aY st))
  (hb:∀(kV doc pm:Value) (an:Option Addr) (cdv ct:Value) (us:List Value),us.length=ps.length->bindArgs (PySem.W.fnOf x qual (gP st) (fc st) (aY st) .none kV doc pm an cdv ct) ⟨us,[]⟩=pure (ps.zip us))
  (pm lm:List Md) {R:RR}{b:MS} (hR:gn R) (hR0:∀N H F as,R N H F as .non .non) (hpl:pm.length=ps.length:=by rfl) (hl:(pm++lm).length=N.length:=by rfl) (hp:∀m∈pm,m≠.o:=by decide)
  (body:∀(f:Addr) (cdv:Value) (A:Around) (outer:List Env) (s:Shared) (H:Hp) (E:XK),bw k (A.deeper (envOfC qual (aY st) s.heap.objs.size f cdv))->∀P,VSs ((iI CX0 Pr w K mg base N qual (aY st) f cdv A outer s H E).nox) (pm++lm) P R (fc st) b):
  gZ Pr w K mg base c x ps (k+1) (vSp K mg pm R (bH N.length b)):=by
 obtain⟨C,f,fd,h1,h2,h3,h4⟩:=Df;exact⟨C,f,fd,h1,h2,h3,h4.binds hb,Iu h4 S pm lm hR hR0 hpl hl hp (body f)⟩
theorem Wd{c qual:Str}{st:Stmt}{N ps:List Str}{k:Nat}(Df:xZ K mg c qual st)(S:bK N ps (aY st))
  (hb:∀(kV doc pm:Value) (an:Option Addr) (cdv ct:Value) (us:List Value),us.length=ps.length->bindArgs (PySem.W.fnOf "__init__" qual (gP st) (fc st) (aY st) .none kV doc pm an cdv ct) ⟨us,[]⟩=pure (ps.zip us))
  (pm lm:List Md) {R:RR}{b:MS} (hR:gn R) (hR0:∀N H F as,R N H F as .non .non) (hpl:pm.length=ps.length:=by rfl) (hl:(pm++lm).length=N.length:=by rfl) (hp:∀m∈pm,m≠.o:=by decide)
  (body:∀(f:Addr) (cdv:Value) (A:Around) (outer:List Env) (s:Shared) (H:Hp) (E:XK),bw k (A.deeper (envOfC qual (aY st) s.heap.objs.size f cdv))->∀P,VSs ((iI CX0 Pr w K mg base N qual (aY st) f cdv A outer s H E).nox) (pm++lm) P R (fc st) b):
  xY Pr w K mg base c ps (k+1) (vSp K mg pm R (bH N.length b)):=by
 obtain⟨C,f,fd,h1,h2,h4⟩:=Df;exact⟨C,f,fd,h1,h2,h4.binds hb,Iu h4 S pm lm hR hR0 hpl hl hp (body f)⟩
end
section
variable {X:Cx}{md:List Md}{P:Pt}{R:RR}{k:Nat}{c m:Str}{ps:List Str}{p pos apos:Pos}{o e:Expr}{es:List Expr}{pm:List Md}{cf:List D->aq->Res D}{mo:M D}{ma:M (List D)}
def cF(c m:Str)(cf:List D->aq->Res D)(mo:M D)(ma:M (List D)):M D:=λρ O=>(mo ρ O).bind λd O1=>match d with
 | .ob n=>match O1[n]? with
  |some (.ins c' fs)=>if c'=c/\(fs.lookup m).isNone=true then(ma ρ O1).bind λds O2=>cf (.ob n::ds) O2 else .no
  | _=>.no
 | _=>.no
theorem Iv{K:Frag}{mg:Str->Option Value}{C:Addr}(hR:gn R)(hC:mg c=some (.ref C)){E:XK}{σ:St}{H:Hp}{Q:VK}(q:tM K mg md P R (cF c m cf mo ma) σ H Q):
  w5 C m (vSp K mg (.v::pm) R cf) [] E (tM K mg md P (rV K) mo) (tMA K mg md P pm ma) σ H Q:=by
 obtain⟨ρ,O,F,as,d,O',r,s,e,k⟩:=q;obtain⟨x,O1,e1,e⟩:=Res.bind_ok e
 cases x with
 |ob n =>
  dsimp only at e;split at e
  ·rename_i c' fs eo;split at e
   ·rename_i hc;obtain⟨ds,O2,e2,e⟩:=Res.bind_ok e;refine⟨ρ,O,F,as,.ob n,O1,r,s,e1,λv H1 F1 as1 g1 r1 hv=>?_⟩;obtain⟨a,rfl,ha⟩:=Rp.unO hv;obtain⟨C',dx,gs,h1,h2,h3⟩:=r1.ob n a _ ha eo;rw[hc.1,hC] at h1;cases h1;refine⟨a,dx,gs,rfl,h2,h3.no (Option.isNone_iff_eq_none.mp hc.2),?_⟩;refine⟨ρ,O1,F1,as1,ds,O2,r1,s.step g1,e2,λvs H2 F2 as2 g2 r2 hvs=>?_⟩;dsimp only;rw[zZ];exact⟨.ob n::ds,O2,F2,as2,d,O',r2,⟨Rp.gr hv g2,hvs⟩,e,λv' H' F' as' g' r' hw=>k v' H' F' as' ((g1.trans g2).trans g') r' (hR _ _ _ _ _ _ _ (λb hb=>(g1.trans g2).dm b hb) hw)⟩
   ·cases e
  ·cases e
 | _=>cases e
theorem Iw{pl:Sem Bool}(hR:gn R)(M:gZ X.prog X.w X.K X.mg X.base c m ps k (vSp X.K X.mg (.v::pm) R cf))(hr:bw k X.A)(ho:VE X md P o mo)(ha:AE X md P pm (e::es) ma)
  (hst:starEach (e::es) X.env=(false,eval e X.env)::starEach es X.env:=by exact dq rfl) (hpl:(backTo pos (starEach es X.env)).any (·.1)=false:=by exact fJ rfl)
  (ht:eval (.Call (.Attribute o m apos) (e::es) [] pos) X.env=(do
   let ov <-eval o X.env
   standAt apos.atName
   let (f,first) <-holding [ov] (getMethod ov m pl)
   callWith pos f first (backTo pos (starEach (e::es) X.env)) (backToKw pos (keywordEach [] X.env))):=by rfl):
  PE X (.Call (.Attribute o m apos) (e::es) [] pos) (tM X.K X.mg md P R (cF c m cf mo ma)):=by
 obtain⟨C,f,fd,h1,h2,h3,h4,h5⟩:=M
 exact(RZ (pl:=pl) (E:=E0) (ds:=[]) (dvs:=[]) ho h2 h3 h5 hr h4 .nil tY ha hst hpl ht).imp λ_ _ _ q=>Iv hR h1 q
theorem We{pl:Sem Bool}(hR:gn R)(M:gZ X.prog X.w X.K X.mg X.base c m ps k (vSp X.K X.mg [.v] R cf))(hr:bw k X.A)(ho:VE X md P o mo)
  (ht:eval (.Call (.Attribute o m apos) [] [] pos) X.env=(do
   let ov <-eval o X.env
   standAt apos.atName
   let (f,first) <-holding [ov] (getMethod ov m pl)
   callWith pos f first (backTo pos (starEach [] X.env)) (backToKw pos (keywordEach [] X.env))):=by rfl):
  PE X (.Call (.Attribute o m apos) [] [] pos) (tM X.K X.mg md P R (cF c m cf mo au)):=by
 obtain⟨C,f,fd,h1,h2,h3,h4,h5⟩:=M
 refine(R0 (pl:=pl) (E:=E0) (ds:=[]) (dvs:=[]) ho h2 h3 h5 hr h4 .nil tY ht).imp λσ H Q q=>?_
 obtain⟨ρ,O,F,as,d,O',r,s,e,k⟩:=Iv (pm:=[]) (E:=E0) hR h1 q;refine⟨ρ,O,F,as,d,O',r,s,e,λv H' F' as' g r' hv=>?_⟩;obtain⟨a,dx,fs,e1,e2,e3,t⟩:=k v H' F' as' g r' hv;refine⟨a,dx,fs,e1,e2,e3,?_⟩;obtain⟨ρ1,O1,F1,as1,ds1,O2,r1,s1,e4,k4⟩:=t;cases e4;exact k4 [] H' F1 as1 Gr.refl r1 trivial
def nj(c:Str)(cf:List D->aq->Res D)(ma:M (List D)):M D:=λρ O=>(ma ρ O).bind λds O1=>match cf (.ob O1.length::ds) (O1++[.ins c []]) with
 | .ok .non O2=>.ok (.ob O1.length) O2
 | .ok _ _=>.no
 | .ex x O2=>.ex x O2
 | .no=>.no
theorem Wf{K:Frag}{mg:Str->Option Value}{C:Addr}(hC:mg c=some (.ref C)){E:XK}{σ:St}{H:Hp}{Q:VK}(q:tM K mg md P (rV K) (nj c cf ma) σ H Q):
  Gk C (vSp K mg (.v::pm) (rV K) cf) [] E (tMA K mg md P pm ma) σ H Q:=by
 obtain⟨ρ,O,F,as,d,O',r,s,e,k⟩:=q;obtain⟨ds,O1,e1,e⟩:=Res.bind_ok e;split at e
 ·rename_i O2 ec;cases e;refine⟨ρ,O,F,as,ds,O1,r,s,e1,λvs H1 F1 as1 g1 r1 hvs=>?_⟩;intro x dx hx hdx hne;rw[zZ]
  have hx2:upd H1 dx (.own x) x=none:=by rw[aO hne.symm];exact hx
  have gA:Gr H1 F1 as1 (upd H1 dx (.own x)) F1 as1:=Gr.lay hdx;have gB:Gr (upd H1 dx (.own x)) F1 as1 (upd (upd H1 dx (.own x)) x (.ins C dx [])) F1 as1:=Gr.lay hx2;have gC:Gr (upd (upd H1 dx (.own x)) x (.ins C dx [])) F1 as1 (upd (upd H1 dx (.own x)) x (.ins C dx [])) F1 as1:=Gr.refl;have gAB:=gA.trans gB;have g2:Gr H1 F1 as1 (upd (upd H1 dx (.own x)) x (.ins C dx [])) F1 (as1++[x]):=⟨gAB.fz,gAB.ff,⟨[x],rfl,λa ha=>by rw[zn.mp ha];exact hx⟩,λa o e ha hd=>gAB.fr a o e ha hd,gAB.dm,gAB.kz⟩
  have nx:x∉as1:=λz=>r1.all z hx
  have rB:=(r1.lay (o:=.own x) hdx).lay (o:=.ins C dx []) hx2
  have at_:∀(n:Nat) (a:Addr),as1[n]?=some a->(as1++[x])[n]?=some a:=λn a h=>by
   rw[zD (zl.mp h).1];exact h
  have r2:RlO K mg (O1++[.ins c []]) (upd (upd H1 dx (.own x)) x (.ins C dx [])) F1 (as1++[x]):=by
   refine⟨rB.fh,rB.fd,?_,by simp[r1.len],λa ha=>?_,λn a o ha ho=>?_⟩
   ·rw[jo];refine⟨r1.nd,by simp,λa ha b hb=>?_⟩;rw[zn.mp hb];intro z;subst z;exact nx ha
   ·rcases zE.mp ha with z | z
    ·exact r1.fa a z
    ·rw[zn.mp z];exact r1.frF hx
   ·by_cases hn:n<O1.length
    ·rw[zD (by rw[r1.len];exact hn)] at ha;rw[zD hn] at ho;exact(rB.ob n a o ha ho).keep rfl (Same.refl _) at_
    ·have hn':n=O1.length:=by
      have:=(zl.mp ho).1
      simp at this
      omega
     subst hn';rw[zI (zc _),Nat.sub_self] at ho;rw[<-r1.len,zI (zc _),Nat.sub_self] at ha;cases ho;cases ha;exact⟨C,dx,[],hC,bM,⟨rfl,Rps.nil⟩⟩
  have hox:Rp K F1 (as1++[x]) (.ref x) (.ob O1.length):=Rp.mkO (by rw[<-r1.len,zI (zc _),Nat.sub_self];rfl);refine⟨.ob O1.length::ds,_,F1,as1++[x],.non,_,r2,⟨hox,hvs.gr g2⟩,ec,λv H3 F3 as3 g3 r3 hv=>?_⟩;exact⟨Rp.unN hv,k _ H3 F3 as3 ((g1.trans g2).trans g3) r3 (Rp.gr hox g3)⟩
 ·cases e
 ·cases e
 ·cases e
theorem Wg(M:xY X.prog X.w X.K X.mg X.base c ps k (vSp X.K X.mg (.v::pm) (rV X.K) cf))(hr:bw (k+1) X.A)(ha:AE X md P pm (e::es) ma)(hg:Gl X c:=by rfl)(hdb:(c == ("__debug__":Str))=false:=by decide)
  (he:starEach (e::es) X.env=(false,eval e X.env)::starEach es X.env:=by exact dq rfl) (hpl:(backTo pos (starEach es X.env)).any (·.1)=false:=by exact fJ rfl):VE X md P (.Call (.Name c p) (e::es) [] pos) (nj c cf ma):=by
 obtain⟨C,f,fd,h1,h3,h4,h5⟩:=M
 exact(R3 (E:=E0) (ds:=[]) (dvs:=[]) h3 h5 hr hg h1 h4 .nil tY ha hdb he hpl).imp λ_ _ _ q=>Wf h1 q
end
section
variable {X:Cx}{md:List Md}{P:Pt}{R:RR}
def nu:D->Option (List D)
 | .lst ds=>some ds
 | .tup ds=>some ds
 | .str l=>if ascii l=true then some (fZ l) else none
 | _=>none
def cQ(m:M D):M (List D):=λρ O=>(m ρ O).bind λd O1=>match nu d with
 |some ds=>.ok ds O1
 |none=>.no
theorem Iz{e:Expr}{m:M D}(h:WE X md P e m):SE X md P e m:=h.imp λσ H Q q=>by
 obtain⟨ρ,O,F,as,d,O',r,s,e,k⟩:=q;refine⟨ρ,O,F,as,d,O',r,s,e,λv H' F' as' g r' hv=>k v H' F' as' g r' ?_⟩
 rcases hv with hv | ⟨a,xs,ds,e1,e2,e3,e4,e5,e6⟩
 ·exact .inl hv
 ·exact .inr ⟨a,xs,ds,e1,e2,e3,e4,e6⟩
theorem qX{tg e:Expr}{m:M D}(h:WE X md P e m):VI X md P tg e (cQ m):=λpins s σ H Q I q=>by
 obtain⟨ρ,O,F,as,ds,O',r,sl,e,k⟩:=q;obtain⟨d,O1,e1,e⟩:=Res.bind_ok e
 cases d with
 |lst es =>
  cases e;exact V8 h pins s σ H Q I ⟨ρ,O,F,as,_,_,r,sl,by unfold uo;rw[e1];rfl,k⟩
 |tup es =>
  cases e;exact Il (dJ (Iz h)) pins s σ H Q I ⟨ρ,O,F,as,_,_,r,sl,by unfold xU mG;rw[e1];rfl,k⟩
 |str l =>
  simp only[nu] at e;split at e
  ·rename_i es hes;split at hes
   ·rename_i hl;cases hes;cases e;refine Im (Iz h) pins s σ H Q I ⟨ρ,O,F,as,fZ l,_,r,sl,?_,k⟩;unfold xV;rw[e1];show(if ascii l=true then _ else _)=_;rw[if_pos hl]
   ·cases hes
  ·cases e
 | _=>cases e
theorem Wh{tg e:Expr}{m:M D}(h:SE X md P e m):VIc X md P tg e (uo m):=(Fz h).imp λσ H Q q=>by
 obtain⟨ρ,O,F,as,ds,O',r,s,e,k⟩:=q;obtain⟨d,O1,e1,e⟩:=Res.bind_ok e
 cases d with
 |lst es =>
  cases e;refine⟨ρ,_,F,as,_,_,r,s,e1,λv H1 F1 as1 g1 r1 hv=>?_⟩
  obtain⟨a,xs,rfl,h1,h2⟩:∃a xs,v=.ref a/\Rps X.K F1 as1 xs ds/\∀(H2 F2:Hp) (as2:List Addr),Gr H1 F1 as1 H2 F2 as2->(∃O,RlO X.K X.mg O H2 F2 as2)->RdK X.K H2 a xs:=by
   rcases hv with hv | ⟨a,xs,ds',rfl,e,e3,e4,e6⟩
   ·obtain⟨a,xs,rfl,h1,h2⟩:=hv.unL;exact⟨a,xs,rfl,h2,λH2 F2 as2 g ⟨O,r⟩=>(h1.mono g.ff).mono r.fh⟩
   ·cases e;exact⟨a,xs,rfl,e6,λH2 F2 as2 g _=>.inl (.inl (g.fr _ _ e3 e4 rfl))⟩
  refine⟨a,rfl,⟨xs,(h2 H1 F1 as1 Gr.refl ⟨_,r1⟩).sq⟩,k _ H1 F1 as1 g1 r1 ⟨λi d H2 F2 as2 g r e=>?_,λH2 F2 as2 g r=>⟨xs,(h2 H2 F2 as2 g r).sq,by rw[h1.length];exact zc _⟩⟩⟩;obtain⟨x,h3,h4⟩:=h1.get' e;have q:=h2 H2 F2 as2 g r;refine⟨⟨xs,x,q.sq,h3⟩,λy H3 hy=>?_⟩;obtain⟨rfl,hy⟩:=hy
  have:=hy xs q.sq
  rw[h3] at this;cases this;exact⟨F2,Gr.refl,λ_ r=>r,h4.gr g⟩
 | _=>cases e
theorem nA{tg e:Expr}{m:M D}(h:SE X md P e m):VIc X md P tg e (cQ m):=λpins s σ H Q I q=>by
 obtain⟨ρ,O,F,as,ds,O',r,sl,e,k⟩:=q;obtain⟨d,O1,e1,e⟩:=Res.bind_ok e
 cases d with
 |lst es =>
  cases e;exact Wh h pins s σ H Q I ⟨ρ,O,F,as,_,_,r,sl,by unfold uo;rw[e1];rfl,k⟩
 |tup es =>
  cases e;exact uf (Il (dJ h)) pins s σ H Q I ⟨ρ,O,F,as,_,_,r,sl,by unfold xU mG;rw[e1];rfl,k⟩
 |str l =>
  simp only[nu] at e;split at e
  ·rename_i es hes;split at hes
   ·rename_i hl;cases hes;cases e;refine uf (Im h) pins s σ H Q I ⟨ρ,O,F,as,fZ l,_,r,sl,?_,k⟩;unfold xV;rw[e1];show(if ascii l=true then _ else _)=_;rw[if_pos hl]
   ·cases hes
  ·cases e
 | _=>cases e
def Wi(m:M D):M (List D):=λρ O=>(m ρ O).bind λd O1=>match d with
 | .lst ds=>.ok (qW 0 ds) O1
 | .str l=>if ascii l=true then .ok (qW 0 (fZ l)) O1 else .no
 | _=>.no
variable {elts:List Expr}{x1:Nat}{tpos:Pos}
def Pt.with(P:Pt)(a:Addr)(i:Nat)(d:D)(l:List (Nat×V×D)):Pt:=⟨λc=>P c\/c=a,(i,.ref a,d)::(l++P.ss)⟩
end
theorem Wj{P:Program}{w:World}{K:PySem.W.Frag}{mg mb:Str->Option Value}{CX:CXT}{k:Nat}{fa a:Addr}{fd:FuncData}{x:Str}{sp:Sp}{s₁:Shared}{vs:List Value}{ns:List Int}
  (KX:K.In s₁.heap) (hns:s₁.heap.Ns mainGlobals mg) (hb:s₁.heap.Ns builtinsNs mb) (hbb:∀x:Str,x≠"__name__"->mb x=bootBuiltins x) (hlim:s₁.heap.NoLimit) (hg:s₁.gens = #[])
  (ha:s₁.heap.get? a=some {cls:=.type "list",data:=.seq vs.toArray}) (hi:IntsAre vs ns) (hl:ns.length<=sizeLine) (hr:bw k callerA)
  (F:∀base:Heap,K.In base->base.Ns mainGlobals mg->dg P w K mg base CX k fa fd [x] sp) (hbind:∀(s:Shared) (u:Value),BindsTo s fd ⟨[u],[]⟩ [(x,u)])
  (hsp:∀H:Hp,mD H->RdK K H a (ns.map V.int)->sp [.ref a] H (λv _=>v=.bl true) λ_ _ _=>False)
  (hCX:∀H e s',CX [] H s₁ (λ_ _ _=>False) e s'->False):
  codeAny (model P w) callerA (.call (.ref fa) ⟨[.ref a],[]⟩) (λr s'=>r=.ok (.ret (.bool true))/\OldK s₁.heap s'.heap/\s'.os=s₁.os/\AllBare s'.gens) s₁:=by
 have rv:=xu hi;have lenV:=hi.length;have core:∀H:Hp,mD H->RdK K H a (ns.map V.int)->HOk P w H s₁.heap->(∀b,H b≠none->b=a)->(H a≠none->K.lookup a=none) ->
   codeAny (model P w) callerA (.call (.ref fa) ⟨[.ref a],[]⟩) (λr s'=>r=.ok (.ret (.bool true))/\OldK s₁.heap s'.heap/\s'.os=s₁.os/\AllBare s'.gens) s₁:=by
  intro H hO hS hok hA hK
  have base_of:∀{b:Addr}{o:Obj},s₁.heap.get? b=some o->H b=none->(fV s₁.heap H).get? b=some o:=λe n=>Fi e n
  have noA:∀{b:Addr}{o:Obj}{es:Array DictEntry}{ep:Nat},s₁.heap.get? b=some o->o.data=.dict es ep->H b=none:=λ{b o es ep} e d=>by
   cases q:H b with
   |none=>rfl
   |some u =>
    have e':b=a:=hA b (by rw[q];simp);subst e';rw[ha] at e;cases e;have d':Data.seq vs.toArray _=Data.dict es ep:=d;cases d'
  have nsK:∀{b:Addr}{m:Str->Option Value},s₁.heap.Ns b m->(fV s₁.heap H).Ns b m:=λ{b m} ⟨o,es,ep,e,d,r⟩=>⟨o,es,ep,base_of e (noA e d),d,r⟩
  have hKb:K.In (fV s₁.heap H):=λb o e=>base_of (KX b o e) (by
   cases q:H b with
   |none=>rfl
   |some u =>
    have e':b=a:=hA b (by rw[q];simp);subst e'
    rw[hK (by rw[q];simp)] at e;cases e)
  have hM:Mod K mg (fV s₁.heap H):=⟨hKb,nsK hns,⟨mb,nsK hb,hbb⟩,let ⟨mc,h1,h2⟩:=hlim;⟨mc,nsK h1,h2⟩⟩;have e0:iH P w K mg (fV s₁.heap H) callerA [] s₁ H:=⟨rfl,hM,λb o e=>Fj e,Nat.le_of_eq (Fg _ _),trivial,λb hb=>absurd (show b∈([]:List Addr) from hb) (by simp),hok,.of_eq hg⟩
  refine codeAny_mono ((F _ hKb (nsK hns)).run callerA [] s₁ H ⟨[.ref a],[]⟩ [.ref a] [.ref a] _ _ hr e0 (hbind s₁ (.ref a)) (.cons rfl .nil) (hsp H hO hS)) λr s' h=>?_
  cases r with
  |error e=>exact(hCX H e s' h).elim
  |ok fl =>
   cases fl with
   |next=>exact False.elim h
   |brk=>exact False.elim h
   |cont=>exact False.elim h
   |ret u =>
    obtain⟨v,H',os,bare,un,hok',r',q⟩:=h;have q':v=.bl true:=q;subst q';obtain rfl:u=Value.bool true:=r';refine⟨rfl,OldK.of_keep λb o e=>?_,os,bare⟩
    cases q:H b with
    |none=>exact un.keep b o e q (by intro z;exact absurd (show b∈([]:List Addr) from z) (by simp)) (by simp)
    |some u =>
     rcases hO b with z | ⟨ob,xs,z⟩
     ·rw[q] at z;cases z
     ·have z2:=un.frzs b ob _ z;obtain⟨e1,_⟩:=hok b _ z;obtain⟨e2,_⟩:=hok' b _ z2;rw[e] at e1;cases e1;exact e2
 cases hk:K.lookup a with
 |some o =>
  have e:=KX a o hk;rw[ha] at e;cases e
  refine core (λ_=>none) (λ_=>.inl rfl) (.inr ⟨vs,_,hk,by rw[lenV];exact hl,rv⟩) (λb u z=>by have z':(none:Option HO)=some u:=z;cases z') (λb z=>absurd rfl z) λz=>absurd rfl z
 |none =>
  refine core (λb=>if b=a then some (.frz {cls:=.type "list",data:=.seq vs.toArray} (.lst (ns.map V.int))) else none) (λb=>?_) (.inl (.inr ⟨{cls:=.type "list",data:=.seq vs.toArray},if_pos rfl⟩)) (λb u z=>?_) (λb z=>?_) λ_=>hk
  ·by_cases hb:b=a
   ·exact .inr ⟨_,_,if_pos hb⟩
   ·exact .inl (if_neg hb)
  ·by_cases hb:b=a
   ·have z':=(if_pos hb).symm.trans z;cases z';subst hb;exact⟨ha,by rw[zf];exact hl,vs,_,rv,ha⟩
   ·have z':=(if_neg hb).symm.trans z;cases z'
  ·by_cases hb:b=a
   ·exact hb
   ·exact absurd (if_neg hb) z
theorem walk_ofR{l:PySem.W.OpenLaw}{n k:Nat}{q:Program}{loose:List Str}{XP:(Str->Option Value)->Heap->Prop}{YP:World->Heap->Prop}{d:DefRec}{K:Params->PySem.W.Frag}{CX:World->CXT}{sp:World->Sp}{x:Str}
  (hn:l.most=some n) (hn2:n<=sizeLine) (hdf:d.params.defaults=[]) (hr:bw k callerA)
  (hY:∀(w:World) (h:Heap),YP w h->(K w.params).In h)
  (F:∀(w:World) (mg:Str->Option Value) (fa:Addr) (h:Heap),(K w.params).In h->h.Ns mainGlobals mg->mg d.name=some (.ref fa) ->
   ∃fd:FuncData,(∀(s:Shared) (u:Value),BindsTo s fd ⟨[u],[]⟩ [(x,u)]) /\
    ∀base:Heap,(K w.params).In base->base.Ns mainGlobals mg->dg l.prog w (K w.params) mg base (CX w) k fa fd [x] (sp w))
  (hsp:∀(w:World) (H:Hp) (a:Addr) (ns:List Int),ns.length<=n->mD H->RdK (K w.params) H a (ns.map V.int)->sp w [.ref a] H (λv _=>v=.bl true) λ_ _ _=>False)
  (hCX:∀(w:World) (H:Hp) (s:Shared) (e:Value) (s':Shared),CX w [] H s (λ_ _ _=>False) e s'->False):
  PySem.W.WalkO q loose XP YP l.row.toRowW d [] (λf vs=>PySem.call f vs):=by
 refine Att.attach_call hn hdf λw s₀ s₁ mg mb fa o pm cd doc a vs ns G Y ho hd hcd hmg hobj hints hlen hg=>?_
 have KX:=hY w _ Y;obtain⟨fd,hb,hF⟩:=F w mg fa _ KX G.T.g hmg
 exact Wj KX G.T.g G.T.b G.T.builtins G.T.nolimit hg hobj hints (zG hlen hn2) hr hF hb (λH hO hS=>hsp w H a ns hlen hO hS) λH e s'=>hCX w H s₁ e s'
theorem lG{K:Frag}{mg:Str->Option Value}{f:Str}:∀c∈([]:List Str),KC K mg c f:=λ_ h=>nomatch h
theorem lH{K:Frag}{mg:Str->Option Value}{f c:Str}{cs:List Str}(h:KC K mg c f)(hr:∀c∈cs,KC K mg c f):∀c'∈c::cs,KC K mg c' f:=λc' hc=>by
 rcases zk.mp hc with rfl | hc
 ·exact h
 ·exact hr c' hc
def wF:Nat:=1000000
def sp_law(K:Frag):Sp:=λvs H Q _=>∃(a:Addr) (ns:List Int),vs=[.ref a]/\RdK K H a (ns.map V.int)/\ns.length<=63/\mD H/\∀H',Q (.bl true) H'
theorem Rps.ofInts{K:Frag}{F:Hp}{as:List Addr}:∀ns:List Int,Rps K F as (ns.map V.int) (ns.map D.int)
 | []=>Rps.nil
 |n::ns=>Rps.cons Rp.int (Rps.ofInts ns)
theorem Wl{K:Frag}{mg:Str->Option Value}{c:List D->aq->Res D}(h:∀ns:List Int,ns.length<=63->∃O',c [.lst (ns.map D.int)] []=.ok (.bl true) O'):∀vs H Q E,sp_law K vs H Q E->vSp K mg [.s] (rV K) c vs H Q E:=by
 rintro vs H Q E ⟨a,ns,rfl,hS,hl,hO,q⟩;obtain⟨O',e⟩:=h ns hl
 have r:RlO K mg [] H H []:=⟨Same.refl H,λb o e=>by
  rcases hO b with z | ⟨o',xs,z⟩
  ·rw[e] at z;cases z
  ·rw[e] at z;cases z;rfl,List.nodup_nil,rfl,(λ_ z=>nomatch z),λn b o z=>by cases z⟩
 refine⟨[.lst (ns.map D.int)],[],H,[],.bl true,O',r,⟨.inl (Rp.mkL hS (Rps.ofInts ns)),trivial⟩,e,λv H' F' as' g r' hv=>?_⟩;rw[Rp.unB hv];exact q H'
def keyOf:D->Option Key
 | .int i=>some (.inl i)
 | .str l=>some (.inr (S l))
 | _=>none
theorem Wm{d:D}{k:Key}(h:keyOf d=some k):oJ k=d:=by
 cases d with
 |int i=>cases h;rfl
 |str l=>cases h;show D.str (S l).cps.toList=_;rw[jV]
 | _=>cases h
theorem Rp.key{K:Frag}{F:Hp}{as:List Addr}{v:V}{d:D}{k:Key}(h:Rp K F as v d)(e:keyOf d=some k):v=kV k:=by
 cases d with
 |int i=>cases e;exact h.unI
 |str l=>cases e;exact h.unS
 | _=>cases e
section
variable {X:Cx}{md:List Md}{P:Pt}
def Prs(K:Frag)(F:Hp)(as:List Addr):List (V×V)->List (D×D)->Prop
 | [],[]=>True
 |p::ps,d::ds=>Rp K F as p.1 d.1/\Rp K F as p.2 d.2/\Prs K F as ps ds
 | _,_=>False
def DPE(X:Cx)(md:List Md)(P:Pt)(pos:Pos)(keys:List (Option Expr))(values:List Expr)(m:M (List (D×D))):Prop:=∃trs:List (TE×TE),
 PPs X pos keys values trs/\∀σ H Q,(∃ρ O F as kv O',RlO X.K X.mg O H F as/\SlO X.K md P ρ σ H F as/\m ρ O=.ok kv O'/\∀ps H' F' as',Gr H F as H' F' as'->RlO X.K X.mg O' H' F' as'->Prs X.K F' as' ps kv->Q ps H')->tZ trs σ H Q
def Wn:M (List (D×D)):=λ_ O=>.ok [] O
def Wo(mk mv:M D)(r:M (List (D×D))):M (List (D×D)):=λρ O=>(mk ρ O).bind λa O1=>(mv ρ O1).bind λb O2=>(r ρ O2).bind λps O3=>.ok ((a,b)::ps) O3
def keysOf:List (D×D)->Option (List Key)
 | []=>some []
 | (a,_)::r=>(keyOf a).bind λk=>(keysOf r).map (k :: ·)
theorem Prs.kvs{K:Frag}{F:Hp}{as:List Addr}:∀{kv:List (D×D)}{ps:List (V×V)}{ks:List Key},Prs K F as ps kv->keysOf kv=some ks ->
  ∃kvs:List (Key×V),ps=kvs.map (λp=>(kV p.1,p.2))/\kvs.map (·.1)=ks/\kv.map (·.1)=kvs.map (λp=>oJ p.1)/\Rps K F as (kvs.map (·.2)) (kv.map (·.2))
 | [],ps,ks,h,e=>by
  cases ps with
  |nil=>cases e;exact⟨[],rfl,rfl,rfl,Rps.nil⟩
  |cons _ _=>exact h.elim
 | (a,b)::kv,ps,ks,h,e=>by
  cases ps with
  |nil=>exact h.elim
  |cons p ps =>
   obtain⟨p1,p2⟩:=p;unfold keysOf at e
   cases ea:keyOf a with
   |none=>rw[ea] at e;cases e
   |some k =>
    rw[ea] at e
    cases er:keysOf kv with
    |none=>rw[er] at e;cases e
    |some ks' =>
     rw[er] at e;cases e;obtain⟨kvs,h1,h2,h3,h4⟩:=Prs.kvs h.2.2 er;refine⟨(k,p2)::kvs,?_,?_,?_,Rps.cons h.2.1 h4⟩
     ·rw[zd,<-h1]
      have:p1=kV k:=Rp.key h.1 ea
      rw[this]
     ·rw[zd,h2]
     ·rw[zd,zd,h3,Wm ea]
def Wq(m:M (List (D×D))):M D:=λρ O=>(m ρ O).bind λkv O1=>match keysOf kv with
 |some ks=>if ks.Nodup/\kv.length<=15 then .ok (.dic (kv.map (·.1)) (kv.map (·.2))) O1 else .no
 |none=>.no
theorem Prs.length{K:Frag}{F:Hp}{as:List Addr}:∀{kv:List (D×D)}{ps:List (V×V)},Prs K F as ps kv->ps.length=kv.length
 | [],[],_=>rfl
 | _::kv,_::ps,h=>by simp[Prs.length h.2.2]
 | [],_::_,h=>h.elim
 | _::_,[],h=>h.elim
end
section
variable {X:Cx}{md:List Md}{P:Pt}{k:Nat}{c x m:Str}{ps:List Str}{p pos apos:Pos}{o e:Expr}{es:List Expr}{pm:List Md}{cf:List D->aq->Res D}{mo:M D}{ma:M (List D)}
theorem bR(C:Can X.prog X.w X.K X.mg X.base x ps k (vSp X.K X.mg pm (rV X.K) cf))(hr:bw k X.A)(ha:AE X md P pm (e::es) ma)(hg:Gl X x:=by rfl)(hdb:(x == ("__debug__":Str))=false:=by decide)(he:starEach (e::es) X.env=(false,eval e X.env)::starEach es X.env:=by exact dq rfl)(hpl:(backTo pos (starEach es X.env)).any (·.1)=false:=by exact fJ rfl):
  VE X md P (.Call (.Name x p) (e::es) [] pos) (aK cf ma):=HR cB C hr ha hg hdb he hpl
theorem gG(C:Can X.prog X.w X.K X.mg X.base x ps k (vSp X.K X.mg pm (rO X.K) cf))(hr:bw k X.A)(ha:AE X md P pm (e::es) ma)(hg:Gl X x:=by rfl)(hdb:(x == ("__debug__":Str))=false:=by decide)(he:starEach (e::es) X.env=(false,eval e X.env)::starEach es X.env:=by exact dq rfl)(hpl:(backTo pos (starEach es X.env)).any (·.1)=false:=by exact fJ rfl):
  OE X md P (.Call (.Name x p) (e::es) [] pos) (aK cf ma):=HR fj C hr ha hg hdb he hpl
theorem ur{pl:Sem Bool}(M:gZ X.prog X.w X.K X.mg X.base c m ps k (vSp X.K X.mg (.v::pm) (rV X.K) cf))(hr:bw k X.A)(ho:VE X md P o mo)(ha:AE X md P pm (e::es) ma)(hst:starEach (e::es) X.env=(false,eval e X.env)::starEach es X.env:=by exact dq rfl)(hpl:(backTo pos (starEach es X.env)).any (·.1)=false:=by exact fJ rfl)
  (ht:eval (.Call (.Attribute o m apos) (e::es) [] pos) X.env=(do
   let ov <-eval o X.env
   standAt apos.atName
   let (f,first) <-holding [ov] (getMethod ov m pl)
   callWith pos f first (backTo pos (starEach (e::es) X.env)) (backToKw pos (keywordEach [] X.env))):=by rfl):VE X md P (.Call (.Attribute o m apos) (e::es) [] pos) (cF c m cf mo ma):=Iw cB M hr ho ha hst hpl ht
theorem yc{pl:Sem Bool}(M:gZ X.prog X.w X.K X.mg X.base c m ps k (vSp X.K X.mg (.v::pm) (rO X.K) cf))(hr:bw k X.A)(ho:VE X md P o mo)(ha:AE X md P pm (e::es) ma)(hst:starEach (e::es) X.env=(false,eval e X.env)::starEach es X.env:=by exact dq rfl)(hpl:(backTo pos (starEach es X.env)).any (·.1)=false:=by exact fJ rfl)
  (ht:eval (.Call (.Attribute o m apos) (e::es) [] pos) X.env=(do
   let ov <-eval o X.env
   standAt apos.atName
   let (f,first) <-holding [ov] (getMethod ov m pl)
   callWith pos f first (backTo pos (starEach (e::es) X.env)) (backToKw pos (keywordEach [] X.env))):=by rfl):OE X md P (.Call (.Attribute o m apos) (e::es) [] pos) (cF c m cf mo ma):=Iw fj M hr ho ha hst hpl ht
theorem IK{pl:Sem Bool}(M:gZ X.prog X.w X.K X.mg X.base c m ps k (vSp X.K X.mg [.v] (rV X.K) cf))(hr:bw k X.A)(ho:VE X md P o mo)
  (ht:eval (.Call (.Attribute o m apos) [] [] pos) X.env=(do
   let ov <-eval o X.env
   standAt apos.atName
   let (f,first) <-holding [ov] (getMethod ov m pl)
   callWith pos f first (backTo pos (starEach [] X.env)) (backToKw pos (keywordEach [] X.env))):=by rfl):VE X md P (.Call (.Attribute o m apos) [] [] pos) (cF c m cf mo au):=We cB M hr ho ht
end
section
variable {X:Cx}{md:List Md}{P:Pt}{R:RR}{elts:List Expr}{x1:Nat}{tpos:Pos}
def j7:List D->List D->List D
 |d::ds,e::es=>.tup [d,e]::j7 ds es
 | _,_=>[]
def IV(ma mb:M D):M (List D):=λρ O=>(ma ρ O).bind λd O1=>(mb ρ O1).bind λe O2=>match d,e with
 | .lst ds,.lst es=>.ok (j7 ds es) O2
 | _,_=>.no
def qY(m:MS):MS:=λρ O=>match m ρ O with
 | .rt d O'=>.rt d O'
 | _=>.no
theorem SlO.toV{K:Frag}{ρ:aA}{σ:St}{H F F':Hp}{as:List Addr}{i:Nat}(s:SlO K md P ρ σ H F as)(hm:md[i]?=some .o)(ff:Same F F')
  (hown:∀(j:Nat) (ds:List D) (a:Addr),j≠i->md[j]?=some .o->ρ[j]?=some (some (.lst ds))->σ[j]?=some (some (.ref a))->F' a=F a)
  (hv:∀d,ρ[i]?=some (some d)->∃v,σ[i]?=some (some v)/\Rp K F' as v d):SlO K (md.set i .v) P ρ σ H F' as:=by
 have hi:i<md.length:=(zl.mp hm).1
 have back:∀(j:Nat),(md.set i Md.v)[j]?=some Md.o->j≠i/\md[j]?=some .o:=λj e=>by
  by_cases hj:j=i
  ·subst hj;rw[zS hi] at e;cases e
  ·rw[zr (Ne.symm hj)] at e;exact⟨hj,e⟩
 refine⟨by rw[jl];exact s.len,by rw[jl];exact s.len',s.pd,λj m d e1 e2=>?_,λj k a ds es h1 h2 h3 h4 h5 h6=>s.inj j k a ds es (back j h1).2 (back k h2).2 h3 h4 h5 h6,λx hx=>?_⟩
 ·by_cases hj:j=i
  ·subst hj;rw[zS hi] at e1;cases e1;exact hv d e2
  ·rw[zr (Ne.symm hj)] at e1;obtain⟨v,q,t⟩:=s.sl j m d e1 e2;refine⟨v,q,?_⟩
   cases m with
   |v=>exact Rp.mono ff (λ_ _ z=>z) _ t
   |s =>
    rcases t with t | ⟨a,xs,ds,t1,t2,t3,t4,t5,t6⟩
    ·exact .inl (Rp.mono ff (λ_ _ z=>z) _ t)
    ·exact .inr ⟨a,xs,ds,t1,t2,t3,t4,t5,Rps.mono ff (λ_ _ z=>z) _ t6⟩
   |o =>
    rcases t with⟨t0,t⟩ | ⟨a,xs,ds,rfl,rfl,t3,t0,t4,t5,t6⟩
    ·exact .inl ⟨t0,Rp.mono ff (λ_ _ z=>z) _ t⟩
    ·exact .inr ⟨a,xs,ds,rfl,rfl,t3,by rw[hown j ds a hj e1 e2 q];exact t0,t4,t5,Rps.mono ff (λ_ _ z=>z) _ t6⟩
 ·obtain⟨p1,p2,p3⟩:=s.pin x hx
  have hne:i≠x.1:=λz=>by rw[<-z,hm] at p1;cases p1
  exact⟨by rw[zr hne];exact p1,p2,p3⟩
theorem Wr{K:Frag}{mg:Str->Option Value}{i:Nat}{m:MS}(hm:md[i]?=some .o){D:Ends}{σ:St}{H:Hp}(q:tMS K mg md P R (qY m) D σ H):tMS K mg (md.set i .v) P R m D σ H:=by
 obtain⟨ρ,O,F,as,r,s,k⟩:=q;unfold qY at k
 cases e:m ρ O with
 |rt d O' =>
  rw[e] at k
  by_cases hl:∃ds,ρ[i]?=some (some (.lst ds))
  ·obtain⟨ds,hρ⟩:=hl;obtain⟨a,xs,h1,h2,h3,h4,h5,h6⟩:=s.own hm hρ
   have ff:Same F (upd F a (.lst xs)):=λb u q=>by rw[aO (cH q h3)];exact q
   have g0:GrS P H F as H (upd F a (.lst xs)) as:=⟨λc _ p _ _ _=>aO (λz=>h5 (by rw[<-z];exact p)),ff,⟨[],by simp,λ_ h=>nomatch h⟩,λ_ _ _ h _ _=>h,λ_ h=>h,λ_ _ _ h=>h⟩;refine⟨ρ,O,upd F a (.lst xs),as,r.frz h2 h3 h4 rfl,s.toV hm ff (λj es b hj m1 m2 m3=>?_) (λd' hd'=>?_),?_⟩
   ·refine aO λz=>hj ?_
    rw[z] at m3;exact s.inj j i a es ds m1 hm m2 hρ m3 h1
   ·rw[hρ] at hd';cases hd';exact⟨_,h1,Rp.mkL (.inl (.inl bM)) (Rps.mono ff (λ_ _ z=>z) _ h6)⟩
   ·rw[e]
    exact λv H' F' as' g r' hv=>k v H' F' as' (g0.trans g) r' hv
  ·refine⟨ρ,O,F,as,r,s.toV hm (Same.refl F) (λ_ _ _ _ _ _ _=>rfl) (λd' hd'=>?_),by rw[e];exact k⟩;obtain⟨v,h1,h2⟩:=s.sl i .o d' hm hd'
   rcases h2 with⟨_,h2⟩ | ⟨a,xs,ds,_,rfl,_⟩
   ·exact⟨v,h1,h2⟩
   ·exact absurd ⟨ds,hd'⟩ hl
 | _=>rw[e] at k;exact False.elim k
theorem Ws(i:Nat){st:Stmt}{m:MS}(hm:md[i]?=some .o)(h:VS X (md.set i .v) P R st m):VS X md P R st (qY m):=h.imp λ_ _ _=>Wr hm
end
section
variable {prog:Program}{w:World}{A:Around}{E:Value->Shared->Prop}
end
section
variable {X:Cx}{md:List Md}{P:Pt}{R:RR}
theorem Wt{as:List Addr}{a:Addr}:∀(n:Nat) (c:Addr),as[n]?=some c->(as++[a])[n]?=some c:=λn c h=>by
 rw[zD (zl.mp h).1];exact h
theorem uv{H F:Hp}{as:List Addr}{a:Addr}{h:HO}(ha:a∈as)(hh:H a=some h){o:HO}(hf:∀o u,h≠.frz o u:=by intro _ _ z;cases z):Gr H F as (upd H a o) F as :=
 ⟨λ_ _ _ _ _=>rfl,Same.refl F,⟨[],by simp,λ_ h=>nomatch h⟩,λc u e hn _=>by rw[aO (λz=>hn (by rw[z];exact ha))];exact e,λc e=>by
  by_cases h:c=a
  ·subst h;rw[bM] at e;cases e
  ·rwa [aO h] at e,λc o' u e=>by rw[aO (λz=>by rw[z,hh] at e;cases e;exact hf _ _ rfl)];exact e⟩
theorem RlO.ml{K:Frag}{mg:Str->Option Value}{O:aq}{H F:Hp}{as:List Addr}{n:Nat}{a:Addr}{ds:List D}(r:RlO K mg O H F as)(hn:as[n]?=some a)(hO:O[n]?=some (.ml ds)):∃xs,H a=some (.lst xs)/\Rps K F as xs ds:=r.ob n a _ hn hO
end
def ye(K:Frag)(mg:Str->Option Value)(x:Str)(ls:List (List Nat)):Prop:=∃(a:Addr) (o:Obj) (its:Array Value) (n:Nat),mg x=some (.ref a)/\K.lookup a=some o/\o.cls=.type "tuple"/\o.data=.seq its n/\its.size<=sizeLine/\aN (ls.map λl=>V.str (S l)) its.toList
theorem Rps.texts{K:Frag}{F:Hp}{as:List Addr}:∀ls:List (List Nat),Rps K F as (ls.map λl=>V.str (S l)) (ls.map D.str)
 | []=>Rps.nil
 |l::ls=>Rps.cons Rp.str (Rps.texts ls)
theorem Wu{X:Cx}{md:List Md}{P:Pt}{x:Str}{ls:List (List Nat)}{pos:Pos}(h:ye X.K X.mg x ls)(hg:Gl X x:=by rfl)(hdb:(x == ("__debug__":Str))=false:=by decide):VE X md P (.Name x pos) (mC (.tup (ls.map D.str))):=by
 obtain⟨a,o,its,n,hm,hk,h1,h2,h3,h4⟩:=h
 refine(Hg (v:=.ref a) ⟨_,hm,rfl⟩ hg hdb).imp λσ H Q q=>?_
 obtain⟨ρ,O,F,as,d,O',r,s,e,k⟩:=q;cases e;exact k _ H F as Gr.refl r (Rp.mkT (.inr ⟨o,its,n,hk,h1,h2,h3,h4⟩) (Rps.texts ls))
theorem bZ{α:Type}{p:List α->Prop}(h:p []):∀us:List α,us.length=0->p us:=λus e=>by
 cases us with
 |nil=>exact h
 |cons a as=>cases e
theorem aX{α:Type}{p:List α->Prop}{n:Nat}(h:∀a,∀us:List α,us.length=n->p (a::us)):∀us:List α,us.length=n+1->p us:=λus e=>by
 cases us with
 |nil=>cases e
 |cons a as=>exact h a as (Nat.succ.inj e)
section
variable {prog:Program}{w:World}{κ:Type}[DecidableEq κ]{knd:HeapKind prog w κ}{A:Around}{E:Value->Shared->Prop}{s:Shared}
end
section
variable {X:Cx}{pins:List (Addr×Obj)}{σ:St}{H:Hp}{s:Shared}{a b:Addr}{v:V}{r:Value}{kvs:List (List Key×V)}{k:List Key}{A:Around}{E:Value->Shared->Prop}
end
def uw:List D->Option (List Key)
 | []=>some []
 | .int i::ds=>(uw ds).map (Sum.inl i :: ·)
 | _=>none
def qZ:D->Option (List Key)
 | .tup (d::ds)=>uw (d::ds)
 | _=>none
theorem Rps.keys{K:Frag}{F:Hp}{as:List Addr}:∀{ds:List D}{xs:List V}{ks:List Key},Rps K F as xs ds->uw ds=some ks->xs=ks.map kV/\∃is:List Int,ks=is.map Sum.inl
 | [],xs,ks,h,e=>by cases e;exact⟨h.un0,[],rfl⟩
 | .int i::ds,xs,ks,h,e=>by
  obtain⟨x,r,rfl,h1,h2⟩:=h.un;obtain⟨ks',e1,rfl⟩:=Option.map_eq_some_iff.mp (show(uw ds).map (Sum.inl i :: ·)=some ks from e);obtain⟨q1,is,rfl⟩:=Rps.keys h2 e1;exact⟨by rw[h1.unI,q1];rfl,i::is,rfl⟩
 | .non::ds,xs,ks,h,e=>by cases e
 | .bl _::ds,xs,ks,h,e=>by cases e
 | .str _::ds,xs,ks,h,e=>by cases e
 | .lst _::ds,xs,ks,h,e=>by cases e
 | .tup _::ds,xs,ks,h,e=>by cases e
 | .dic _ _::ds,xs,ks,h,e=>by cases e
 | .ob _::ds,xs,ks,h,e=>by cases e
def rm:List Value->Bool
 | []=>true
 | .int _ _::r=>rm r
 | _=>false
def bL:Frag->Bool
 | []=>true
 |p::r=>(match p.2.data with
  | .seq its _=>its.toList.isEmpty || !rm its.toList
  | _=>true)&&bL r
theorem IW{a:Addr}{o:Obj}{its:Array Value}{n:Nat}:∀{K:Frag},bL K=true->List.lookup a K=some o->o.data=.seq its n->(its.toList.isEmpty || !rm its.toList)=true
 | [],_,h,_=>by cases h
 |p::r,hk,h,hd=>by
  unfold bL at hk;rw[zo] at hk;rw[List.lookup_cons] at h;split at h
  ·cases h
   have:=hk.1
   rw[hd] at this;exact this
  ·exact IW hk.2 h hd
theorem Ja:∀{is:List Int}{us:List Value},aN ((is.map (Sum.inl (β:=Str))).map kV) us->rm us=true
 | [],us,h=>by cases h;rfl
 |i::is,us,h=>by
  cases h with
  | @cons _ u _ us' r1 r2 =>
   obtain⟨t,rfl⟩:∃t,u=.int i t:=r1;show rm us'=true;exact Ja (is:=is) r2
theorem Rp.tkey{K:Frag}{F:Hp}{as:List Addr}{v:V}{d:D}{ks:List Key}(hk:bL K=true)(h:Rp K F as v d)(e:qZ d=some ks):∃b,v=.ref b/\F b=some (.tup (ks.map kV)):=by
 cases d with
 |tup ds =>
  cases ds with
  |nil=>cases e
  |cons d ds =>
   obtain⟨b,xs,rfl,h1,h2⟩:=h.unT';obtain⟨ex,is,rfl⟩:=h2.keys e
   rcases h1 with h1 | ⟨o,its,n,l1,_,l3,_,l5⟩
   ·exact⟨b,rfl,by rw[h1,ex]⟩
   ·exfalso
    have q:=IW hk l1 l3;rw[ex] at l5;rw[Ja l5,Bool.not_true,Bool.or_false,List.isEmpty_iff] at q;rw[q,<-ex] at l5;obtain⟨x,r,rfl,_,_⟩:=h2.un;cases l5
 | _=>cases e
def gH(kvs:List (List Key×D))(k:List Key):Option D:=(kvs.find? λp=>decide (p.1=k)).map (·.2)
def nC(kvs:List (List Key×D))(k:List Key)(d:D):List (List Key×D):=
 if(kvs.any λp=>decide (p.1=k))=true then kvs.map (λp=>if p.1=k then(p.1,d) else p) else kvs++[(k,d)]
def DtR(K:Frag)(F:Hp)(as:List Addr)(xs:List (List Key×V))(kvs:List (List Key×D)):Prop:=xs.map (·.1)=kvs.map (·.1)/\Rps K F as (xs.map (·.2)) (kvs.map (·.2))
section
variable {K:Frag}{mg:Str->Option Value}{O:aq}{H F H' F':Hp}{as as':List Addr}
theorem DtR.len{xs:List (List Key×V)}{kvs:List (List Key×D)}(h:DtR K F as xs kvs):xs.length=kvs.length:=by
 have:=congrArg List.length h.1
 simpa using this
theorem DtR.un{xs:List (List Key×V)}{p:List Key×D}{kvs:List (List Key×D)}(h:DtR K F as xs (p::kvs)):∃v r,xs=(p.1,v)::r/\Rp K F as v p.2/\DtR K F as r kvs:=by
 obtain⟨h1,h2⟩:=h
 cases xs with
 |nil=>cases h1
 |cons x r =>
  obtain⟨v,r',e,q1,q2⟩:=h2.un;cases e;rw[zd,zd] at h1;have q3:=(List.cons.inj h1).1;refine⟨x.2,r,?_,q1,(List.cons.inj h1).2,q2⟩;rw[<-q3]
theorem DtR.val{k:List Key}:∀{kvs:List (List Key×D)}{xs:List (List Key×V)},DtR K F as xs kvs->(gH kvs k=none/\fH xs k=none)\/∃d v,gH kvs k=some d/\fH xs k=some v/\Rp K F as v d
 | [],xs,h=>by
  have:=h.len
  cases xs with
  |nil=>exact .inl ⟨rfl,rfl⟩
  |cons=>cases this
 |p::kvs,xs,h=>by
  obtain⟨v,r,rfl,h1,h2⟩:=h.un
  by_cases e:p.1=k
  ·exact .inr ⟨p.2,v,by simp[gH,List.find?_cons,e],qy e,h1⟩
  ·rw[show gH (p::kvs) k=gH kvs k by simp[gH,List.find?_cons,e],qz (p:=(p.1,v)) e];exact DtR.val h2
theorem DtR.any{k:List Key}:∀{kvs:List (List Key×D)}{xs:List (List Key×V)},DtR K F as xs kvs->(xs.any λp=>decide (p.1=k))=kvs.any λp=>decide (p.1=k)
 | [],xs,h=>by
  have:=h.len
  cases xs with
  |nil=>rfl
  |cons=>cases this
 |p::kvs,xs,h=>by
  obtain⟨v,r,rfl,h1,h2⟩:=h.un;rw[List.any_cons,List.any_cons,DtR.any h2]
theorem DtR.repl{k:List Key}{v:V}{d:D}(hv:Rp K F as v d):∀{kvs:List (List Key×D)}{xs:List (List Key×V)},DtR K F as xs kvs ->
  DtR K F as (xs.map λp=>if p.1=k then(p.1,v) else p) (kvs.map λp=>if p.1=k then(p.1,d) else p)
 | [],xs,h=>by
  have:=h.len
  cases xs with
  |nil=>exact⟨rfl,Rps.nil⟩
  |cons=>cases this
 |p::kvs,xs,h=>by
  obtain⟨u,r,rfl,h1,h2⟩:=h.un;obtain⟨i1,i2⟩:=DtR.repl (k:=k) hv h2
  by_cases e:p.1=k
  ·rw[zd,zd,if_pos e,if_pos e];exact⟨by rw[zd,zd,i1],Rps.cons hv i2⟩
  ·rw[zd,zd,if_neg e,if_neg e];exact⟨by rw[zd,zd,i1],Rps.cons h1 i2⟩
theorem DtR.put{xs:List (List Key×V)}{kvs:List (List Key×D)}(h:DtR K F as xs kvs)(k:List Key){v:V}{d:D}(hv:Rp K F as v d):DtR K F as (putK xs k v) (nC kvs k d):=by
 unfold putK nC;rw[h.any]
 split
 ·exact h.repl hv
 ·exact⟨by rw[zQ,zQ,h.1];rfl,by rw[zQ,zQ];exact Rps.snoc h.2 hv⟩
theorem DtR.mono{xs:List (List Key×V)}{kvs:List (List Key×D)}(h:DtR K F as xs kvs)(e:Same F F')(ea:∀(n:Nat) (a:Addr),as[n]?=some a->as'[n]?=some a):DtR K F' as' xs kvs:=⟨h.1,Rps.mono e ea _ h.2⟩
theorem RlO.dt{n:Nat}{a:Addr}{kvs:List (List Key×D)}(r:RlO K mg O H F as)(hn:as[n]?=some a)(hO:O[n]?=some (.dt kvs)):∃xs,H a=some (.dT xs)/\DtR K F as xs kvs:=let ⟨xs,h1,h2,h3⟩:=r.ob n a _ hn hO;⟨xs,h1,h2,h3⟩
theorem RlO.snocO{a:Addr}{o:Ob}(r:RlO K mg O H F as)(hF:F a=none)(ha:a∉as)(ho:ObR K mg H F (as++[a]) a o):RlO K mg (O++[o]) H F (as++[a]):=by
 refine⟨r.fh,r.fd,jo.mpr ⟨r.nd,by simp,λc hc d hd=>by rw[zn.mp hd];exact λz=>ha (z ▸ hc)⟩,by rw[zz,zz,r.len];rfl,λc hc=>?_,λn c u hc hu=>?_⟩
 ·rcases zE.mp hc with hc | hc
  ·exact r.fa c hc
  ·rw[zn.mp hc];exact hF
 ·by_cases hn:n<as.length
  ·rw[zD hn] at hc;rw[zD (by rw[<-r.len];exact hn)] at hu;exact(r.ob n c u hc hu).keep rfl (Same.refl F) Wt
  ·have hn':n=as.length:=by
    have:=(zl.mp hc).1
    rw[zz,ja] at this;omega
   subst hn';rw[zI (zc _),Nat.sub_self] at hc;rw[r.len,zI (zc _),Nat.sub_self] at hu;cases hc;cases hu;exact ho
theorem RlO.mutG{n:Nat}{a:Addr}{o:Ob}{h:HO}(r:RlO K mg O H F as)(hn:as[n]?=some a)(hx:ObR K mg (upd H a h) F as a o):RlO K mg (O.set n o) (upd H a h) F as:=by
 have ha:=zM hn;refine⟨λc u e=>?_,r.fd,r.nd,by rw[jl];exact r.len,r.fa,λm c u hc hu=>?_⟩
 ·rw[aO (λz=>by rw[z,r.fa a ha] at e;cases e)];exact r.fh c u e
 ·by_cases hm:m=n
  ·subst hm;rw[hn] at hc;cases hc
   have hlt:m<O.length:=by rw[<-r.len];exact(zl.mp hn).1
   rw[zS hlt] at hu;cases hu;exact hx
  ·rw[zr (Ne.symm hm)] at hu
   refine(r.ob m c u hc hu).keep (aO λz=>hm ?_) (Same.refl F) λ_ _ h=>h
   obtain⟨q0,q1⟩:=zl.mp hc;obtain⟨p0,p1⟩:=zl.mp hn;exact(List.getElem_inj r.nd).mp (q1.trans (z.trans p1.symm))
theorem RlO.unF{p:Addr}(r:RlO K mg O H F as)(hp:H p=none):F p=none:=by
 cases e:F p with
 |none=>rfl
 |some o=>rw[r.fh p o e] at hp;cases hp
theorem Gr.snoc{p:Addr}{o:HO}(hp:H p=none):Gr H F as (upd H p o) F (as++[p]):=
 ⟨λ_ _ _ _ _=>rfl,Same.refl F,⟨[p],rfl,λa h=>by rw[zn.mp h];exact hp⟩,λa u e _ _=>by rw[aO (cH e hp)];exact e,λa e=>by
  by_cases h:a=p
  ·subst h;exact hp
  ·rwa [aO h] at e,λa o' u e=>by rw[aO (cH e hp)];exact e⟩
end
section
variable {X:Cx}{md:List Md}{P:Pt}{R:RR}
def rn:M D:=λ_ O=>.ok (.ob O.length) (O++[.dt []])
theorem Jb{pos:Pos}:VE X md P (.Dict [] [] pos) rn:=Ub.imp λσ H Q q p hp=>by
 obtain⟨ρ,O,F,as,d,O',r,s,e,k⟩:=q;cases e;refine k _ _ F (as++[p]) (Gr.snoc hp) ((r.lay hp).snocO (r.unF hp) (λz=>r.all z hp) ⟨[],bM,rfl,Rps.nil⟩) (Rp.mkO ?_);rw[<-r.len,zI (zc _),Nat.sub_self];rfl
def gJ(mo my mv:M D):MS:=λρ O=>match mv ρ O with
 | .ok d O1=>match mo ρ O1 with
  | .ok (.ob n) O2=>match my ρ O2 with
   | .ok y O3=>match qZ y,O3[n]? with
    |some k,some (.dt kvs)=>if kvs.length<1000000 then .nx ρ (O3.set n (.dt (nC kvs k d))) else .no
    | _,_=>.no
   | _=>.no
  | _=>.no
 | _=>.no
theorem yg{kk:Nat}(hk:bL X.K=true)(hr:bw kk X.A){o i value:Expr}{pos pos':Pos}{mo my mv:M D}(ho:VE X md P o mo)(hi:VE X md P i my)(hv:VE X md P value mv)
  (hs:swapsWith value (some (.Subscript o i pos')) pos.line X.env=pure false:=by rfl):VS X md P R (.Assign [.Subscript o i pos'] value pos) (gJ mo my mv):=
 (G5 (mF hr) ho hi hv hs).imp λD σ H q=>by
  obtain⟨ρ,O,F,as,r,s,k⟩:=q;unfold gJ at k;split at k
  ·rename_i d O1 e1;split at k
   ·rename_i n O2 e2;split at k
    ·rename_i y O3 e3;split at k
     ·rename_i ks kvs e4 e5;split at k
      ·rename_i hz;refine⟨ρ,O,F,as,_,_,r,s,e1,λv H1 F1 as1 g1 r1 hv=>⟨ρ,O1,F1,as1,_,_,r1,s.step g1,e2,λx H2 F2 as2 g2 r2 hx=>⟨ρ,O2,F2,as2,_,_,r2,s.step (g1.trans g2),e3,λu H3 F3 as3 g3 r3 hu=>?_⟩⟩⟩;obtain⟨a,rfl,ha⟩:=Rp.unO hx;have ha3:=g3.at_ n a ha;obtain⟨xs,x1,x2⟩:=r3.dt ha3 e5;obtain⟨b,rfl,hb⟩:=Rp.tkey hk hu e4;have hv3:=(show Rp X.K F1 as1 v d from hv).gr (g2.trans g3)
       have hl:xs.length<sizeLine:=by rw[x2.len];exact zF hz (by decide)
       have g4:Gr H3 F3 as3 (upd H3 a (.dT (putK xs ks v))) F3 as3:=uv (zM ha3) x1;have gg:=((g1.trans g2).trans g3).trans g4;obtain⟨z1,z2⟩:=x2.put ks hv3;exact⟨a,_,rfl,lq.t x1 (r3.fh _ _ hb) hl,k σ _ F3 as3 gg.toS (r3.mutG ha3 ⟨_,bM,z1,z2⟩) (s.step gg)⟩
      ·exact False.elim k
     ·exact False.elim k
    ·exact False.elim k
   ·exact False.elim k
  ·exact False.elim k
end
section
variable {X:Cx}
open Classical in
noncomputable def eqR(s:Shared)(x:PyData)(u:Value):Bool:=decide (∃d as,Reads s.heap u d as/\d.canLay0=true/\PyData.eqv d x=true)
open Classical in
theorem QAz{s:Shared}{x d:PyData}{u:Value}{as:List Addr}(h:Reads s.heap u d as)(hd:d.canLay0=true):eqR s x u=PyData.eqv d x:=by
 unfold eqR
 cases e:PyData.eqv d x with
 |true=>exact zj ⟨d,as,h,hd,e⟩
 |false =>
  refine zg λ⟨d',as',h',hd',e'⟩=>?_
  rw[<-SeqAt.Reads.unique d d' u as as' hd h h',e] at e';cases e'
end
section
variable {X:Cx}{md:List Md}{P:Pt}{R:RR}
end
section
variable {K:Frag}{mg:Str->Option Value}{O:aq}{H F:Hp}{as:List Addr}
end
section
variable {X:Cx}{md:List Md}{P:Pt}{R:RR}
end
section
variable {X:Cx}{md:List Md}{P:Pt}{R:RR}
end
end L2
namespace L2
open PySem PySem.Spec PyProof.Rows PySem.W PySem.Calls
section
variable {prog:Program}{w:World}{A:Around}{E:Value->Shared->Prop}{s:Shared}{a:Addr}{vs out:List Value}{p:Array Nat}
end
section
variable {X:Cx}
theorem Rps.getD{K:Frag}{F:Hp}{as:List Addr}{ds:List D}{xs:List V}(h:Rps K F as xs ds)(i:Nat):Rp K F as (xs.getD i V.non) (ds.getD i .non):=by
 rw[jf,jf]
 cases e:ds[i]? with
 |none =>
  have:xs[i]?=none:=by
   rw[List.getElem?_eq_none_iff] at e ⊢;rw[h.length];exact e
  rw[this];exact Rp.non
 |some d =>
  obtain⟨v,hv,r⟩:=h.get' e;rw[hv];exact r
end
structure Jc(mg:Str->Option Value):Prop extends Blt mg where
 sorted_:mg "sorted" = none
end L2
namespace L2
open PySem PySem.Spec PyProof.Rows
abbrev iR(h:Heap)(z TI TO T:Addr)(b:Bool):Prop :=
 h.get? z=some {cls:=.type "zip",dict:=none,data:=.fields #[rawInt T,.bool b,.bool false,.ref TI,.ref TO],slots:=#[]}
section
variable {prog:Program}{w:World}{A:Around}{E:Value->Shared->Prop}{s:Shared}
theorem Wv{a:Addr}{o:Obj}{Q:Option Obj->Shared->Prop}(h:s.heap.get? a=some o)(hQ:Q (some o) s):wpAny (model prog w) A (loadIfAlive a) Q E s:=by
 have:wpAny (model prog w) A (loadIfAlive a) Q E s↔wpAny (model prog w) A (pure (s.heap.get? a)) Q E s:=by
  unfold loadIfAlive wpAny;simp[Sem.wp_loadIfAlive]
 rw[this,h];exact zb hQ
theorem Jd{z TI TO T:Addr}{b:Bool}{o:Obj}{Q:Bool->Shared->Prop}(hz:iR s.heap z TI TO T b)(hT:s.heap.get? T=some o)
  (hQ:∀h',iR h' z TI TO T true->Heap.SameBut z s.heap h'->Q false {s with heap:=h'}):wpAny (model prog w) A (Builtin.SmallTypes.ownedTupleIsFree (.ref z)) Q E s:=by
 unfold Builtin.SmallTypes.ownedTupleIsFree;refine za (wpAny_field hz rfl (x:=rawInt T) rfl ?_);show wpAny _ _ (loadIfAlive ((T:Int).toNat) >>= _) _ _ _;rw[Int.toNat_natCast];refine za (Wv hT ?_);show wpAny _ _ (field (.ref z) 1 >>= _) _ _ _;refine za (wpAny_field hz rfl (x:=.bool b) rfl ?_)
 cases b with
 |true =>
  exact zb (hQ s.heap hz (Heap.SameBut.refl _ _))
 |false =>
  exact za (wpAny_setField_rec hz (by simp) λh1 hz1 hs1=>zb (hQ h1 hz1 hs1))
theorem Ww{z TI TO T i1 i2 l1 l2:Addr}{o:Obj}{b:Bool}{k1 k2:Nat}{xs ys:Array Value}{x y:Value}{Q:Value->Shared->Prop}(D:ZipApart z TI TO i1 i2 l1 l2)
  (hz:iR s.heap z TI TO T b) (hT:s.heap.get? T=some o) (hTI:IsPair s.heap TI (.ref i1) (.ref i2))
  (h1:s.heap.IsListIter i1 l1 k1) (h2:s.heap.IsListIter i2 l2 k2) (hl1:s.heap.IsList l1 xs) (hl2:s.heap.IsList l2 ys) (hx:xs[k1]?=some x) (hy:ys[k2]?=some y)
  (hQ:∀h',iR h' z TI TO T true->h'.IsListIter i1 l1 (k1+1)->h'.IsListIter i2 l2 (k2+1)->IsPair h' s.heap.objs.size x y->h'.objs.size=s.heap.objs.size+1 ->
   (∀c o,c≠z->c≠i1->c≠i2->s.heap.get? c=some o->h'.get? c=some o)->Q (.ref s.heap.objs.size) {s with heap:=h'}):
  wpAny (model prog w) A (Builtin.«zip.__next__» ⟨[.ref z],[]⟩) (λfin s'=>∃v,fin=.done (.ret v)/\Q v s') E s:=by
 show wpAny _ _ (field (.ref z) 2 >>= _) _ _ _;refine za (wpAny_field hz rfl (x:=.bool false) rfl ?_);show wpAny _ _ (field (.ref z) 3 >>= _) _ _ _;refine za (wpAny_field hz rfl (x:=.ref TI) rfl ?_);refine za (wpAny_seqItems hTI rfl ?_);show wpAny _ _ (Builtin.SmallTypes.ownedTupleIsFree (.ref z) >>= _) _ _ _;refine za (Jd hz hT λh₁ hz₁ hs₁=>?_);simp only[Bool.false_eq_true,if_false];refine za ?_;simp only[<-Array.forIn_toList,List.forIn_cons,List.forIn_nil];refine za (za (zT ?_));show wpAny _ _ (Builtin.SmallTypes.nextOf (.ref i1) >>= _) _ _ _;refine za (wpAny_nextOf_list_item (h1.extBut hs₁.extBut D.i1z) (hl1.extBut hs₁.extBut D.l1z) hx λh₂ h1₂ hs₂=>zb (zb ?_))
 dsimp only;refine za (za (zT ?_));show wpAny _ _ (Builtin.SmallTypes.nextOf (.ref i2) >>= _) _ _ _;refine za (wpAny_nextOf_list_item ((h2.extBut hs₁.extBut D.i2z).extBut hs₂.extBut D.i12.symm) ((hl2.extBut hs₁.extBut D.l2z).extBut hs₂.extBut D.l2i1) hy λh₃ h2₃ hs₃=>zb (zb ?_));dsimp only;refine zb ?_;refine za (wpAny_newTuple ?_ (by show 2<=sizeLine;decide))
 have hsz:h₃.objs.size=s.heap.objs.size:=by rw[hs₃.1,hs₂.1,hs₁.1]
 have hz₃:iR h₃ z TI TO T true:=hs₃.extBut _ _ D.i2z.symm (hs₂.extBut _ _ D.i1z.symm hz₁);refine zb ⟨_,rfl,?_⟩;show Q (.ref h₃.objs.size) _;rw[hsz];have fin:=hQ (h₃.push {cls:=.type "tuple",data:=.seq #[x,y]}) (zm _ hz₃) ((h1₂.extBut hs₃.extBut D.i12).at λo e=>zm _ e) (h2₃.at λo e=>zm _ e)
  (by rw[<-hsz];exact zy _ rfl) (by rw[Heap.size_push,hsz]) λc o c1 c2 c3 e=>zm _ (hs₃.extBut _ _ c3 (hs₂.extBut _ _ c2 (hs₁.extBut _ _ c1 e)))
 exact fin
theorem Wx{z TI TO T i1 i2 l1 l2:Addr}{o:Obj}{b:Bool}{k1 k2:Nat}{xs ys:Array Value}{Q:PySem.Fin->Shared->Prop}(hh:A.handled=none)(D:ZipApart z TI TO i1 i2 l1 l2)
  (hz:iR s.heap z TI TO T b) (hT:s.heap.get? T=some o) (hTI:IsPair s.heap TI (.ref i1) (.ref i2))
  (h1:s.heap.IsListIter i1 l1 k1) (h2:s.heap.IsListIter i2 l2 k2) (hl1:s.heap.IsList l1 xs) (hl2:s.heap.IsList l2 ys) (hend:xs[k1]?=none\/ys[k2]?=none)
  (hE:∀h' e,(∀c o,c≠z->c≠i1->c≠i2->s.heap.get? c=some o->h'.get? c=some o)->(∃o,h'.get? e=some o/\o.cls=.type "StopIteration")->E (.ref e) {s with heap:=h'}):
  wpAny (model prog w) A (Builtin.«zip.__next__» ⟨[.ref z],[]⟩) Q E s:=by
 show wpAny _ _ (field (.ref z) 2 >>= _) _ _ _;refine za (wpAny_field hz rfl (x:=.bool false) rfl ?_);show wpAny _ _ (field (.ref z) 3 >>= _) _ _ _;refine za (wpAny_field hz rfl (x:=.ref TI) rfl ?_);refine za (wpAny_seqItems hTI rfl ?_);show wpAny _ _ (Builtin.SmallTypes.ownedTupleIsFree (.ref z) >>= _) _ _ _;refine za (Jd hz hT λh₁ hz₁ hs₁=>?_);simp only[Bool.false_eq_true,if_false];refine za ?_;simp only[<-Array.forIn_toList,List.forIn_cons,List.forIn_nil];refine za (za (zT ?_));show wpAny _ _ (Builtin.SmallTypes.nextOf (.ref i1) >>= _) _ _ _
 cases hx:xs[k1]? with
 |none =>
  refine za (wpAny_nextOf_list_end hh (h1.extBut hs₁.extBut D.i1z) (hl1.extBut hs₁.extBut D.l1z) hx λh₂ e hs₂ he=>?_);exact hE h₂ e (λc o c1 c2 c3 x=>hs₂ _ _ c2 (hs₁.extBut _ _ c1 x)) he
 |some x =>
  have hy:ys[k2]?=none:=by rcases hend with h | h;rw[hx] at h;cases h;exact h
  refine za (wpAny_nextOf_list_item (h1.extBut hs₁.extBut D.i1z) (hl1.extBut hs₁.extBut D.l1z) hx λh₂ h1₂ hs₂=>zb (zb ?_));dsimp only;refine za (za (zT ?_));show wpAny _ _ (Builtin.SmallTypes.nextOf (.ref i2) >>= _) _ _ _;refine za (wpAny_nextOf_list_end hh ((h2.extBut hs₁.extBut D.i2z).extBut hs₂.extBut D.i12.symm) ((hl2.extBut hs₁.extBut D.l2z).extBut hs₂.extBut D.l2i1) hy λh₃ e hs₃ he=>?_);exact hE h₃ e (λc o c1 c2 c3 x=>hs₃ _ _ c3 (hs₂.extBut _ _ c2 (hs₁.extBut _ _ c1 x))) he
theorem Wz{z TI TO T i1 i2 l1 l2:Addr}{o:Obj}{b:Bool}{k1 k2:Nat}{xs ys:Array Value}{x y:Value}{Q:Option Value->Shared->Prop}(D:ZipApart z TI TO i1 i2 l1 l2)
  (hz:iR s.heap z TI TO T b) (hT:s.heap.get? T=some o) (hTI:IsPair s.heap TI (.ref i1) (.ref i2))
  (h1:s.heap.IsListIter i1 l1 k1) (h2:s.heap.IsListIter i2 l2 k2) (hl1:s.heap.IsList l1 xs) (hl2:s.heap.IsList l2 ys) (hx:xs[k1]?=some x) (hy:ys[k2]?=some y)
  (hQ:∀h',iR h' z TI TO T true->h'.IsListIter i1 l1 (k1+1)->h'.IsListIter i2 l2 (k2+1)->IsPair h' s.heap.objs.size x y->h'.objs.size=s.heap.objs.size+1 ->
   (∀c o,c≠z->c≠i1->c≠i2->s.heap.get? c=some o->h'.get? c=some o)->Q (some (.ref s.heap.objs.size)) {s with heap:=h'}):
  wpAny (model prog w) A (pyNext (.ref z)) Q E s:=by
 have hTy:s.TypeIs (.ref z) "zip":=⟨_,hz,rfl⟩;unfold pyNext
 exact za (wpAny_attempt (wpAny_callSpecial?_slot (name:=Str.ofString "__next__") hTy F.slot_zip_next
  (wpAny_call_entry F.slot_zip_next hTy F.entry_zip_next
   (Ww D hz hT hTI h1 h2 hl1 hl2 hx hy λh' a1 a3 a4 a5 a6 a7=>zb (hQ h' a1 a3 a4 a5 a6 a7)) (F.args_zip_next_1 _))))
theorem WD{z TI TO T i1 i2 l1 l2:Addr}{o:Obj}{b:Bool}{k1 k2:Nat}{xs ys:Array Value}{Q:Option Value->Shared->Prop}(hh:A.handled=none)(D:ZipApart z TI TO i1 i2 l1 l2)
  (hz:iR s.heap z TI TO T b) (hT:s.heap.get? T=some o) (hTI:IsPair s.heap TI (.ref i1) (.ref i2))
  (h1:s.heap.IsListIter i1 l1 k1) (h2:s.heap.IsListIter i2 l2 k2) (hl1:s.heap.IsList l1 xs) (hl2:s.heap.IsList l2 ys) (hend:xs[k1]?=none\/ys[k2]?=none)
  (hQ:∀h',(∀c o,c≠z->c≠i1->c≠i2->s.heap.get? c=some o->h'.get? c=some o)->Q none {s with heap:=h'}):wpAny (model prog w) A (pyNext (.ref z)) Q E s:=by
 have hTy:s.TypeIs (.ref z) "zip":=⟨_,hz,rfl⟩;unfold pyNext
 refine za (wpAny_attempt (wpAny_callSpecial?_slot (name:=Str.ofString "__next__") hTy F.slot_zip_next
  (wpAny_call_entry F.slot_zip_next hTy F.entry_zip_next (Wx hh D hz hT hTI h1 h2 hl1 hl2 hend λh' e hk he=>?_) (F.args_zip_next_1 _))))
 obtain⟨o',ho',hc⟩:=he;refine za (wpAny_isInstance (T:="StopIteration") (b:=true) ⟨o',ho',hc⟩ isSubtype_stop ?_);exact zb (hQ _ hk)
structure ZS(base:Nat)(h:Heap)(z TI TO i1 i2 l1 l2 S:Addr)(xs ys acc:Array Value)(c i:Nat):Prop where
 zi:(IsZip h z TI TO .none/\∃a b,IsPair h TO a b)\/∃T b o,iR h z TI TO T b/\h.get? T=some o/\T∉[z,TO,i1,i2,S]
 ti:IsPair h TI (.ref i1) (.ref i2)
 it1:h.IsListIter i1 l1 i
 it2:h.IsListIter i2 l2 i
 a1:h.IsList l1 xs
 a2:h.IsList l2 ys
 ls:h.get? S=some {cls:=.type "list",dict:=none,data:=.seq acc c,slots:=#[]}
 sz:acc.size=i
 tl:TO<h.objs.size
 nd:acc.toList.Nodup
 ts:∀(j:Nat) (v:Value),acc[j]?=some v->∃(T:Addr) (x y:Value),v=Value.ref T/\xs[j]?=some x/\ys[j]?=some y/\IsPair h T x y/\T∉[z,TO,i1,i2,S]/\base<=T
variable {R:PySem.Result->Shared->Prop}
theorem WK{z TI TO i1 i2 l1 l2 S:Addr}{xs ys:Array Value}{n base:Nat}(hh:A.handled=none)(D:ZipApart z TI TO i1 i2 l1 l2)(hS:S∉[z,TI,TO,i1,i2,l1,l2])(res:Value)(hn:n<=sizeLine)(hn1:n<=xs.size)(hn2:n<=ys.size)(hne:n=xs.size\/n=ys.size):
  ∀(k i:Nat) (s:Shared) (acc:Array Value) (c:Nat),n - i=k->i<=n->ZS base s.heap z TI TO i1 i2 l1 l2 S xs ys acc c i->base<=s.heap.objs.size ->
  (∀(h':Heap) (acc':Array Value) (c':Nat),(∀b o,b∉[z,TO,i1,i2,S]->s.heap.get? b=some o->h'.get? b=some o)->h'.get? S=some {cls:=.type "list",dict:=none,data:=.seq acc' c',slots:=#[]}->acc'.size=n->acc'.toList.Nodup ->
   (∀(j:Nat) (v:Value),acc'[j]?=some v->∃(T:Addr) (x y:Value),v=Value.ref T/\xs[j]?=some x/\ys[j]?=some y/\IsPair h' T x y/\T∉[z,TO,i1,i2,S]/\base<=T)->R (.ok (.ret res)) {s with heap:=h'}) ->
  codeAny (model prog w) A (.builtin "list.extend.loop" ⟨[.ref S,.ref z,res],[]⟩) R s:=by
 simp only[zk,List.not_mem_nil,or_false,not_or] at hS;obtain⟨S1,S2,S3,S4,S5,S6,S7⟩:=hS
 have nin:∀b:Addr,b∉[z,TO,i1,i2,S]↔b≠z/\b≠TO/\b≠i1/\b≠i2/\b≠S:=λb=>by simp only[zk,List.not_mem_nil,or_false,not_or]
 intro k
 induction k with
 |zero =>
  intro i s acc c hk hi st hb hR
  have hin:i=n:=by omega
  subst hin;refine ji F.entry_extend_loop ?_;rw[Around.under_plainId F.plain_extend_loop _];show wpAny _ A.in1 (pyNext (.ref z) >>= _) _ _ s
  have hend:xs[i]?=none\/ys[i]?=none:=by
   rcases hne with e | e
   ·left;rw[Array.getElem?_eq_none_iff];omega
   ·right;rw[Array.getElem?_eq_none_iff];omega
  have fin:∀h',(∀b o,b≠z->b≠TO->b≠i1->b≠i2->s.heap.get? b=some o->h'.get? b=some o)->R (.ok (.ret res)) {s with heap:=h'}:=λh' kp =>
   hR h' acc c (λb o hb e=>by obtain⟨b1,b2,b3,b4,b5⟩:=(nin b).mp hb;exact kp b o b1 b2 b3 b4 e) (kp S _ S1 S3 S4 S5 st.ls) st.sz st.nd λj v hv=>by
    obtain⟨T,x,y,e1,e2,e3,e4,e5,e6⟩:=st.ts j v hv;obtain⟨b1,b2,b3,b4,b5⟩:=(nin T).mp e5;exact⟨T,x,y,e1,e2,e3,kp T _ b1 b2 b3 b4 e4,e5,e6⟩
  rcases st.zi with⟨hz,a,b,hTO⟩ | ⟨T,b,o,hz,hT,_⟩
  ·exact za (wpAny_pyNext_zip_end hh D hz st.ti hTO st.it1 st.it2 st.a1 st.a2 hend λh' kp=>zb (fin h' kp))
  ·exact za (WD hh D hz hT st.ti st.it1 st.it2 st.a1 st.a2 hend λh' kp=>zb (fin h' λb o b1 b2 b3 b4 e=>kp b o b1 b3 b4 e))
 |succ k ih =>
  intro i s acc c hk hi st hb hR
  have hlt:i<n:=by omega
  have hx:xs[i]?=some (xs[i]'(by omega)):=Array.getElem?_eq_getElem _;have hy:ys[i]?=some (ys[i]'(by omega)):=Array.getElem?_eq_getElem _
  generalize xs[i]'(by omega)=x at hx
  generalize ys[i]'(by omega)=y at hy
  refine ji F.entry_extend_loop ?_;rw[Around.under_plainId F.plain_extend_loop _];show wpAny _ A.in1 (pyNext (.ref z) >>= _) _ _ s
  have ltz:z<s.heap.objs.size:=by rcases st.zi with⟨hz,_⟩ | ⟨T,b,o,hz,_⟩<;>exact ze hz
  have ltS:S<s.heap.objs.size:=ze st.ls
  have lt1:i1<s.heap.objs.size:=by obtain⟨_,e,_⟩:=st.it1;exact ze e
  have lt2:i2<s.heap.objs.size:=by obtain⟨_,e,_⟩:=st.it2;exact ze e
  have nxt:wpAny (model prog w) A.in1 (pyNext (.ref z)) (λr s1=>∃h',r=some (.ref s.heap.objs.size)/\s1 = {s with heap:=h'}/\(∃T b o,iR h' z TI TO T b/\h'.get? T=some o/\(T=s.heap.objs.size\/T∉[z,TO,i1,i2,S]))/\h'.IsListIter i1 l1 (i+1)/\h'.IsListIter i2 l2 (i+1)/\IsPair h' s.heap.objs.size x y/\h'.objs.size=s.heap.objs.size+1 /\
    ∀c o,c≠z->c≠TO->c≠i1->c≠i2->s.heap.get? c=some o->h'.get? c=some o) (λ_ _=>False) s:=by
   rcases st.zi with⟨hz,a,b,hTO⟩ | ⟨T,b,o,hz,hT,hTn⟩
   ·exact wpAny_pyNext_zip_item D hz st.ti hTO st.it1 st.it2 st.a1 st.a2 hx hy λh' q1 q2 q3 q4 q5 q6 q7=>⟨h',rfl,rfl,⟨_,false,_,q1,q5,.inl rfl⟩,q3,q4,q5,q6,q7⟩
   ·obtain⟨n1,n2,n3,n4,n5⟩:=(nin T).mp hTn
    exact Wz D hz hT st.ti st.it1 st.it2 st.a1 st.a2 hx hy λh' q1 q3 q4 q5 q6 q7=>⟨h',rfl,rfl,⟨T,true,o,q1,q7 T o n1 n3 n4 hT,.inr hTn⟩,q3,q4,q5,q6,λc o c1 c2 c3 c4 e=>q7 c o c1 c3 c4 e⟩
  have ltO:TO≠s.heap.objs.size:=zu st.tl;have hnew:s.heap.objs.size∉[z,TO,i1,i2,S]:=(nin _).mpr ⟨Nat.ne_of_gt ltz,ltO.symm,Nat.ne_of_gt lt1,Nat.ne_of_gt lt2,Nat.ne_of_gt ltS⟩;refine za (zL nxt ?_ λ_ _ x=>x.elim);rintro r s1 ⟨h',rfl,rfl,⟨T,b,o,hz',hT',hTn'⟩,j1,j2,hp,hsz,kp⟩;have hS':=kp S _ S1 S3 S4 S5 st.ls
  have oth:∀c o,c≠S->h'.get? c=some o->(h'.update S (Obj.mapSeq (·.push (Value.ref s.heap.objs.size)))).get? c=some o:=λc o hc e=>(jk _ _ (Ne.symm hc)).trans e
  have hTn2:T∉[z,TO,i1,i2,S]:=by
   rcases hTn' with e | e
   ·rw[e];exact hnew
   ·exact e
  have hnd:(acc.push (Value.ref s.heap.objs.size)).toList.Nodup:=by
   rw[Array.toList_push,jo];refine⟨st.nd,by simp,λv hv w hw=>?_⟩;rw[zn.mp hw];rintro rfl;obtain⟨j,hj⟩:=List.mem_iff_getElem?.mp hv;obtain⟨T2,x2,y2,f1,_,_,f4,_⟩:=st.ts j _ (by simpa using hj);cases f1;exact zR _ (ze f4)
  show wpAny _ A.in1 (updateSeq S (·.push (.ref s.heap.objs.size)) >>= _) _ _ _;refine za ?_
  refine je hS' rfl (zb ⟨plainId_quiet F.plain_extend_loop _,ih (i+1) _ (acc.push (.ref s.heap.objs.size)) _ (by omega) hlt ⟨.inr ⟨T,b,o,oth z _ (Ne.symm S1) hz',oth T _ ((nin T).mp hTn2).2.2.2.2 hT',hTn2⟩,
   oth TI _ (Ne.symm S2) (kp TI _ D.TIz D.TITO D.TIi1 D.TIi2 st.ti),j1.at λo e=>oth i1 o (Ne.symm S4) e,j2.at λo e=>oth i2 o (Ne.symm S5) e,
   st.a1.at λo e=>oth l1 o (Ne.symm S6) (kp l1 o D.l1z D.l1TO D.l1i1 D.l1i2 e),st.a2.at λo e=>oth l2 o (Ne.symm S7) (kp l2 o D.l2z D.l2TO D.l2i1 D.l2i2 e),Heap.get?_update_self _ hS' rfl,by rw[Array.size_push,st.sz],by rw[Heap.size_update,hsz];exact jg st.tl,hnd,λj v hv=>?_⟩ ?_ λh2 acc' c' kp2 e1 e2 en e3=>?_⟩)
   (by rw[st.sz];omega) (by show(acc.push _).size<=sizeLine+1;rw[Array.size_push,st.sz];omega)
  ·rw[Array.getElem?_push] at hv;split at hv
   ·rename_i e;rw[st.sz] at e;cases hv;subst e;exact⟨_,x,y,rfl,hx,hy,oth _ _ (Nat.ne_of_gt ltS) hp,hnew,hb⟩
   ·obtain⟨T2,x2,y2,f1,f2,f3,f4,f5,f6⟩:=st.ts j v hv;obtain⟨n1,n2,n3,n4,n5⟩:=(nin T2).mp f5;exact⟨T2,x2,y2,f1,f2,f3,oth T2 _ n5 (kp T2 _ n1 n2 n3 n4 f4),f5,f6⟩
  ·rw[Heap.size_update,hsz];omega
  ·refine hR h2 acc' c' (λb o hb' e=>kp2 b o hb' ?_) e1 e2 en e3;obtain⟨n1,n2,n3,n4,n5⟩:=(nin b).mp hb';exact oth b o n5 (kp b o n1 n2 n3 n4 e)
theorem WL:typeLookup (.type "zip") "__len__" = pure none:=by rw[typeLookup_type,builtinLookup_eq_fast];kernel_rfl
theorem WM:typeLookup (.type "zip") "__length_hint__" = pure none:=by rw[typeLookup_type,builtinLookup_eq_fast];kernel_rfl
theorem WN{z TI TO i1 i2 l1 l2 S:Addr}{xs ys:Array Value}{n base:Nat}(hh:A.handled=none)(D:ZipApart z TI TO i1 i2 l1 l2)(hSn:S∉[z,TI,TO,i1,i2,l1,l2])(res:Value)(hn:n<=sizeLine)(hn1:n<=xs.size)(hn2:n<=ys.size)(hne:n=xs.size\/n=ys.size)(c₀:Nat)(hb:base<=s.heap.objs.size)
  (hz:IsZip s.heap z TI TO .none) (st:ZS base s.heap z TI TO i1 i2 l1 l2 S xs ys #[] c₀ 0)
  (hR:∀(h':Heap) (acc':Array Value) (c':Nat),(∀b o,b∉[z,TO,i1,i2,S]->s.heap.get? b=some o->h'.get? b=some o)->h'.get? S=some {cls:=.type "list",dict:=none,data:=.seq acc' c',slots:=#[]}->acc'.size=n->acc'.toList.Nodup ->
   (∀(j:Nat) (v:Value),acc'[j]?=some v->∃(T:Addr) (x y:Value),v=Value.ref T/\xs[j]?=some x/\ys[j]?=some y/\IsPair h' T x y/\T∉[z,TO,i1,i2,S]/\base<=T)->R (.ok (.ret res)) {s with heap:=h'}):
  wpAny (model prog w) A.in1 (Builtin.List.listExtendWith (.ref S) (.ref z) res)
   (λfin s'=>match fin with | .done f=>R (.ok f) s' | .again c'=>c'.quiet=true/\codeAny (model prog w) A c' R s') (λe s'=>R (.error e) s') s:=by
 have hSn':=hSn;simp only[zk,List.not_mem_nil,or_false,not_or] at hSn';obtain⟨S1,S2,S3,S4,S5,S6,S7⟩:=hSn';have hTy:s.TypeIs (.ref z) "zip":=⟨_,hz,rfl⟩;unfold Builtin.List.listExtendWith;refine za (wpAny_typeOf hTy ?_)
 have h1:Builtin.List.listSameRef (.ref S) (.ref z)=false:=by simp[Builtin.List.listSameRef,S1]
 have h2:(Value.type "zip" == Value.type "list")=false:=by decide
 have h3:(Value.type "zip" == Value.type "tuple")=false:=by decide
 simp only[h1,h2,h3,Bool.or_false,Bool.false_eq_true,if_false];refine za (wpAny_pyIter_zip hz ?_);refine za (zT ?_);unfold Builtin.List.listLengthHint;refine za (wpAny_specialOf hTy WL ?_);show wpAny _ A.in1 (specialOf (Value.ref z) (Str.ofString "__length_hint__") >>= _) _ _ _;refine za (wpAny_specialOf hTy WM ?_);refine zb ?_
 show wpAny _ A.in1 (rule "list.extend.makes-room" >>= λ_=>Builtin.List.listTouch (.ref S) >>= λ_ =>
  again (.builtin "list.extend.loop" ⟨[.ref S,.ref z,res],[]⟩)) _ _ _
 refine za (jd ?_);refine za ?_;show wpAny _ A.in1 (updateSeq S (·.push .none) >>= λ_=>updateSeq S (·.pop)) _ _ _;have hS:=st.ls;refine za (je hS rfl ?_);have hS₂:=Heap.get?_update_self (Obj.mapSeq (·.push Value.none)) hS rfl;refine je (hz:=by seq_fits) hS₂ rfl ?_;have hS₃:=Heap.get?_update_self (Obj.mapSeq (·.pop)) hS₂ rfl;have oth:∀b o,b≠S->s.heap.get? b=some o->((s.heap.update S (Obj.mapSeq (·.push Value.none))).update S (Obj.mapSeq (·.pop))).get? b=some o :=
  λb o hb e=>(jk _ _ (Ne.symm hb)).trans ((jk _ _ (Ne.symm hb)).trans e)
 obtain⟨a,b',hTO⟩:∃a b,IsPair s.heap TO a b:=by
  rcases st.zi with⟨_,x⟩ | ⟨T,b,o,hz',_⟩
  ·exact x
  ·have q:=Eq.trans (Eq.symm hz) hz';simp[rawInt] at q
 refine zb ⟨plainId_quiet F.plain_extend_loop _,WK (base:=base) hh D hSn res hn hn1 hn2 hne n 0 _ _ _ rfl (Nat.zero_le _) ⟨.inl ⟨oth z _ (Ne.symm S1) hz,a,b',oth TO _ (Ne.symm S3) hTO⟩,oth TI _ (Ne.symm S2) st.ti,st.it1.at λo e=>oth i1 o (Ne.symm S4) e,st.it2.at λo e=>oth i2 o (Ne.symm S5) e,
  st.a1.at λo e=>oth l1 o (Ne.symm S6) e,st.a2.at λo e=>oth l2 o (Ne.symm S7) e,hS₃,rfl,by rw[Heap.size_update,Heap.size_update];exact st.tl,List.nodup_nil,λj v hv=>by simp at hv⟩ (by rw[Heap.size_update,Heap.size_update];exact hb) λh' acc' c' kp e1 e2 en e3=>?_⟩
 exact hR h' acc' c' (λb o hb' e=>kp b o hb' (oth b o (λz=>hb' (by simp[z])) e)) e1 e2 en e3
theorem WQ{z TI TO i1 i2 l1 l2:Addr}{xs ys:Array Value}{n:Nat}{Q:Value->Shared->Prop}(hh:A.handled=none)(D:ZipApart z TI TO i1 i2 l1 l2)(hn:n<=sizeLine)(hn1:n<=xs.size)(hn2:n<=ys.size)(hne:n=xs.size\/n=ys.size)
  (hz:IsZip s.heap z TI TO .none) (hTI:IsPair s.heap TI (.ref i1) (.ref i2)) {a b:Value} (hTO:IsPair s.heap TO a b) (h1:s.heap.IsListIter i1 l1 0) (h2:s.heap.IsListIter i2 l2 0) (hl1:s.heap.IsList l1 xs) (hl2:s.heap.IsList l2 ys)
  (hQ:∀(h':Heap) (acc':Array Value) (c':Nat),(∀b o,b∉[z,TO,i1,i2]->s.heap.get? b=some o->h'.get? b=some o)->h'.get? s.heap.objs.size=some {cls:=.type "list",dict:=none,data:=.seq acc' c',slots:=#[]}->acc'.size=n->acc'.toList.Nodup ->
   (∀(j:Nat) (v:Value),acc'[j]?=some v->∃(T:Addr) (x y:Value),v=Value.ref T/\xs[j]?=some x/\ys[j]?=some y/\IsPair h' T x y/\T≠s.heap.objs.size/\s.heap.objs.size<=T)->Q (.ref s.heap.objs.size) {s with heap:=h'}):
  wpAny (model prog w) A (call (.type "list") [.ref z]) Q E s:=by
 have ltz:z<s.heap.objs.size:=ze hz;have ltI:TI<s.heap.objs.size:=ze hTI;have ltO:TO<s.heap.objs.size:=ze hTO
 have lt1:i1<s.heap.objs.size:=by obtain⟨_,e,_⟩:=h1;exact ze e
 have lt2:i2<s.heap.objs.size:=by obtain⟨_,e,_⟩:=h2;exact ze e
 have la1:l1<s.heap.objs.size:=by obtain⟨_,e,_⟩:=hl1;exact ze e
 have la2:l2<s.heap.objs.size:=by obtain⟨_,e,_⟩:=hl2;exact ze e
 refine callType_codes (Q₁:=λobj s₁=>obj=.ref s.heap.objs.size/\s₁ = {s with heap:=s.heap.push {cls:=.type "list",data:=.seq #[]}}) F.called_list (F.typeCall_list_1 _) F.entry_list_init
  (code_list_new _ ⟨rfl,rfl⟩) λobj s₁ h₁=>?_
 obtain⟨rfl,rfl⟩:=h₁;have hS:(s.heap.push {cls:=.type "list",data:=.seq #[]}).get? s.heap.objs.size=some {cls:=.type "list",data:=.seq #[]}:=zy _ rfl;refine⟨⟨_,hS,rfl⟩,F.args_list_init_2 _ _,?_⟩;show wpAny _ _ (do let old <-Builtin.List.listItems (.ref s.heap.objs.size);Builtin.List.listUpdate (.ref s.heap.objs.size) (λ_=>#[]);letGo old.toList.reverse;Builtin.List.listExtendWith (.ref s.heap.objs.size) (.ref z) .none) _ _ _;refine za ?_;unfold Builtin.List.listItems;refine za (wpAny_seqItems hS rfl (zb ?_));show wpAny _ _ (updateSeq s.heap.objs.size (λ_=>#[]) >>= λ_=>letGo (#[]:Array Value).toList.reverse >>= λ_=>Builtin.List.listExtendWith (.ref s.heap.objs.size) (.ref z) .none) _ _ _
 refine za (je hS rfl ?_);have hS₂:=Heap.get?_update_self (Obj.mapSeq (λ_=>(#[]:Array Value))) hS rfl;refine za (jm ?_);have oth:∀b o,s.heap.get? b=some o->((s.heap.push {cls:=.type "list",data:=.seq #[]}).update s.heap.objs.size (Obj.mapSeq (λ_=>(#[]:Array Value)))).get? b=some o :=
  λb o e=>(jk _ _ (Nat.ne_of_gt (ze e))).trans (zm _ e)
 have hsz:((s.heap.push {cls:=.type "list",data:=.seq #[]}).update s.heap.objs.size (Obj.mapSeq (λ_=>(#[]:Array Value)))).objs.size=s.heap.objs.size+1:=by rw[Heap.size_update,Heap.size_push]
 refine WN (base:=s.heap.objs.size) (by exact hh) D (by simp only[zk,List.not_mem_nil,or_false,not_or];exact⟨Nat.ne_of_gt ltz,Nat.ne_of_gt ltI,Nat.ne_of_gt ltO,Nat.ne_of_gt lt1,Nat.ne_of_gt lt2,Nat.ne_of_gt la1,Nat.ne_of_gt la2⟩) .none hn hn1 hn2 hne _ (by show _<=((s.heap.push _).update _ _).objs.size;rw[hsz];exact Nat.le_succ _) (oth _ _ hz)
  ⟨.inl ⟨oth _ _ hz,a,b,oth _ _ hTO⟩,oth _ _ hTI,h1.at λo e=>oth _ o e,h2.at λo e=>oth _ o e,hl1.at λo e=>oth _ o e,hl2.at λo e=>oth _ o e,hS₂,rfl,by show _<((s.heap.push _).update _ _).objs.size;rw[hsz];exact jg ltO,List.nodup_nil,λj v hv=>by simp at hv⟩ λh' acc' c' kp e1 e2 en e3=>?_
 refine⟨rfl,hQ h' acc' c' (λb o hb e=>kp b o (λhm=>?_) (oth b o e)) e1 e2 en λj v hv=>?_⟩
 ·simp only[zk,List.not_mem_nil,or_false,not_or] at hb hm
  have:=ze e
  rcases hm with hm | hm | hm | hm | hm
  ·exact hb.1 hm
  ·exact hb.2.1 hm
  ·exact hb.2.2.1 hm
  ·exact hb.2.2.2 hm
  ·exact absurd this (by rw[hm];exact zR _)
 ·obtain⟨T,x,y,f1,f2,f3,f4,f5,f6⟩:=e3 j v hv;exact⟨T,x,y,f1,f2,f3,f4,λe=>f5 (by simp[e]),f6⟩
end
theorem Un.more{fs ex:List Addr}{H H1:Hp}{h h':Heap}{a:Addr}{o:HO}(u:Un fs ex H H1 h h')(hp:h.objs.size<=a)(hn:H1 a=none):Un fs ex H (upd H1 a o) h h' where
 keep:=u.keep
 slot:=u.slot
 free:=λb ob q n hx=>by rw[aO (zu (zF (ze q) hp))];exact u.free b ob q n hx
 there:=u.there
 tups:=λb xs q=>by have z:=u.tups b xs q;rw[aO (cH z hn)];exact z
 frzs:=λb ob v q=>by have z:=u.frzs b ob v q;rw[aO (cH z hn)];exact z
 tbls:=λb ps q=>by obtain⟨m,z⟩:=u.tbls b ps q;exact⟨m,by rw[aO (cH z hn)];exact z⟩
theorem HOk.more{P:Program}{w:World}{H:Hp}{h:Heap}{a:Addr}{o:HO}(x:HOk P w H h)(hn:H a=none)(new:cg P w (upd H a o) h a o):HOk P w (upd H a o) h:=λb u e=>by
 by_cases hb:b=a
 ·subst hb;rw[bM] at e;cases e;exact new
 ·rw[aO hb] at e
  exact(x b u e).stay (λc v _ q=>q) (λc q=>by rw[aO (cH q hn)];exact q) λc xs q=>by rw[aO (cH q hn)];exact q
def ux:Hp->List (V×V)->List V->Hp->Prop
 |H,[],ts,H2=>ts=[]/\H2=H
 |H,p::r,ts,H2=>∃T ts',ts=.ref T::ts'/\H T=none/\ux (upd H T (.tup [p.1,p.2])) r ts' H2
theorem Je{P:Program}{w:World}{fs:List Addr}{H0:Hp}{h h':Heap}:∀(ps:List (V×V)) (vs:List Value) (Hk:Hp),Un fs [] H0 Hk h h'->HOk P w Hk h'->vs.Nodup ->
  Paired (λ(p:V×V) (v:Value)=>∃T x y,v=Value.ref T/\RelV p.1 x/\RelV p.2 y/\IsPair h' T x y/\h.objs.size<=T/\Hk T=none) ps vs ->
  ∃ts H2,ux Hk ps ts H2/\aN ts vs/\Un fs [] H0 H2 h h'/\HOk P w H2 h'/\∀b,Value.ref b∉vs->H2 b=Hk b
 | [],vs,Hk,u,x,_,hp=>by
  cases hp;exact⟨[],Hk,⟨rfl,rfl⟩,.nil,u,x,λ_ _=>rfl⟩
 |p::ps,vs,Hk,u,x,hnd,hp=>by
  cases hp with
  |cons h1 h2 =>
   obtain⟨T,u1,u2,rfl,r1,r2,hT,hle,hn⟩:=h1;rw[List.nodup_cons] at hnd;have u':Un fs [] H0 (upd Hk T (.tup [p.1,p.2])) h h':=u.more hle hn;have x':HOk P w (upd Hk T (.tup [p.1,p.2])) h':=x.more hn ⟨by show 2<=sizeLine;decide,[u1,u2],.cons r1 (.cons r2 .nil),⟨_,hT,rfl,_,rfl⟩⟩;have go:∀(ps:List (V×V)) (ws:List Value),Value.ref T∉ws->Paired (λ(p:V×V) (v:Value)=>∃T x y,v=Value.ref T/\RelV p.1 x/\RelV p.2 y/\IsPair h' T x y/\h.objs.size<=T/\Hk T=none) ps ws ->
     Paired (λ(q:V×V) (v:Value)=>∃T' x y,v=Value.ref T'/\RelV q.1 x/\RelV q.2 y/\IsPair h' T' x y/\h.objs.size<=T'/\upd Hk T (.tup [p.1,p.2]) T'=none) ps ws:=λps ws hw hq=>by
    induction hq with
    |nil=>exact .nil
    |cons a b ih =>
     rw[zk,not_or] at hw;obtain⟨T',x,y,e1,e2,e3,e4,e5,e6⟩:=a;refine .cons ⟨T',x,y,e1,e2,e3,e4,e5,?_⟩ (ih hw.2);rw[aO (λz=>hw.1 (by rw[e1,z]))];exact e6
   obtain⟨ts,H2,g1,g2,g3,g4,g5⟩:=Je ps _ _ u' x' hnd.2 (go _ _ hnd.1 h2);refine⟨.ref T::ts,H2,⟨T,ts,rfl,hn,g1⟩,.cons rfl g2,g3,g4,λb hb=>?_⟩;rw[zk,not_or] at hb;rw[g5 b hb.2,aO (λz=>hb.1 (by rw[z]))]
theorem Jf{α β:Type}{R:α->β->Prop}:∀(ps:List α) (vs:List β),ps.length=vs.length->(∀(j:Nat) p v,ps[j]?=some p->vs[j]?=some v->R p v)->Paired R ps vs
 | [],[],_,_=>.nil
 | [],_::_,h,_=>by cases h
 | _::_,[],h,_=>by cases h
 |p::ps,v::vs,h,f=>.cons (f 0 p v rfl rfl) (Jf ps vs (Nat.succ.inj h) λj p v a b=>f (j+1) p v a b)
section
variable {X:Cx}
def tLZ(K:Frag)(ta:TA):TE:=λσ H Q=>ta σ H λvs H1=>∃a b xs ys,vs=[.ref a,.ref b]/\SqL K H1 a xs/\SqL K H1 b ys/\∀ts H2,ux H1 (xs.zip ys) ts H2->∀l,H2 l=none->Q (.ref l) (upd H2 l (.lst ts))
theorem WR{a b:Expr}{ta:TA}{p p' pos pos':Pos}(hc:X.calm=true)(hgl:Gl X "list")(hml:X.mg "list" = none)(hgz:Gl X "zip")(hmz:X.mg "zip" = none)(ha:PA X [a,b] ta)
  (hs:starEach [a,b] X.env=(false,eval a X.env)::starEach [b] X.env:=by exact dq rfl) (hpl:(backTo pos' (starEach [b] X.env)).any (·.1)=false:=by exact fJ rfl)
  (he:starEach [.Call (.Name "zip" p') [a,b] [] pos'] X.env=(false,eval (.Call (.Name "zip" p') [a,b] [] pos') X.env)::starEach [] X.env:=by exact dq rfl):
  PE X (.Call (.Name "list" p) [.Call (.Name "zip" p') [a,b] [] pos'] [] pos) (tLZ X.K ta):=by
 intro pins s σ H Q I h;refine Call_ (jx I hgl hml qT (PyProof.Rows.callWith_type1 ?_ he rfl));rw[he];show wpAny _ _ (spliced ((false,eval (.Call (.Name "zip" p') [a,b] [] pos') X.env)::backTo pos (starEach [] X.env))) _ _ s;refine Calls.spliced_cons ?_;refine Call_ (jx I hgz hmz boot_zip (PyProof.Rows.callWith_type1 (thn (ha pos' pins s σ H _ I h) λus s1 ⟨vs,H1,I1,r1,q1⟩=>?_) hs hpl));obtain⟨l1,l2,xs,ys,e,hq1,hq2,q⟩:=q1;subst e;obtain⟨u1,u2,rfl,ru1,ru2⟩:=vals2 r1;cases ru1;cases ru2;obtain⟨its1,rv1,pl1,hz1⟩:=I1.list hq1;obtain⟨its2,rv2,pl2,hz2⟩:=I1.list hq2
 have a1:l1<s1.heap.objs.size:=by obtain⟨_,e,_⟩:=pl1.isList;exact ze e
 have a2:l2<s1.heap.objs.size:=by obtain⟨_,e,_⟩:=pl2.isList;exact ze e
 have len1:=rv1.length;have len2:=rv2.length
 refine call_zip_2 pl1.isList pl2.isList λh' hz hTI hTO hit1 hit2 hsz hk=>?_
 refine Calls.spliced_nil ?_;refine WQ (s:={s1 with heap:=h'}) (n:=min its1.length its2.length) (I.ok.hd hc) (zipApart_new a1 a2) (by omega) (by rw[zq];omega) (by rw[zq];omega) (by rw[zq,zq];omega) hz hTI hTO hit1 hit2
  (pl1.isList.at λo e=>hk l1 o e) (pl2.isList.at λo e=>hk l2 o e) λh2 acc c kp e1 e2 en e3=>?_
 have k:∀b o,s1.heap.get? b=some o->h2.get? b=some o:=λb o e=>kp b o (λhm=>by
  have:=ze e
  simp only[zk,List.not_mem_nil,or_false] at hm
  rcases hm with rfl | rfl | rfl | rfl
  ·exact Nat.not_lt.mpr (jp _ _) this
  ·exact Nat.not_lt.mpr (jp _ _) this
  ·exact zR _ this
  ·exact Nat.not_lt.mpr (jp _ _) this) (hk b o e)
 have hlen:acc.toList.length=(xs.zip ys).length:=by rw[Array.length_toList,e2,List.length_zip];omega
 have hsz':({s1 with heap:=h'}:Shared).heap.objs.size=s1.heap.objs.size+5:=hsz
 have hp:Paired (λ(p:V×V) (v:Value)=>∃T x y,v=Value.ref T/\RelV p.1 x/\RelV p.2 y/\IsPair h2 T x y/\s1.heap.objs.size<=T/\H1 T=none) (xs.zip ys) acc.toList:=Jf _ _ hlen.symm λj p v hpj hvj=>by
  obtain⟨T,x,y,f1,f2,f3,f4,f5,f6⟩:=e3 j v (by simpa using hvj);rw[List.getElem?_zip_eq_some] at hpj;obtain⟨w1,w1',w2⟩:=rv1.get hpj.1;obtain⟨w3,w3',w4⟩:=rv2.get hpj.2
  have f2':its1[j]?=some x:=by simpa using f2
  have f3':its2[j]?=some y:=by simpa using f3
  rw[f2'] at w1';rw[f3'] at w3';cases w1';cases w3'
  have hle:s1.heap.objs.size<=T:=by omega
  exact⟨T,x,y,f1,w2,w4,f4,hle,I1.hok.fresh hle⟩
 obtain⟨ts,H2,g1,g2,g3,g4,g5⟩:=Je (P:=X.prog) (w:=X.w) (fs:=X.fs) (h:=s1.heap) (xs.zip ys) acc.toList H1 (Un.kept k) (I1.hok.kept k) en hp
 have hSn:H2 ({s1 with heap:=h'}:Shared).heap.objs.size=none:=by
  rw[g5 _ λhm=>?_]
  ·exact I1.hok.fresh (by omega)
  ·obtain⟨j,hj⟩:=List.mem_iff_getElem?.mp hm;obtain⟨T,x,y,f1,_,_,_,f5,_⟩:=e3 j _ (by simpa using hj);cases f1;exact f5 rfl
 have hts:ts.length<=sizeLine:=by
  have q1:=g2.length;have q2:acc.toList.length=acc.size:=Array.length_toList;omega
 have hok:=g4.more (o:=.lst ts) hSn ⟨hts,acc.toList,c,g2,by rw[Array.toArray_toList];exact e1⟩;exact⟨.ref _,upd H2 _ (.lst ts),I1.un (t':=s1.toks) (g3.more (o:=.lst ts) (by omega) hSn) hok,rfl,q ts H2 g1 _ hSn⟩
end
theorem Jg{K:Frag}{mg:Str->Option Value}{O:aq}{as:List Addr}:∀(ds es:List D) (xs ys:List V) (H F:Hp) (ts:List V) (H2:Hp),RlO K mg O H F as->Rps K F as xs ds->Rps K F as ys es->ux H (xs.zip ys) ts H2->∃F2,Gr H F as H2 F2 as/\RlO K mg O H2 F2 as/\Rps K F2 as ts (j7 ds es)
 | [],es,xs,ys,H,F,ts,H2,r,h1,h2,g=>by
  rw[h1.un0] at g;obtain⟨rfl,rfl⟩:=g;exact⟨F,Gr.refl,r,Rps.nil⟩
 |d::ds,[],xs,ys,H,F,ts,H2,r,h1,h2,g=>by
  rw[h2.un0,List.zip_nil_right] at g;obtain⟨rfl,rfl⟩:=g;exact⟨F,Gr.refl,r,Rps.nil⟩
 |d::ds,e::es,xs,ys,H,F,ts,H2,r,h1,h2,g=>by
  obtain⟨x,xr,rfl,h3,h4⟩:=h1.un;obtain⟨y,yr,rfl,h5,h6⟩:=h2.un;rw[List.zip_cons_cons] at g;obtain⟨T,ts',rfl,hp,g⟩:=g;have hF:=r.frF hp
  have ff:Same F (upd F T (.tup [x,y])):=λb u q=>by rw[aO (cH q hF)];exact q
  have hs:Rps K F as [x,y] [d,e]:=Rps.cons h3 (Rps.cons h5 Rps.nil);have G1:Gr H F as (upd H T (.tup [x,y])) (upd F T (.tup [x,y])) as:=(Gr.lay hp).frz hp hF;have r1:RlO K mg O (upd H T (.tup [x,y])) (upd F T (.tup [x,y])) as:=(r.lay hp).frz bM hF (λz=>r.all z hp) rfl;have rT:Rp K (upd F T (.tup [x,y])) as (.ref T) (.tup [d,e]):=Rp.mkT (.inl bM) (Rps.mono ff (λ_ _ z=>z) _ hs);obtain⟨F2,G2,r2,q2⟩:=Jg ds es xr yr _ _ ts' H2 r1 (h4.gr G1) (h6.gr G1) g;exact⟨F2,G1.trans G2,r2,Rps.cons (rT.gr G2) q2⟩
def gLZ:List D->Option D
 | [.lst ds,.lst es]=>some (.lst (j7 ds es))
 | _=>none
section
variable {X:Cx}{md:List Md}{P:Pt}
theorem WT{a b:Expr}{ms:List Md}{ma:M (List D)}{p p' pos pos':Pos}(hc:X.calm=true)(hml:X.mg "list" = none)(hmz:X.mg "zip" = none)(ha:AE X md P ms [a,b] ma)(hgl:Gl X "list":=by rfl)(hgz:Gl X "zip":=by rfl)
  (hs:starEach [a,b] X.env=(false,eval a X.env)::starEach [b] X.env:=by exact dq rfl) (hpl:(backTo pos' (starEach [b] X.env)).any (·.1)=false:=by exact fJ rfl)
  (he:starEach [.Call (.Name "zip" p') [a,b] [] pos'] X.env=(false,eval (.Call (.Name "zip" p') [a,b] [] pos') X.env)::starEach [] X.env:=by exact dq rfl):
  OE X md P (.Call (.Name "list" p) [.Call (.Name "zip" p') [a,b] [] pos'] [] pos) (aV gLZ ma):=(WR hc hgl hml hgz hmz ha hs hpl he).imp λσ H Q q=>by
 have q':tCB (rC X.K X.mg gLZ) (tMA X.K X.mg md P ms ma) σ H Q:=uh q;obtain⟨ρ,O,F,as,ds,O',r,s,e1,k⟩:=q';refine⟨ρ,O,F,as,ds,O',r,s,e1,λvs H1 F1 as1 g1 r1 hv=>?_⟩;obtain⟨O2,F2,as2,es,d,r2,hvs,e,k2⟩:=k vs H1 F1 as1 g1 r1 hv;unfold gLZ at e;split at e
 ·rename_i xs ys;cases e;obtain⟨v,u,rfl,hv1,hv2⟩:=hvs.two;obtain⟨a1,x1,rfl,q1,q2⟩:=hv1.list r2.fh;obtain⟨a2,x2,rfl,q3,q4⟩:=hv2.list r2.fh;refine⟨a1,a2,x1,x2,rfl,q1.sq,q3.sq,λts H2 gr l hl=>?_⟩;obtain⟨F3,G3,r3,p3⟩:=Jg xs ys x1 x2 H1 F2 ts H2 r2 q2 q4 gr;exact k2 _ _ F3 (G3.trans (Gr.lay hl)) (r3.lay hl) (.inr ⟨l,ts,_,rfl,rfl,bM,r3.frF hl,λz=>r3.all z hl,G3.dm l hl,p3⟩)
 ·cases e
end
section
end
end L2
namespace L2
open PySem PySem.Spec PyProof.Rows PySem.W
section
variable {X:Cx}{md:List Md}{P:Pt}
end
end L2
namespace L2
open PySem PySem.Spec PyProof.Rows
section
variable {X:Cx}{md:List Md}{P:Pt}{R:RR}
variable {elts:List Expr}{x1:Nat}{tpos:Pos}{a elt:Expr}{ifs:List Expr}{scope:Scope}{p pos pe:Pos}{m:M D}{g:MG}{t:M Bool}{e:M D}
end
def Itv(K:Frag)(a:Addr)(n:Nat):It :=
 ⟨λi H=>i<n/\∃xs x,SqL K H a xs/\xs[n - 1 - i]?=some x,λi H x H'=>H'=H/\∀xs,SqL K H a xs->xs[n - 1 - i]?=some x,λi _=>n<=i⟩
theorem WW{P:Program}{w:World}{K:Frag}{tg:Expr}(a it:Addr)(n:Nat):Turn P w K tg (Itv K a n) [it] it (λi h=>i<=n/\h.IsRevIter it a ((n:Int) - 1 - (i:Int))) where
 mem:=by simp
 obj:=λi h st b hb=>by
  have e:b=it:=by simpa using hb
  subst e;obtain⟨_,o,e,c,d⟩:=st;exact⟨o,e,λv z=>by rw[d] at z;cases z⟩
 keep:=λi h h' st k=>⟨st.1,st.2.at λo e=>k it (by simp) o e⟩
 item:=by
  intro X hP hw hK hc i pins s σ H E I hf st hg;subst hP hw hK;obtain⟨hi,xs,x,hq,hx⟩:=hg;obtain⟨its,rv,p,hz⟩:=I.list hq;obtain⟨u,hu,ru⟩:=rv.get hx;obtain⟨f0,f1,f2,f3,f4,f5⟩:=hf it (by simp);have hst:=st.2;rw[show(n:Int) - 1 - (i:Int)=((n - 1 - i:Nat):Int) by omega] at hst
  refine wpAny_pyNext_rev_item hst p.isList (x:=u) (by simpa using hu) λh' st' sb=>?_
  rw[show((n - 1 - i:Nat):Int) - 1=(n:Int) - 1 - ((i+1:Nat):Int) by omega] at st';have I1:Inv X pins σ H {s with heap:=h'}:=I.turned (t':=s.toks) (λb o hb e=>(sb.2 b hb).trans e) f0 f1 f3 f4 f5;obtain⟨o,e,c,d⟩:=id st';exact⟨u,rfl,lY (s:={s with heap:=h'}) e c d (by decide) ⟨x,H,I1,ru,⟨rfl,λys hy=>by rw[I.list_inj hy hq];exact hx⟩,⟨hi,st'⟩,λb hb=>(hf b hb).1⟩⟩
 done:=by
  intro X hP hw hK hc i pins s σ H E I hf st hg;subst hP hw hK;have hg':n<=i:=hg;obtain⟨f0,f1,f2,f3,f4,f5⟩:=hf it (by simp);have hst:=st.2;have h1:=st.1;rw[show(n:Int) - 1 - (i:Int) = -1 by omega] at hst
  exact wpAny_pyNext_rev_end (I.ok.hd hc) hst λh' eb=>⟨rfl,I.turned (t':=s.toks) (λb o hb e=>eb b o hb e) f0 f1 f3 f4 f5⟩
 self:=λ_ _ _ _ _ st h=>wpAny_pyIter_revIter st.2 h
section
variable {X:Cx}{md:List Md}{P:Pt}{R:RR}{tg:Expr}
theorem boot_reversed:bootBuiltins "reversed" = some (.type "reversed"):=by decide +kernel
def WX(K:Frag)(ta:TA):TI:=λσ H R=>ta σ H λvs H1=>∃a xs,vs=[.ref a]/\SqL K H1 a xs/\R (Itv K a xs.length) H1
theorem WY{a:Expr}{ta:TA}{p pos:Pos}(hg:Gl X "reversed")(hm:X.mg "reversed" = none)(ha:PA X [a] ta)(hs:starEach [a] X.env=[(false,eval a X.env)]:=by exact qG rfl):
  PI X tg (.Call (.Name "reversed" p) [a] [] pos) (WX X.K ta):=by
 intro pins s σ H R I h;refine Call_ (jx I hg hm boot_reversed (PyProof.Rows.callWith_type1 (thn (ha pos pins s σ H _ I h) λus s1 ⟨vs,H1,I1,r1,q1⟩=>?_) hs rfl));obtain⟨l,xs,e,hq,q⟩:=q1;subst e;obtain⟨u,rfl,ru⟩:=vals1 r1;cases ru;obtain⟨its,rv,pl,hz⟩:=I1.list hq
 have hl:its.toArray.size=xs.length:=by rw[zq];exact rv.length.symm
 refine call_reversed_list pl.isList ?_;rw[hl]
 have hit:(s1.heap.push (revObj l ((xs.length:Int) - 1))).IsRevIter s1.heap.objs.size l ((xs.length:Int) - 1 - ((0:Nat):Int)):=by
  rw[show(xs.length:Int) - 1 - ((0:Nat):Int)=(xs.length:Int) - 1 by omega];exact⟨_,zy _ rfl,rfl,rfl⟩
 refine wpAny_pyIter_revIter (s:={s1 with heap:=s1.heap.push (revObj l ((xs.length:Int) - 1))}) hit ?_;refine⟨s1.heap.objs.size,[s1.heap.objs.size],_,_,H1,rfl,I1.kept (t':=s1.toks) (λb o e=>zm _ e),WW l s1.heap.objs.size xs.length,⟨Nat.zero_le _,hit⟩,λb hb=>?_,q⟩
 have hb':s1.heap.objs.size<=b:=by rw[zn.mp hb];exact zc _
 exact I1.fpOk hb' (I1.hok.fresh hb')
def uy(m:M D):M (List D):=λρ O=>(m ρ O).bind λd O1=>match d with
 | .lst ds=>.ok ds.reverse O1
 | _=>.no
theorem W0{a:Expr}{p pos:Pos}{m:M D}(hm:X.mg "reversed" = none)(h:WE X md P a m)(hg:Gl X "reversed":=by rfl)(hs:starEach [a] X.env=[(false,eval a X.env)]:=by exact qG rfl)(hs':starEach [a] X.env=(false,eval a X.env)::starEach [] X.env:=by exact dq rfl):
  VI X md P tg (.Call (.Name "reversed" p) [a] [] pos) (uy m):=(WY hg hm (oA h qw hs') hs).imp λσ H Q q=>by
 obtain⟨ρ,O,F,as,ds,O',r,s,e,k⟩:=q;obtain⟨d,O1,e1,e⟩:=Res.bind_ok e
 cases d with
 |lst es =>
  cases e;refine⟨ρ,_,F,as,_,_,r,s,e1,λv H1 F1 as1 g1 r1 hv=>?_⟩;obtain⟨a,xs,rfl,h1,h2⟩:=Ik (mg:=X.mg) hv;have hl:xs.length=es.length:=h1.length;refine⟨a,xs,rfl,(h2 H1 F1 as1 GrS.refl ⟨_,r1⟩).sq,k _ H1 F1 as1 g1 r1 ⟨λi d H2 F2 as2 g r e=>?_,λH2 F2 as2 g r=>by show xs.length<=_;rw[List.length_reverse,hl];exact zc _⟩⟩
  have hi:i<es.length:=by
   have:=(zl.mp e).1
   rwa [List.length_reverse] at this
  rw[List.getElem?_reverse hi,<-hl] at e;obtain⟨x,h3,h4⟩:=h1.get' e;have hq:=h2 H2 F2 as2 g r;refine⟨⟨by omega,xs,x,hq.sq,h3⟩,λy H3 hy=>?_⟩;obtain⟨rfl,hy⟩:=hy
  have:=hy xs hq.sq
  rw[h3] at this;cases this;exact⟨F2,Gr.refl,λ_ r=>r,h4.grS g⟩
 | _=>cases e
theorem Jh(i:Int)(h:0<=i):Str.ofString (toString i)=S ((Nat.toDigits 10 i.toNat).map Char.toNat):=by
 obtain⟨m,rfl⟩:∃m:Nat,i=(m:Int):=⟨i.toNat,(Int.toNat_of_nonneg h).symm⟩;rw[Int.toNat_natCast,<-PySem.W.KIN.signs_num m,Ux]
def ph:List D->Option D
 | [.int i]=>if 0<=i/\i<1000000000 then some (.str ((Nat.toDigits 10 i.toNat).map Char.toNat)) else none
 | _=>none
theorem W2:jH X (.type "str") ph:=by
 intro pins s σ H xs us Q I rs h;obtain⟨O,F,as,ds,d,r,hvs,e,k⟩:=h;unfold ph at e;split at e
 ·rename_i i;split at e
  ·rename_i hi;obtain⟨v,rfl,hv⟩:=hvs.one;cases e;cases(hv.rp rfl).unI;refine Rr pins s σ H _ us Q I rs ⟨i,rfl,shown (N:=2 ^ 1920) (by omega) (by omega) (Int.le_refl _),?_⟩;have z:=Jh i hi.1;refine cu (v:=.str (Str.ofString (toString i))) r k rfl ?_;rw[z];exact Rp.str
  ·cases e
 ·cases e
end
structure bW(mg:Str->Option Value):Prop extends Jc mg where
 reversed_:mg "reversed" = none
end L2
namespace L2
open PySem PySem.Spec PyProof.Rows PySem.W
def mdI:Option Int->List Int->Option Int
 |b,[]=>b
 |none,n::r=>mdI (some n) r
 |some m,n::r=>mdI (some (if n<m then n else m)) r
def MdV(d v:Value):Option Int->Prop
 |none=>v=d
 |some m=>∃t,v=.int m t
def MdB(bs:Array Value):Option Int->Prop
 |none=>bs = #[]
 |some m=>∃t,bs = #[.int m t,.int m t]
section
variable {prog:Program}{w:World}{A:Around}{E:Value->Shared->Prop}
theorem W3{id:String}{b:Builtin}{as:List Value}{kw:List (Str×Value)}{s:Shared}{Q:Value->Shared->Prop}(k0:builtinKind id=none)(p0:plainId id=true)(b0:entryFor table id=some b)(a0:argsOk id ⟨as,kw⟩)
  (c0:wpAny (model prog w) A.in1 (b ⟨as,kw⟩) (λfin s'=>match fin with
   | .done f=>(match(Except.ok f:Result) with | .ok (.ret v)=>Q v s' | .ok _=>False | .error e=>E e s')
   | .again c=>c.quiet=true/\codeAny (model prog w) A c (λr s'=>match r with | .ok (.ret v)=>Q v s' | .ok _=>False | .error e=>E e s') s') E s):
  wpAny (model prog w) A (call (.builtin id) as kw) Q E s:=by
 refine wpAny_call (codeAny_call_builtin p0 b0 ?_);simp only[checkBuiltinCall,k0]
 cases g0:Manifest.signature? id with
 |none=>exact zb c0
 |some sg =>
  simp only[argsOk,g0] at a0;have z:Bind.checkArgs id sg ⟨as,kw⟩=pure ():=a0;show wpAny _ A.in1 (Bind.checkArgs id sg ⟨as,kw⟩) _ _ s;rw[z];exact zb c0
theorem W4{n m:Int}{t u:Tok}{s:Shared}{Q:Value->Shared->Prop}(q:Q (.bool (decide (n<m))) s):wpAny (model prog w) A (richCompare .Lt (.int n t) (.int m u)) Q E s :=
 CmpOf.ints_lt (A:=A) (P:=λi v=>∃t,v=.int (if i=0 then n else m) t) (λi=>if i=0 then n else m) (λ_ _ z=>z) 0 1 _ _ s Q E ⟨t,rfl⟩ ⟨u,rfl⟩ q
theorem W5{R:Result->Shared->Prop}{l i0 S:Addr}{its:List Value}{d:Value}(hh:A.in1.handled=none)(n1:l≠i0)(n2:S≠i0)(n3:S≠l):
  ∀(us:List Value) (ns:List Int) (pre:List Value) (b:Option Int) (bs:Array Value) (s:Shared) (c:Nat),its=pre++us->aN (ns.map V.int) us->s.heap.IsListIter i0 l pre.length->s.heap.IsList l its.toArray->MdB bs b ->
   s.heap.get? S=some {cls:=.type "list",dict:=none,data:=.seq bs c,slots:=#[]} ->
   (∀v h' tk,MdV d v (mdI b ns)->(∀x o,x≠i0->x≠S->s.heap.get? x=some o->h'.get? x=some o)->R (.ok (.ret v)) {s with heap:=h',toks:=tk}) ->
   codeAny (model prog w) A (.builtin "min.loop" ⟨[.ref i0,.none,.ref S],[("default",d)]⟩) R s:=by
 have W:=Walks.list (prog:=prog) (w:=w) hh i0 l n1 its.toArray
 have nm:(toString "min" ++ toString ".loop":String) = "min.loop":=by decide
 have nS:S∉[i0]:=λz=>n2 (zn.mp z)
 have ni:∀x:Addr,x≠i0->x∉[i0]:=λx z y=>z (zn.mp y)
 intro us
 induction us with
 |nil =>
  intro ns pre b bs s c e rv it hl hb hS hR
  have ens:ns=[]:=by
   cases ns with
   |nil=>rfl
   |cons=>cases rv
  subst ens
  have el:pre.length=its.toArray.size:=by rw[e];simp
  rw[el] at it;refine ji PySem.F.entry_min_loop ?_;rw[Around.under_plainId PySem.F.plain_min_loop _];show wpAny _ A.in1 (seqItems? (.ref S) >>= _) _ _ s;refine za (wpAny_seqItems hS rfl ?_);show wpAny _ A.in1 (tryCatch (pyNext (.ref i0)) _ >>= _) _ _ s;refine za (wpAny_tryCatch (W.done s _ _ ⟨it,hl⟩ λh1 tk kp=>?_));have hS1:=kp S _ nS hS
  cases b with
  |none =>
   have hb':bs = #[]:=hb;subst hb';show wpAny _ A.in1 (rule _ >>= _) _ _ _;refine za (jd ?_);exact zb (hR d h1 tk rfl λx o z1 z2 q=>kp x o (ni x z1) q)
  |some m =>
   obtain⟨t,hb'⟩:=hb;subst hb';show wpAny _ A.in1 (updateSeq S (λ_=>#[]) >>= _) _ _ _;refine za ?_;refine je hS1 rfl (za (jm (zb ?_)))
   exact hR (.int m t) _ tk ⟨t,rfl⟩ λx o z1 z2 q=>(jk _ _ (Ne.symm z2)).trans (kp x o (ni x z1) q)
 |cons u us ih =>
  intro ns pre b bs s c e rv it hl hb hS hR
  cases ns with
  |nil=>cases rv
  |cons n ns =>
   have rv':aN (V.int n::ns.map V.int) (u::us):=rv
   obtain⟨ru,rus⟩:RelV (.int n) u/\aN (ns.map V.int) us:=by
    cases rv' with
    |cons a b=>exact⟨a,b⟩
   obtain⟨tu,rfl⟩:=ru
   have el:pre.length<its.toArray.size:=by rw[e];simp
   have e':its=(pre++[Value.int n tu])++us:=by rw[e];simp
   have eg:its.toArray[pre.length]?=some (Value.int n tu):=by rw[e];simp
   refine ji PySem.F.entry_min_loop ?_;rw[Around.under_plainId PySem.F.plain_min_loop _];show wpAny _ A.in1 (seqItems? (.ref S) >>= _) _ _ s;refine za (wpAny_seqItems hS rfl ?_);show wpAny _ A.in1 (tryCatch (pyNext (.ref i0)) _ >>= _) _ _ s;refine za (wpAny_tryCatch (W.item pre.length s _ _ el ⟨it,hl⟩ λv h1 tk hv st kp=>?_));rw[eg] at hv;cases hv;have hS1:=kp S _ nS hS
   have upd1:∀(h2:Heap) (y:Addr) (o:Obj),y≠S->h2.get? y=some o->∀f,(h2.update S f).get? y=some o:=λh2 y o z q f=>(jk _ _ (Ne.symm z)).trans q
   have go:∀(b2:Option Int) (bs2:Array Value) (h2:Heap) (tk2:Nat) (c2:Nat),MdB bs2 b2->mdI b2 ns=mdI b (n::ns)->h2.get? S=some {cls:=.type "list",dict:=none,data:=.seq bs2 c2,slots:=#[]} ->
     (∀x o,x≠S->h1.get? x=some o->h2.get? x=some o)->codeAny (model prog w) A (.builtin "min.loop" ⟨[.ref i0,.none,.ref S],[("default",d)]⟩) R {s with heap:=h2,toks:=tk2}:=λb2 bs2 h2 tk2 c2 q1 q2 q3 q4=>by
    have st2:=W.frame _ h1 h2 st λx hx o q=>q4 x o (λz=>by
     rcases zk.mp hx with rfl | hx
     ·exact n2 z.symm
     ·rcases zk.mp hx with rfl | hx
      ·exact n3 z.symm
      ·cases hx) q
    refine ih ns (pre++[Value.int n tu]) b2 bs2 _ c2 e' rus (by rw[zz];exact st2.1) st2.2 q1 q3 λv h3 tk3 z1 z2=>?_
    exact hR v h3 tk3 (q2 ▸ z1) λx o y1 y2 q=>z2 x o y1 y2 (q4 x o y2 (kp x o (ni x y1) q))
   cases b with
   |none =>
    have hb':bs = #[]:=hb;subst hb';show wpAny _ A.in1 (updateSeq S (λ_=>#[Value.int n tu,Value.int n tu]) >>= _) _ _ _;refine za ?_;refine je hS1 rfl ?_;rw[nm];exact zb ⟨plainId_quiet PySem.F.plain_min_loop _,go (some n) _ _ _ _ ⟨tu,rfl⟩ rfl (Heap.get?_update_self _ hS1 rfl) λx o z q=>upd1 _ x o z q _⟩
   |some m =>
    obtain⟨t,hb'⟩:=hb;subst hb';show wpAny _ A.in1 (tryCatch (holding [Value.int n tu,Value.int n tu] (richCompare .Lt (.int n tu) (.int m t) >>= _)) _ >>= _) _ _ _;refine za (wpAny_tryCatch (zT (za (W4 ?_))));refine za (zT (wpAny_truthy_bool ?_));refine za (jm (zb ?_))
    by_cases hlt:n<m
    ·rw[zj hlt];simp only[if_true];refine za ?_;refine je hS1 rfl (za (jm ?_));rw[nm];exact zb ⟨plainId_quiet PySem.F.plain_min_loop _,go (some n) _ _ _ _ ⟨tu,rfl⟩ (by show _=mdI (some (if n<m then n else m)) ns;rw[if_pos hlt]) (Heap.get?_update_self _ hS1 rfl) λx o z q=>upd1 _ x o z q _⟩
    ·rw[zg hlt];simp only[Bool.false_eq_true,if_false];refine za (jm ?_);rw[nm];exact zb ⟨plainId_quiet PySem.F.plain_min_loop _,go (some m) _ _ _ _ ⟨t,rfl⟩ (by show _=mdI (some (if n<m then n else m)) ns;rw[if_neg hlt]) hS1 λx o z q=>q⟩
end
section
variable {X:Cx}{md:List Md}{P:Pt}{R:RR}
def tsF(n:Nat)(y:D)(O:aq):Res D:=match qZ y,O[n]? with
 |some k,some (.dt kvs)=>match gH kvs k with
  |some d=>.ok d O
  |none=>.no
 | _,_=>.no
def Ji(mo my:M D):M D:=λρ O=>(mo ρ O).bind λx O1=>match x with
 | .ob n=>(my ρ O1).bind λy O2=>tsF n y O2
 | _=>.no
theorem W6{kk:Nat}(hk:bL X.K=true)(hr:bw kk X.A){o i:Expr}{pos:Pos}{mo my:M D}(ho:VE X md P o mo)(hi:VE X md P i my)(hs:qx i:=by intro _ _;rfl):VE X md P (.Subscript o i pos) (Ji mo my):=
 (xC (mF hr) ho hi hs).imp λσ H Q q=>by
  obtain⟨ρ,O,F,as,d,O',r,s,e,k⟩:=q;obtain⟨x,O1,e1,e⟩:=Res.bind_ok e
  cases x with
  |ob n =>
   obtain⟨y,O2,e2,e⟩:=Res.bind_ok e;unfold tsF at e;split at e
   ·rename_i ks kvs e3 e4;split at e
    ·rename_i d' e5;cases e;refine⟨ρ,_,F,as,_,_,r,s,e1,λx H1 F1 as1 g1 r1 hx=>⟨ρ,_,F1,as1,_,_,r1,s.step g1,e2,λu H2 F2 as2 g2 r2 hu=>?_⟩⟩;obtain⟨a,rfl,ha⟩:=Rp.unO hx;obtain⟨xs,x1,x2⟩:=r2.dt (g2.at_ n a ha) e4;obtain⟨b,rfl,hb⟩:=Rp.tkey hk hu e3
     rcases x2.val (k:=ks) with⟨z1,z2⟩ | ⟨d2,v',z1,z2,z3⟩
     ·rw[z1] at e5;cases e5
     ·rw[z1] at e5;cases e5;refine⟨a,v',rfl,?_,k _ H2 F2 as2 (g1.trans g2) r2 z3⟩;rw[<-z2];exact fL.t x1 (r2.fh _ _ hb)
    ·cases e
   ·cases e
  | _=>cases e
def uz:List D->Option D
 | [.lst ds]=>(gD ds).map λns=>match mdI none ns with
  |some m=>.int m
  |none=>.non
 | _=>none
theorem W7(a d:Value):argsOk "min" ⟨[a],[("default",d)]⟩:=by unfold argsOk;kernel_rfl
theorem W8(hc:X.calm=true){pins:List (Addr×Obj)}{s:Shared}{σ:St}{H:Hp}{a:Addr}{ns:List Int}{Q:VK}(I:Inv X pins σ H s)(hq:SqL X.K H a (ns.map V.int))(q:Q (match mdI none ns with | some m=>.int m | none=>.non) H):
  wpAny (model X.prog X.w) X.A (call (.builtin "min") [.ref a] [("default",.none)]) (EP X pins σ Q) X.xe s:=by
 obtain⟨its,rv,pl,_⟩:=I.list hq;have hl:=pl.isList
 have la:a<s.heap.objs.size:=by obtain⟨_,z,_⟩:=hl;exact ze z
 refine W3 PySem.F.kind_min PySem.F.plain_min PySem.F.entry_min (W7 _ _) ?_;show wpAny _ X.A.in1 (Builtin.Builtins.bindParams "min" ["key","default"] 0 ⟨[],[("default",.none)]⟩ >>= _) _ _ s;refine za (wpAny_of_eq (show _=pure [none,some Value.none] from rfl) ?_);refine za (zb ?_);refine za (wpAny_pyIter_list hl ?_);refine za (wpAny_newObj_type ?_);rw[show(toString "min" ++ toString ".loop":String) = "min.loop" by decide];have sz:(s.heap.push {cls:=.type "list_iterator",data:=.fields #[.ref a,.int 0 0]}).objs.size=s.heap.objs.size+1:=Heap.size_push ..
 refine zb ⟨plainId_quiet PySem.F.plain_min_loop _,W5 (its:=its) (l:=a) (i0:=s.heap.objs.size) (d:=.none) (I.ok.hd hc) (zu la) (Nat.ne_of_gt (by rw[sz];exact jj _)) (Nat.ne_of_gt (by rw[sz];exact jg la)) its ns [] none #[] _ 0 rfl rv
  ⟨_,zm _ (zy _ rfl),rfl,rfl⟩ ((hl.push _).push _) rfl (zy _ rfl) λv h1 tk hv kp=>?_⟩
 have kk:∀b o,s.heap.get? b=some o->h1.get? b=some o:=λb o z=>kp b o (zu (ze z)) (zu (by rw[sz];exact jg (ze z))) (zm _ (zm _ z))
 refine⟨_,H,I.kept (t':=tk) kk,?_,q⟩
 cases e:mdI none ns with
 |none =>
  rw[e] at hv;exact hv
 |some m =>
  rw[e] at hv;exact hv
theorem W9{p pos p2 p3:Pos}{j:Nat}{e:Expr}{m:M D}(hc:X.calm=true)(hm:X.mg "min" = none)(ha:SE X md P e m)(hg:Gl X "min":=by rfl)(hs:starEach [e] X.env=(false,eval e X.env)::starEach [] X.env:=by exact dq rfl)(hpl:(backTo pos (starEach [e] X.env)).any (·.1)=false:=by exact fJ rfl)
  (he:backTo pos (starEach [e] X.env)=(false,eval e X.env)::backTo pos (starEach [] X.env):=by rfl):
  OE X md P (.Call (.Name "min" p) [e] [⟨some "default",.Constant .none j p2,p3⟩] pos) (aV uz (aj m au)):=by
 intro pins s σ H Q I q;refine wpAny_Call_Name_kw (jx I hg hm boot_min ?_ (by decide) (by decide));have q':=uh (ms:=[.s]) q;refine callWith_kw (thn ((aC ha aG hs) pos pins s σ H _ I q') λus s1 ⟨vs,H1,I1,r1,q1⟩=>?_) he hpl;refine kws_cons (Constant_none (kws_nil ?_));obtain⟨O,F,as,ds,d,r,hvs,e,k⟩:=q1;unfold uz at e;split at e
 ·rename_i es;obtain⟨v,rfl,hv⟩:=hvs.one;obtain⟨a,xs,rfl,h1,h2⟩:=hv.list r.fh;obtain⟨u,rfl,ru⟩:=vals1 r1;cases ru
  cases hi:gD es with
  |none=>rw[hi] at e;cases e
  |some ns =>
   rw[hi] at e;cases e;have hx:=h2.ints hi;refine W8 hc I1 (ns:=ns) (by rw[<-hx];exact h1.sq) ?_
   cases em:mdI none ns with
   |none =>
    dsimp only at k;rw[em] at k;exact cu r k rfl Rp.non
   |some m =>
    dsimp only at k;rw[em] at k;exact cu r k rfl Rp.int
 ·cases e
end
def Itd(lo:Int)(n:Nat):It:=⟨λi _=>i<n,λi H x H'=>H'=H/\x=.int (lo - i),λi _=>n<=i⟩
def iT(lo:Int)(n:Nat):List D:=(List.range n).map λi:Nat=>.int (lo - i)
theorem Xa{P:Program}{w:World}{K:PySem.W.Frag}{tg:Expr}(it:Addr)(lo:Int)(n:Nat):Turn P w K tg (Itd lo n) [it] it (λi h=>IsRangeIter h it (lo+(i:Nat) * (-1)) ((n:Int) - (i:Nat)) (-1)) where
 mem:=by simp
 obj:=λi h st b hb=>by
  have e:b=it:=by simpa using hb
  subst e
  exact⟨_,st,λv z=>by
   have z':Data.fields _=Data.cell v:=z
   cases z'⟩
 keep:=λi h h' st k=>k it (by simp) _ st
 item:=by
  intro X hP hw hK hc i pins s σ H E I hf st hg;subst hP hw hK;obtain⟨f0,f1,f2,f3,f4,f5⟩:=hf it (by simp);have W:=Walks.range (prog:=X.prog) (w:=X.w) (I.ok.hd hc) it lo (-1) n
  refine W.item i s _ _ hg st λv h' tk hv st' kk=>?_
  obtain⟨t,rfl⟩:=hv;have I1:Inv X pins σ H {s with heap:=h',toks:=tk}:=I.turned (λb o hb e=>kk b o (by simpa using hb) e) f0 f1 f3 f4 f5;refine⟨_,rfl,lY (s:={s with heap:=h',toks:=tk}) (n:="range_iterator") st' rfl rfl (by decide) ⟨.int (lo - i),H,I1,⟨t,?_⟩,⟨rfl,rfl⟩,st',λb hb=>(hf b hb).1⟩⟩;rw[show lo+(i:Int) * (-1)=lo - i by omega]
 done:=by
  intro X hP hw hK hc i pins s σ H E I hf st hg;subst hP hw hK;obtain⟨f0,f1,f2,f3,f4,f5⟩:=hf it (by simp)
  exact wpAny_pyNext_range_end (I.ok.hd hc) st (by have:n<=i:=hg;omega) λh' eb=>⟨rfl,I.turned (t':=s.toks) (λb o hb e=>eb b o hb e) f0 f1 f3 f4 f5⟩
 self:=λ_ _ _ _ _ st h=>wpAny_pyIter_rangeiter st h
section
variable {X:Cx}{tg:Expr}{md:List Md}{P:Pt}
theorem Jj(a b:Int):Builtin.Range.rangeSize a b (-1)=if a>b then a - b else 0:=by
 unfold Builtin.Range.rangeSize;rw[if_neg (by decide)]
 split
 ·rw[show(-(-1:Int))=1 by decide,Int.ediv_one];omega
 ·rfl
theorem small_down{a b:Int}(ha:-(2 ^ 62)<=a)(ha':a<2 ^ 62)(hb:-(2 ^ 62)<=b)(hb':b<2 ^ 62):Builtin.Range.small a b (-1)=true:=by
 unfold Builtin.Range.small;rw[Jj];simp only[Builtin.Range.rangeFitsLong,zo,Bool.or_eq_true,decide_eq_true_eq,beq_iff_eq,show ¬((-1:Int)>0) by decide,if_false]
 split<;>omega
def Xb(ta:TA):TI:=λσ H R=>ta σ H λvs H1=>∃i j:Int,vs=[.int i,.int j,.int (-1)]/\(-(2 ^ 62)<=i/\i<2 ^ 62/\-(2 ^ 62)<=j/\j<2 ^ 62)/\R (Itd i (i - j).toNat) H1
theorem Xd{a b c:Expr}{ta:TA}{p pos:Pos}(hg:Gl X "range")(hm:X.mg "range" = none)(ha:PA X [a,b,c] ta)(hs:starEach [a,b,c] X.env=[(false,eval a X.env),(false,eval b X.env),(false,eval c X.env)]:=by rfl)(hs2:starEach [b,c] X.env=[(false,eval b X.env),(false,eval c X.env)]:=by rfl):
  PI X tg (.Call (.Name "range" p) [a,b,c] [] pos) (Xb ta):=by
 intro pins s σ H R I h;refine Call_ (jx I hg hm boot_range (PyProof.Rows.callWith_type1 (thn (ha pos pins s σ H _ I h) λus s1 ⟨vs,H1,I1,r1,q1⟩=>?_) (by rw[hs,hs2]) (by rw[hs2];rfl)));obtain⟨lo,hi,e,⟨h1,h2,h3,h4⟩,q⟩:=q1;subst e
 cases r1 with
 |cons r rr =>
  cases rr with
  |cons r' rr =>
   cases rr with
   |cons r'' rr =>
    cases rr;obtain⟨t,rfl⟩:=r;obtain⟨u,rfl⟩:=r';obtain⟨v,rfl⟩:=r'';refine call_range_3 (by decide) ?_ (Or.inl (PyProof.noPylong_small (by omega)));refine wpAny_pyIter_range (IsRange.new ..) (small_down h1 h2 h3 h4) ?_
    have J:Inv X pins σ H1 {s1 with heap:=s1.heap.push {cls:=.type "range",data:=.fields #[.int lo t,.int hi u,.int (-1) v]},toks:=s1.toks}:=I1.kept λb o e=>zm _ e
    refine⟨(s1.heap.push {cls:=.type "range",data:=.fields #[.int lo t,.int hi u,.int (-1) v]}).objs.size,[(s1.heap.push {cls:=.type "range",data:=.fields #[.int lo t,.int hi u,.int (-1) v]}).objs.size],_,_,H1,rfl,
     J.kept (t':=s1.toks) λb o e=>zm _ e,Xa _ lo (lo - hi).toNat,?_,λb hb=>?_,q⟩
    ·have e1:lo+((0:Nat):Int) * (-1)=lo:=by simp
     have e2:(((lo - hi).toNat:Nat):Int) - ((0:Nat):Int)=Builtin.Range.rangeSize lo hi (-1):=by rw[Jj];split<;>omega
     show IsRangeIter _ _ (lo+((0:Nat):Int) * (-1)) ((((lo - hi).toNat:Nat):Int) - ((0:Nat):Int)) (-1);rw[e1,e2];exact zy _ rfl
    ·have e:b=(s1.heap.push {cls:=.type "range",data:=.fields #[.int lo t,.int hi u,.int (-1) v]}).objs.size:=by simpa using hb
     subst e;exact J.fpOk (zc _) (J.hok.fresh (zc _))
theorem Xe{K:Frag}{mg:Str->Option Value}{lo:Int}{n:Nat}{H F:Hp}{as:List Addr}:mQ K mg P (Itd lo n) (iT lo n) H F as:=xW (λi d H2 e=>by
 unfold iT at e;rw[zw] at e
 by_cases hi:i<n
 ·rw[List.getElem?_range hi] at e;cases e;refine⟨hi,λx H3 y=>?_⟩;obtain⟨e1,rfl⟩:=y;exact⟨e1,λ_ _ _=>Rp.int⟩
 ·rw[List.getElem?_eq_none (by simpa using hi)] at e
  cases e) λH2=>by simp[iT,Itd]
def uA(m:M (List D)):M (List D):=λρ O=>(m ρ O).bind λds O1=>match ds with
 | [.int i,.int j,.int c]=>if c = -1/\i<=1000000000/\-1000000000<=i/\j<=1000000000/\-1000000000<=j then .ok (iT i (i - j).toNat) O1 else .no
 | _=>.no
theorem cW.three{K:Frag}{H F:Hp}{as:List Addr}{m1 m2 m3:Md}{vs:List V}{d e f:D}(h:cW K H F as [m1,m2,m3] vs [d,e,f]):∃v u z,vs=[v,u,z]/\rA K m1 (λ_=>True) H F as v d/\rA K m2 (λ_=>True) H F as u e/\rA K m3 (λ_=>True) H F as z f:=by
 cases vs with
 |nil=>exact h.elim
 |cons v vs =>
  obtain⟨h1,h2⟩:=h;obtain⟨u,z,rfl,h3,h4⟩:=cW.two h2;exact⟨v,u,z,rfl,h1,h3,h4⟩
theorem Xf{a b c:Expr}{p pos:Pos}{m:M (List D)}(hm:X.mg "range" = none)(ha:AE X md P [.s,.s,.s] [a,b,c] m)(hg:Gl X "range":=by rfl)(hs:starEach [a,b,c] X.env=[(false,eval a X.env),(false,eval b X.env),(false,eval c X.env)]:=by rfl)(hs2:starEach [b,c] X.env=[(false,eval b X.env),(false,eval c X.env)]:=by rfl):
  VI X md P tg (.Call (.Name "range" p) [a,b,c] [] pos) (uA m):=(Xd hg hm ha hs hs2).imp λσ H Q q=>by
 obtain⟨ρ,O,F,as,ds,O',r,s,e,k⟩:=q;obtain⟨es,O1,e1,e⟩:=Res.bind_ok e;split at e
 ·rename_i i j c;split at e
  ·rename_i hj;cases e;obtain⟨rfl,hj⟩:=hj;refine⟨ρ,_,F,as,_,_,r,s,e1,λvs H1 F1 as1 g1 r1 hv=>?_⟩;obtain⟨v,u,z,rfl,hv1,hu,hz⟩:=hv.three;have e3:=(Sv.rp hv1 rfl).unI;have e4:=(Sv.rp hu rfl).unI;have e5:=(Sv.rp hz rfl).unI;subst e3 e4 e5;exact⟨i,j,rfl,⟨by omega,by omega,by omega,by omega⟩,k _ H1 F1 as1 g1 r1 Xe⟩
  ·cases e
 ·cases e
end
section
variable {X:Cx}{pins:List (Addr×Obj)}{σ:List (Option V)}{H:Hp}{s:Shared}{a:Addr}{xs:List (List Key×V)}{o:Obj}
theorem Inv.reword{u:HO}(I:Inv X pins σ H s)(ha:H a≠none)(hn:∀ys,H a≠some (.tup ys))(ho:∀y,H a≠some (.own y))(hb:∀ps,H a≠some (.tbl ps))(hf:∀o u,X.H₀ a≠some (.frz o u))(new:cg X.prog X.w (upd H a u) s.heap a u):Inv X pins σ (upd H a u) s where
 ok:=I.ok
 os:=I.os
 bare:=I.bare
 base:={
  keep:=I.base.keep
  slot:=I.base.slot
  free:=λb o' q n hx=>by
   have z:=I.base.free b o' q n hx;rw[aO (by intro e;have w:=z;rw[e] at w;exact ha w)];exact z
  there:=I.base.there
  tups:=λb ys q=>by
   have z:=I.base.tups b ys q;rw[aO (by intro e;have w:=z;rw[e] at w;exact hn ys w)];exact z
  frzs:=λb o' u' q=>by
   have z:=I.base.frzs b o' u' q;rw[aO (by intro e;have w:=q;rw[e] at w;exact hf o' u' w)];exact z
  tbls:=λb ps q=>by
   obtain⟨m,z⟩:=I.base.tbls b ps q
   exact⟨m,by rw[aO (by intro e;have w:=z;rw[e] at w;exact hb _ w)];exact z⟩}
 loc:=I.loc
 cell:=I.cell
 free:=by rw[aO (by intro e;have w:=I.free;rw[e] at w;exact ha w)];exact I.free
 freeC:=λx c q=>by rw[aO (by intro e;have w:=I.freeC x c q;rw[e] at w;exact ha w)];exact I.freeC x c q
 pin:=λp hp=>by
  obtain⟨h1,h2,h3,h4,h5⟩:=I.pin p hp;exact⟨h1,by rw[aO (by intro e;have w:=h2;rw[e] at w;exact ha w)];exact h2,h3,h4,h5⟩
 hok:=λb u' q=>by
  by_cases e:b=a
  ·subst e;rw[bM] at q;cases q;exact new
  ·rw[aO e] at q
   exact(I.hok b u' q).stay (λ_ _ _ z=>z) (λc z=>by rw[aO (by intro e;have w:=z;rw[e] at w;exact ho b w)];exact z) λc ys z=>by rw[aO (by intro e;have w:=z;rw[e] at w;exact hn ys w)];exact z
 len:=I.len
theorem Inv.base0(I:Inv X pins σ H s)(e:H a=some (.dT xs)):∀o u,X.H₀ a≠some (.frz o u):=λo u z=>by
 have:=I.base.frzs a o u z
 rw[e] at this;cases this
theorem Inv.freeze(I:Inv X pins σ H s)(e:H a=some (.dT xs)):∃o,s.heap.get? a=some o/\Inv X pins σ (upd H a (.frz o (.dT xs))) s:=by
 have hx:=I.hok a _ e
 obtain⟨o,ho⟩:∃u,s.heap.get? a=some u:=by
  obtain⟨_,_,_,_,_,_,_,z,_⟩:=hx;exact⟨_,z⟩
 refine⟨o,ho,I.reword (by rw[e];exact λz=>nomatch z) (by rw[e];exact λ_ z=>nomatch z) (by rw[e];exact λ_ z=>nomatch z) (by rw[e];exact λ_ z=>nomatch z) (I.base0 e) ⟨ho,?_⟩⟩
 exact cg.stay hx (λ_ _ _ z=>z) (λc z=>by rw[aO (λq=>by rw[q,e] at z;cases z)];exact z) λc ys z=>by rw[aO (λq=>by rw[q,e] at z;cases z)];exact z
theorem Inv.thaw(I:Inv X pins σ H s)(e:H a=some (.frz o (.dT xs)))(hf:∀o u,X.H₀ a≠some (.frz o u)):Inv X pins σ (upd H a (.dT xs)) s:=by
 obtain⟨ho,hx⟩:=(show cg X.prog X.w H s.heap a (.frz o (.dT xs)) from I.hok a _ e);refine I.reword (by rw[e];exact λz=>nomatch z) (by rw[e];exact λ_ z=>nomatch z) (by rw[e];exact λ_ z=>nomatch z) (by rw[e];exact λ_ z=>nomatch z) hf ?_
 exact cg.stay hx (λ_ _ _ z=>z) (λc z=>by rw[aO (λq=>by rw[q,e] at z;cases z)];exact z) λc ys z=>by rw[aO (λq=>by rw[q,e] at z;cases z)];exact z
end
section
variable {prog:Program}{w:World}{A:Around}{E:Value->Shared->Prop}{s:Shared}
theorem Xg{d:Addr}{o:Obj}{es:Array DictEntry}{ep:Nat}{Q:Value->Shared->Prop}(hd:(d == sysModules)=false)(ho:s.heap.get? d=some o)(hx:o.ExactDict)(hdat:o.data=.dict es ep)
  (hQ:Q (.ref s.heap.objs.size) {s with heap:=s.heap.push {cls:=.type "dict_keyiterator",data:=.fields #[.ref d,.int 0 0,.int es.size 0,.int ep 0]}}):
  wpAny (model prog w) A (pyIter (.ref d)) Q E s:=by
 have hT:s.TypeIs (.ref d) "dict":=⟨o,ho,hx.1⟩;refine wpAny_pyIter_slot hT PySem.F.slot_dict_iter (wpAny_call_entry PySem.F.slot_dict_iter hT PySem.F.entry_dict_iter ?_ (PySem.F.args_dict_iter_1 _));unfold Builtin.«dict.__iter__»;refine za ?_;unfold Builtin.Dict.dictSlotNone;refine za (wpAny_notOrdered_dict hT ?_);show wpAny _ _ (pure (Value.ref d)) _ _ s;refine zb ?_;show wpAny _ _ (Builtin.Dict.showsAll d >>= _) _ _ s;unfold Builtin.Dict.showsAll;rw[if_neg (by rw[hd];exact zh)];refine za (zb ?_);refine za (wpAny_dictEntries ho hdat ?_);refine za (wpAny_dictEpoch ho hdat ?_);refine za (wpAny_newObj_type (zb ⟨_,rfl,"dict_keyiterator",_,⟨_,zy _ rfl,rfl⟩,PySem.F.slot_dict_keyiterator_next.lookup,?_⟩))
 simpa [rawInt] using hQ
theorem Xh{it d:Addr}{i n ep:Nat}{od:Obj}{es:Array DictEntry}{Q:Option Value->Shared->Prop}(hit:s.heap.IsKeyIter it d i n ep)(hod:s.heap.get? d=some od)(hdd:od.data=.dict es ep)(hsz:es.size=n)(hlt:i<n)
  (hQ:∀h',h'.IsKeyIter it d (i+1) n ep->Heap.SameBut it s.heap h'->Q (some (es[i]'(by omega)).key) {s with heap:=h'}):
  wpAny (model prog w) A (pyNext (.ref it)) Q E s:=by
 obtain⟨o,ho,hc,hd⟩:=id hit;unfold pyNext
 refine za (wpAny_attempt (wpAny_callSpecial?_slot (name:=Str.ofString "__next__") hit.typeIs PySem.F.slot_dict_keyiterator_next
  (wpAny_call_entry PySem.F.slot_dict_keyiterator_next hit.typeIs PySem.F.entry_dict_keyiterator_next ?_ (PySem.F.args_dict_keyiterator_next_1 _))))
 refine za (zb ?_);refine za ?_;refine za ?_
 first | refine za (wpAny_typeNameOfWhole_keyiter hit.typeIs (zb ?_)) | refine za (wpAny_typeNameOf_keyiter hit.typeIs (zb ?_))
 refine za (wpAny_fieldsOf ho hd ?_)
 have hown:Builtin.Dict_items.ownsTuple "dict_keyiterator" = false:=by decide
 simp only[hown,Bool.false_eq_true,if_false];show wpAny _ _ (if(Value.ref d == Value.none)=true then _ else _) _ _ s;rw[if_neg (show ¬((Value.ref d == Value.none)=true) from zh)];refine za (zb ?_);refine za (wpAny_dictEntries hod hdd ?_);rw[if_neg (by rw[hsz];simp)];refine za (zb ?_);refine za (wpAny_dictEpoch hod hdd ?_);rw[if_neg (by simp)];refine zb ?_
 have hlt':i<es.size:=by rw[hsz];exact hlt
 simp only[show ¬((i:Int)<0) from by omega,if_false,Int.toNat_natCast,Array.getElem?_eq_getElem hlt'];refine za ?_
 first | refine za (wpAny_typeNameOfWhole_keyiter hit.typeIs (zb ?_)) | refine za (wpAny_typeNameOf_keyiter hit.typeIs (zb ?_))
 refine za (wpAny_isOneOf_keyiter hit.typeIs ?_);show wpAny _ _ (setField (.ref it) 1 (rawInt ((i:Int)+1)) >>= _) _ _ s;refine za (wpAny_setField ho hd (by simp) ?_);have hit':(s.heap.update it (Obj.mapFields (·.setIfInBounds 1 (rawInt ((i:Int)+1))))).IsKeyIter it d (i+1) n ep :=
  ⟨_,Heap.get?_update_self _ ho (Obj.isFreed_of_fields (Obj.data_mapFields hd _)),(Obj.cls_mapFields ..).trans hc,by rw[Obj.data_mapFields hd];simp[rawInt]⟩
 refine za (zT ?_);refine za (wpAny_isOneOf_keyiter (s:={s with heap:=s.heap.update it (Obj.mapFields (·.setIfInBounds 1 (rawInt ((i:Int)+1))))}) hit'.typeIs ?_);show wpAny _ _ (pure es[i].key) _ _ _;exact zb (zb ⟨_,rfl,zb (hQ _ hit' (Heap.SameBut.update ..))⟩)
theorem Xi{it d:Addr}{i n ep:Nat}{od:Obj}{es:Array DictEntry}{Q:Option Value->Shared->Prop}(hh:A.handled=none)(hit:s.heap.IsKeyIter it d i n ep)(hod:s.heap.get? d=some od)(hdd:od.data=.dict es ep)(hsz:es.size=n)(hge:n<=i)
  (hQ:∀h',Heap.ExtBut it s.heap h'->Q none {s with heap:=h'}):wpAny (model prog w) A (pyNext (.ref it)) Q E s:=by
 obtain⟨o,ho,hc,hd⟩:=id hit;unfold pyNext
 refine za (wpAny_attempt (wpAny_callSpecial?_slot (name:=Str.ofString "__next__") hit.typeIs PySem.F.slot_dict_keyiterator_next
  (wpAny_call_entry PySem.F.slot_dict_keyiterator_next hit.typeIs PySem.F.entry_dict_keyiterator_next ?_ (PySem.F.args_dict_keyiterator_next_1 _))))
 refine za (zb ?_);refine za ?_;refine za ?_
 first | refine za (wpAny_typeNameOfWhole_keyiter hit.typeIs (zb ?_)) | refine za (wpAny_typeNameOf_keyiter hit.typeIs (zb ?_))
 refine za (wpAny_fieldsOf ho hd ?_)
 have hown:Builtin.Dict_items.ownsTuple "dict_keyiterator" = false:=by decide
 simp only[hown,Bool.false_eq_true,if_false];show wpAny _ _ (if(Value.ref d == Value.none)=true then _ else _) _ _ s;rw[if_neg (show ¬((Value.ref d == Value.none)=true) from zh)];refine za (zb ?_);refine za (wpAny_dictEntries hod hdd ?_);rw[if_neg (by rw[hsz];simp)];refine za (zb ?_);refine za (wpAny_dictEpoch hod hdd ?_);rw[if_neg (by simp)];refine zb ?_
 have hge':es.size<=i:=by rw[hsz];exact hge
 simp only[show ¬((i:Int)<0) from by omega,if_false,Int.toNat_natCast,Array.getElem?_eq_none hge'];refine za ?_
 first | refine za (wpAny_typeNameOfWhole_keyiter hit.typeIs (zb ?_)) | refine za (wpAny_typeNameOf_keyiter hit.typeIs (zb ?_))
 show wpAny _ _ (setField (.ref it) 0 .none >>= _) _ _ s;refine za (wpAny_setField ho hd (by simp) ?_);show wpAny _ _ (newExc (.type "StopIteration") [] >>= _) _ _ _;refine za ?_;simp only[newExc,newTuple];refine za (wpAny_newObj_type ?_ (by size_fits));refine za (m:=firstArgMember _ _) (wpAny_of_eq (a:=Value.none) (by first | rfl | (simp only[firstArgMember];rfl)) ?_);refine wpAny_newObj_type ?_ (by size_fits);simp only[raiseNew];refine za (wpAny_handled ?_);rw[show A.in1.handled=none from hh];refine za (zb (wpAny_throw ?_));refine za (wpAny_isInstance (T:="StopIteration") (b:=true) ⟨_,zy _ rfl,rfl⟩ isSubtype_stop ?_)
 exact zb (hQ _ (((Heap.SameBut.update ..).extBut.push _).push _))
end
def Itq(a:Addr)(o:Obj):It :=
 ⟨λi H=>∃ys:List (List Key×V),H a=some (.frz o (.dT ys))/\i<ys.length,
  λi H x H'=>H'=H/\∀ys:List (List Key×V),H a=some (.frz o (.dT ys))->∃b p,x=.ref b/\ys[i]?=some p/\H b=some (.tup (p.1.map kV)),
  λi H=>∃ys:List (List Key×V),H a=some (.frz o (.dT ys))/\ys.length<=i⟩
theorem Xj{α β:Type}{R:α->β->Prop}{l:List α}{m:List β}(h:Paired R l m):∀{i:Nat}{x:α}{y:β},l[i]?=some x->m[i]?=some y->R x y:=by
 induction h with
 |nil=>intro i x y h;cases h
 |cons a b ih =>
  intro i x y h1 h2
  cases i with
  |zero=>cases h1;cases h2;exact a
  |succ i=>exact ih h1 h2
theorem yh{X:Cx}{pins:List (Addr×Obj)}{σ:St}{H:Hp}{s:Shared}{a:Addr}{o:Obj}{ys:List (List Key×V)}(I:Inv X pins σ H s)(e:H a=some (.frz o (.dT ys))):
  s.heap.get? a=some o/\(a == sysModules)=false/\o.ExactDict/\∃es ep,o.data=.dict es ep/\es.size=ys.length/\∀(i:Nat) (h:i<es.size),∃b p,es[i].key=.ref b/\ys[i]?=some p/\H b=some (.tup (p.1.map kV)):=by
 obtain⟨h1,z,y,xs,r,o',es,ep,h2,h3,h4,h5,h6⟩:=(show cg X.prog X.w H s.heap a (.frz o (.dT ys)) from I.hok a _ e);rw[h1] at h2;cases h2
 have hl:es.size=xs.length:=by rw[<-Array.length_toList,h5,zf]
 have hr:ys.length=xs.length:=r.length;refine⟨h1,y,h3,es,ep,h4,by omega,λi hi=>?_⟩
 have hx:i<xs.length:=by omega
 have hy:i<ys.length:=by omega
 have ek:es.toList[i]?=some (entryOfKey (tupleKind (d8 X.prog X.w)) xs[i]):=by rw[h5,zw,zp hx];rfl
 rw[Array.getElem?_toList,Array.getElem?_eq_getElem hi] at ek;have hh:=Xj r (zp hy) (zp hx);refine⟨xs[i].2.1,ys[i],?_,zp hy,hh.2.1⟩
 injection ek with ek
 rw[ek];rfl
theorem Xk{P:Program}{w:World}{K:Frag}{tg:Expr}(a it:Addr)(o:Obj)(es:Array DictEntry)(ep:Nat)(hd:o.data=.dict es ep):Turn P w K tg (Itq a o) [it] it (λi h=>h.IsKeyIter it a i es.size ep) where
 mem:=by simp
 obj:=λi h st b hb=>by
  have e:b=it:=by simpa using hb
  subst e;obtain⟨o,e,c,d⟩:=st;exact⟨o,e,λv z=>by rw[d] at z;cases z⟩
 keep:=λi h h' st k=>st.at λo e=>k it (by simp) o e
 item:=by
  intro X hP hw hK hc i pins s σ H E I hf st hg;subst hP hw hK;obtain⟨ys,hq,hlt⟩:=hg;obtain⟨q1,q2,q3,es',ep',q4,q5,q6⟩:=yh I hq;rw[hd] at q4;cases q4;obtain⟨f0,f1,f2,f3,f4,f5⟩:=hf it (by simp)
  have hi:i<es.size:=by omega
  refine Xh st q1 hd rfl hi λh' st' sb=>?_
  have I1:Inv X pins σ H {s with heap:=h'}:=I.turned (t':=s.toks) (λb o hb e=>(sb.2 b hb).trans e) f0 f1 f3 f4 f5;obtain⟨b,p,k1,k2,k3⟩:=q6 i hi;rw[k1];obtain⟨o2,e,c,d⟩:=id st';refine⟨_,rfl,lY (s:={s with heap:=h'}) e c d (by decide) ⟨.ref b,H,I1,rfl,⟨rfl,λzs hz=>?_⟩,st',λb hb=>(hf b hb).1⟩⟩;rw[hq] at hz;cases hz;exact⟨b,p,rfl,k2,k3⟩
 done:=by
  intro X hP hw hK hc i pins s σ H E I hf st hg;subst hP hw hK;obtain⟨ys,hq,hge⟩:=hg;obtain⟨q1,q2,q3,es',ep',q4,q5,q6⟩:=yh I hq;rw[hd] at q4;cases q4;obtain⟨f0,f1,f2,f3,f4,f5⟩:=hf it (by simp)
  exact Xi (I.ok.hd hc) st q1 hd rfl (by omega) λh' eb=>⟨rfl,I.turned (t':=s.toks) (λb o hb e=>eb b o hb e) f0 f1 f3 f4 f5⟩
 self:=λ_ _ _ _ _ st h=>wpAny_pyIter_keyiter st h
def Xl(tl:TE):TI:=λσ H R=>tl σ H λx H1=>∃a xs,x=.ref a/\H1 a=some (.dT xs)/\∀o,R (Itq a o) (upd H1 a (.frz o (.dT xs)))
theorem Xm{X:Cx}{tg l:Expr}{tl:TE}(hl:PE X l tl):PI X tg l (Xl tl):=by
 intro pins s σ H R I h
 refine thn (hl pins s σ H _ I h) λv s1 ⟨x,H1,I1,r1,q1⟩=>?_
 obtain⟨a,xs,e,hq,q⟩:=q1;subst e;cases r1;obtain⟨o,ho,I2⟩:=I1.freeze hq;obtain⟨q1,q2,q3,es,ep,q4,q5,q6⟩:=yh I2 bM;refine Xg q2 q1 q3 q4 ?_;refine⟨s1.heap.objs.size,[s1.heap.objs.size],_,_,upd H1 a (.frz o (.dT xs)),rfl,I2.kept (t':=s1.toks) λb o e=>zm _ e,Xk a _ o es ep q4,⟨_,zy _ rfl,rfl,rfl⟩,λb hb=>?_,q o⟩
 have e:b=s1.heap.objs.size:=by simpa using hb
 subst e;exact I2.fpOk (zc _) (I2.hok.fresh (zc _))
section
variable {K:Frag}{mg:Str->Option Value}{O:aq}{H F:Hp}{as:List Addr}
theorem Gr.tupF{b:Addr}{xs:List V}(hb:H b=some (.tup xs))(hf:F b=none):Gr H F as H (upd F b (.tup xs)) as :=
 ⟨λa o e _ hd=>aO (λz=>by rw[z,hb] at e;cases e;cases hd),λa u e=>by rw[aO (cH e hf)];exact e,⟨[],by simp,λ_ h=>nomatch h⟩,λ_ _ h _ _=>h,λ_ h=>h,λ_ _ _ h=>h⟩
theorem RlO.noT{b:Addr}{xs:List V}(r:RlO K mg O H F as)(hb:H b=some (.tup xs)):b∉as:=λhm=>by
 obtain⟨n,hn,e⟩:=List.mem_iff_getElem.mp hm
 have hO:n<O.length:=by rw[<-r.len];exact hn
 have q:=r.ob n b O[n] (by rw[zp hn,e]) (zp hO)
 revert q
 cases O[n] with
 |ins c fs=>rintro⟨C,dx,gs,_,h2,_⟩;rw[hb] at h2;cases h2
 |ml ds=>rintro⟨xs,h1,_⟩;rw[hb] at h1;cases h1
 |dt kvs=>rintro⟨xs,h1,_⟩;rw[hb] at h1;cases h1
 |df kvs=>rintro⟨o,xs,h1,_⟩;rw[hb] at h1;cases h1
 |dk kvs=>rintro⟨xs,h1,_⟩;rw[hb] at h1;cases h1
theorem yj:∀ks:List Key,Rps K F as (ks.map kV) (ks.map oJ)
 | []=>Rps.nil
 | .inl i::ks=>Rps.cons (show Rp K F as (.int i) (.int i) from rfl) (yj ks)
 | .inr x::ks=>Rps.cons (show Rp K F as (.str x) (.str x.cps.toList) from by
   show V.str x=V.str (S x.cps.toList)
   rw[show S x.cps.toList=x by cases x;simp[S]]) (yj ks)
theorem RlO.df{n:Nat}{a:Addr}{kvs:List (List Key×D)}(r:RlO K mg O H F as)(hn:as[n]?=some a)(hO:O[n]?=some (.df kvs)):∃o xs,H a=some (.frz o (.dT xs))/\DtR K F as xs kvs:=let ⟨o,xs,h1,h2,h3⟩:=r.ob n a _ hn hO;⟨o,xs,h1,h2,h3⟩
end
section
variable {X:Cx}{md:List Md}{P:Pt}{R:RR}
def ym(p:List Key×D):D:=.tup (p.1.map oJ)
def pq(m:M D):M (List D):=λρ O=>(m ρ O).bind λd O1=>match d with
 | .ob n=>match O1[n]? with
  |some (.dt kvs)=>.ok (kvs.map ym) (O1.set n (.df kvs))
  | _=>.no
 | _=>.no
theorem Xn{tg e:Expr}{m:M D}(h:VE X md P e m):VI X md P tg e (pq m):=(Xm h).imp λσ H Q q=>by
 obtain⟨ρ,O,F,as,ds,O',r,s,e,k⟩:=q;obtain⟨d,O1,e1,e⟩:=Res.bind_ok e;split at e
 ·rename_i n;split at e
  ·rename_i kvs e2;cases e;refine⟨ρ,_,F,as,_,_,r,s,e1,λv H1 F1 as1 g1 r1 hv=>?_⟩;obtain⟨a,rfl,ha⟩:=Rp.unO hv;obtain⟨xs,x1,x2⟩:=r1.dt ha e2;refine⟨a,xs,rfl,x1,λo=>k (Itq a o) (upd H1 a (.frz o (.dT xs))) F1 as1 (g1.trans (uv (zM ha) x1)) (r1.mutG ha ⟨o,xs,bM,x2.1,x2.2⟩) ⟨λi d H2 F2 as2 g2 r2 hd=>?_,λH2 F2 as2 g2 r2=>?_⟩⟩
   ·have hz:=g2.kz a o _ bM
    have hi:i<kvs.length:=by have:=(zl.mp hd).1;rwa [zf] at this
    have hi':i<xs.length:=by rw[x2.len];exact hi
    refine⟨⟨xs,hz,hi'⟩,λx H3 y=>?_⟩;obtain⟨rfl,hy⟩:=y;obtain⟨b,p,rfl,hp,hb⟩:=hy xs hz
    have hk:p.1=kvs[i].1:=by
     have h1:(xs.map (·.1))[i]?=some p.1:=by rw[zw,hp];rfl
     rw[x2.1,zw,zp hi] at h1
     injection h1 with h1
     exact h1.symm
    rw[zw,zp hi] at hd
    injection hd with hd
    subst hd
    have fin:∀F3:Hp,F3 b=some (.tup (p.1.map kV))->Rp X.K F3 as2 (.ref b) (ym kvs[i]):=λF3 h3=>⟨b,_,rfl,.inl h3,by rw[<-hk];exact yj p.1⟩
    cases hF:F2 b with
    |some u =>
     obtain⟨O2,r2'⟩:=r2
     have:=r2'.fh b u hF
     rw[hb] at this;cases this;exact⟨F2,Gr.refl,λ_ r=>r,fin F2 hF⟩
    |none=>exact⟨upd F2 b (.tup (p.1.map kV)),Gr.tupF hb hF,λ_ r=>r.frz hb hF (r.noT hb) rfl,fin _ bM⟩
   ·exact⟨xs,g2.kz a o _ bM,by rw[zf,x2.len];exact zc _⟩
  ·cases e
 ·cases e
end
def pA(i:Nat)(ms:MS):MS:=λρ O=>match ρ[i]? with
 |some (some (.ob n))=>match O[n]? with
  |some (.dt _)=>match ms ρ O with
   | .nx ρ2 O2=>match O2[n]? with
    |some (.df kvs)=>.nx ρ2 (O2.set n (.dt kvs))
    | _=>.no
   | _=>.no
  | _=>.no
 | _=>.no
section
variable {K:Frag}{mg:Str->Option Value}{md:List Md}{P:Pt}{ρ:aA}{σ:St}{O:aq}{H F H' F':Hp}{as as':List Addr}
theorem iJ.reH{m:Md}{v:V}{d:D}{a:Addr}{h:HO}(q:iJ P K H F as m v d)(ha:a∈as):iJ P K (upd H a h) F as m v d:=by
 cases m with
 |v=>exact q
 |s =>
  rcases q with q | ⟨c,xs,ds,e1,e2,e3,e4,e5,e6⟩
  ·exact .inl q
  ·exact .inr ⟨c,xs,ds,e1,e2,by rw[aO (λz=>e4 (by rw[z];exact ha))];exact e3,e4,e5,e6⟩
 |o =>
  rcases q with⟨h1,q⟩ | ⟨c,xs,ds,e1,e2,e3,e0,e4,e5,e6⟩
  ·exact .inl ⟨h1,q⟩
  ·exact .inr ⟨c,xs,ds,e1,e2,by rw[aO (λz=>e4 (by rw[z];exact ha))];exact e3,e0,e4,e5,e6⟩
theorem SlO.reH{a:Addr}{h:HO}(s:SlO K md P ρ σ H F as)(ha:a∈as):SlO K md P ρ σ (upd H a h) F as :=
 ⟨s.len,s.len',λc p z=>s.pd c p (by
  by_cases e:c=a
  ·rw[e,bM] at z;cases z
  ·rwa [aO e] at z),λi m d e1 e2=>let ⟨v,q,r⟩:=s.sl i m d e1 e2;⟨v,q,r.reH ha⟩,s.inj,s.pin⟩
theorem SlO.obAt{i n:Nat}(s:SlO K md P ρ σ H F as)(e:ρ[i]?=some (some (.ob n))):∃a,as[n]?=some a:=by
 have hi:i<md.length:=by rw[<-s.len'];exact(zl.mp e).1
 obtain⟨v,_,q⟩:=s.sl i _ _ (zp hi) e
 have hr:Rp K F as v (.ob n):=by
  revert q
  cases md[i] with
  |v=>exact λq=>q
  |s =>
   rintro(q | ⟨a,xs,ds,_,z,_⟩)
   ·exact q
   ·cases z
  |o =>
   rintro(⟨_,q⟩ | ⟨a,xs,ds,_,z,_⟩)
   ·exact q
   ·cases z
 obtain⟨a,_,ha⟩:=Rp.unO hr;exact⟨a,ha⟩
theorem GrS.reH{a:Addr}{h:HO}{xs:List (List Key×V)}(g:GrS P H F as H' F' as')(ha:a∈as)(hx:H a=some (.dT xs)):GrS P H F as (upd H' a h) F' as' :=
 ⟨g.fz,g.ff,g.nw,λc o p e hn hd=>by rw[aO (λz=>hn (by rw[z];exact ha))];exact g.fr c o p e hn hd,λc e=>by
  by_cases z:c=a
  ·rw[z,bM] at e;cases e
  ·rw[aO z] at e;exact g.dm c e,λc o u e=>by rw[aO (λz=>by rw[z,hx] at e;cases e)];exact g.kz c o u e⟩
end
section
variable {X:Cx}{md:List Md}{P:Pt}{R:RR}
theorem Xo(i:Nat){st:Stmt}{ms:MS}(h:VS X md P R st ms):VS X md P R st (pA i ms):=λpins s σ H D I q=>by
 obtain⟨ρ,O,F,as,r,sl,k⟩:=q;unfold pA at k;split at k
 ·rename_i n e1;split at k
  ·rename_i kv0 e2;split at k
   ·rename_i ρ2 O2 e3;split at k
    ·rename_i kvs e4;obtain⟨a,ha⟩:=sl.obAt e1;obtain⟨xs0,x1,_⟩:=r.dt ha e2;have hf:=I.base0 x1
     refine thn (h pins s σ H {nx:=λσ' H'=>∃F' as',GrS P H F as H' F' as'/\RlO X.K X.mg O2 H' F' as'/\SlO X.K md P ρ2 σ' H' F' as',rt:=λ_ _=>False} I ⟨ρ,O,F,as,r,sl,by rw[e3];exact λσ' H' F' as' g r s=>⟨F',as',g,r,s⟩⟩) λf s' z=>?_
     cases f with
     |next =>
      obtain⟨σ',H',I',F',as',g,r',s2⟩:=z;have ha':=g.at_ n a ha;have hm':=zM ha';obtain⟨o,xs,y1,y2⟩:=r'.df ha' e4;exact⟨σ',_,I'.thaw y1 hf,k σ' _ F' as' (g.reH (zM ha) x1) (r'.mutG ha' ⟨xs,bM,y2.1,y2.2⟩) (s2.reH hm')⟩
     |brk=>obtain⟨σ',H',_,z⟩:=z;exact z.elim
     |cont=>obtain⟨σ',H',_,z⟩:=z;exact z.elim
     |ret u=>obtain⟨v,σ',H',_,_,z⟩:=z;exact z.elim
    ·exact False.elim k
   ·exact False.elim k
  ·exact False.elim k
 ·exact False.elim k
def tsG(n:Nat)(y:D)(O:aq):Res D:=match qZ y,O[n]? with
 |some k,some (.df kvs)=>match gH kvs k with
  |some d=>.ok d O
  |none=>.no
 | _,_=>tsF n y O
def dG(mo my:M D):M D:=λρ O=>(mo ρ O).bind λx O1=>match x with
 | .ob n=>(my ρ O1).bind λy O2=>tsG n y O2
 | _=>.no
theorem rE{kk:Nat}(hk:bL X.K=true)(hr:bw kk X.A){o i:Expr}{pos:Pos}{mo my:M D}(ho:VE X md P o mo)(hi:VE X md P i my)(hs:qx i:=by intro _ _;rfl):VE X md P (.Subscript o i pos) (dG mo my):=λpins s σ H Q I q=>by
 obtain⟨ρ,O,F,as,d,O',r,sl,e,k⟩:=q;obtain⟨x,O1,e1,e⟩:=Res.bind_ok e
 cases x with
 |ob n =>
  obtain⟨y,O2,e2,e⟩:=Res.bind_ok e;unfold tsG at e;split at e
  ·rename_i ks kvs e3 e4;split at e
   ·rename_i d' e5;cases e;refine xC (mF hr) ho hi hs pins s σ H Q I ⟨ρ,_,F,as,_,_,r,sl,e1,λx H1 F1 as1 g1 r1 hx=>⟨ρ,_,F1,as1,_,_,r1,sl.step g1,e2,λu H2 F2 as2 g2 r2 hu=>?_⟩⟩;obtain⟨a,rfl,ha⟩:=Rp.unO hx;obtain⟨o,xs,x1,x2⟩:=r2.df (g2.at_ n a ha) e4;obtain⟨b,rfl,hb⟩:=Rp.tkey hk hu e3
    rcases x2.val (k:=ks) with⟨z1,z2⟩ | ⟨d2,v',z1,z2,z3⟩
    ·rw[z1] at e5;cases e5
    ·rw[z1] at e5;cases e5;refine⟨a,v',rfl,?_,k _ H2 F2 as2 (g1.trans g2) r2 z3⟩;rw[<-z2];exact .inr ⟨xs,ks,b,.inr ⟨o,x1⟩,rfl,r2.fh _ _ hb,rfl⟩
   ·cases e
  ·refine W6 hk hr ho hi hs pins s σ H Q I ⟨ρ,O,F,as,d,O',r,sl,?_,k⟩;unfold Ji;rw[e1];show Res.bind (my ρ O1) _=_;rw[e2];exact e
 | _=>cases e
end
section
variable {X:Cx}{md:List Md}{P:Pt}{R:RR}
end
section
variable {prog:Program}{w:World}
end
section
variable {X:Cx}{md:List Md}{P:Pt}{R:RR}
end
def bU(kvs:List (Key×D))(k:Key):Option D:=(kvs.find? λp=>decide (p.1=k)).map (·.2)
def jK(kvs:List (Key×D))(k:Key)(d:D):List (Key×D):=
 if(kvs.any λp=>decide (p.1=k))=true then kvs.map (λp=>if p.1=k then(p.1,d) else p) else kvs++[(k,d)]
def DkR(K:Frag)(F:Hp)(as:List Addr)(xs:List (Key×V))(kvs:List (Key×D)):Prop:=xs.map (·.1)=kvs.map (·.1)/\Rps K F as (xs.map (·.2)) (kvs.map (·.2))
section
variable {K:Frag}{mg:Str->Option Value}{O:aq}{H F H' F':Hp}{as as':List Addr}
theorem DkR.len{xs:List (Key×V)}{kvs:List (Key×D)}(h:DkR K F as xs kvs):xs.length=kvs.length:=by
 have:=congrArg List.length h.1
 simpa using this
theorem DkR.un{xs:List (Key×V)}{p:Key×D}{kvs:List (Key×D)}(h:DkR K F as xs (p::kvs)):∃v r,xs=(p.1,v)::r/\Rp K F as v p.2/\DkR K F as r kvs:=by
 obtain⟨h1,h2⟩:=h
 cases xs with
 |nil=>cases h1
 |cons x r =>
  obtain⟨v,r',e,q1,q2⟩:=h2.un;cases e;rw[zd,zd] at h1;have q3:=(List.cons.inj h1).1;refine⟨x.2,r,?_,q1,(List.cons.inj h1).2,q2⟩;rw[<-q3]
theorem DkR.val{k:Key}:∀{kvs:List (Key×D)}{xs:List (Key×V)},DkR K F as xs kvs->(bU kvs k=none/\fH xs k=none)\/∃d v,bU kvs k=some d/\fH xs k=some v/\Rp K F as v d
 | [],xs,h=>by
  have:=h.len
  cases xs with
  |nil=>exact .inl ⟨rfl,rfl⟩
  |cons=>cases this
 |p::kvs,xs,h=>by
  obtain⟨v,r,rfl,h1,h2⟩:=h.un
  by_cases e:p.1=k
  ·exact .inr ⟨p.2,v,by simp[bU,List.find?_cons,e],qy e,h1⟩
  ·rw[show bU (p::kvs) k=bU kvs k by simp[bU,List.find?_cons,e],qz (p:=(p.1,v)) e];exact DkR.val h2
theorem DkR.any{k:Key}:∀{kvs:List (Key×D)}{xs:List (Key×V)},DkR K F as xs kvs->(xs.any λp=>decide (p.1=k))=kvs.any λp=>decide (p.1=k)
 | [],xs,h=>by
  have:=h.len
  cases xs with
  |nil=>rfl
  |cons=>cases this
 |p::kvs,xs,h=>by
  obtain⟨v,r,rfl,h1,h2⟩:=h.un;rw[List.any_cons,List.any_cons,DkR.any h2]
theorem DkR.repl{k:Key}{v:V}{d:D}(hv:Rp K F as v d):∀{kvs:List (Key×D)}{xs:List (Key×V)},DkR K F as xs kvs ->
  DkR K F as (xs.map λp=>if p.1=k then(p.1,v) else p) (kvs.map λp=>if p.1=k then(p.1,d) else p)
 | [],xs,h=>by
  have:=h.len
  cases xs with
  |nil=>exact⟨rfl,Rps.nil⟩
  |cons=>cases this
 |p::kvs,xs,h=>by
  obtain⟨u,r,rfl,h1,h2⟩:=h.un;obtain⟨i1,i2⟩:=DkR.repl (k:=k) hv h2
  by_cases e:p.1=k
  ·rw[zd,zd,if_pos e,if_pos e];exact⟨by rw[zd,zd,i1],Rps.cons hv i2⟩
  ·rw[zd,zd,if_neg e,if_neg e];exact⟨by rw[zd,zd,i1],Rps.cons h1 i2⟩
theorem DkR.put{xs:List (Key×V)}{kvs:List (Key×D)}(h:DkR K F as xs kvs)(k:Key){v:V}{d:D}(hv:Rp K F as v d):DkR K F as (putK xs k v) (jK kvs k d):=by
 unfold putK jK;rw[h.any]
 split
 ·exact h.repl hv
 ·exact⟨by rw[zQ,zQ,h.1];rfl,by rw[zQ,zQ];exact Rps.snoc h.2 hv⟩
theorem RlO.dk{n:Nat}{a:Addr}{kvs:List (Key×D)}(r:RlO K mg O H F as)(hn:as[n]?=some a)(hO:O[n]?=some (.dk kvs)):∃xs,H a=some (.dK xs)/\DkR K F as xs kvs:=let ⟨xs,h1,h2,h3⟩:=r.ob n a _ hn hO;⟨xs,h1,h2,h3⟩
end
section
variable {X:Cx}{md:List Md}{P:Pt}{R:RR}
def yo:M D:=λ_ O=>.ok (.ob O.length) (O++[.dk []])
theorem Xp{pos:Pos}:VE X md P (.Dict [] [] pos) yo:=Ua.imp λσ H Q q p hp=>by
 obtain⟨ρ,O,F,as,d,O',r,s,e,k⟩:=q;cases e;refine k _ _ F (as++[p]) (Gr.snoc hp) ((r.lay hp).snocO (r.unF hp) (λz=>r.all z hp) ⟨[],bM,rfl,Rps.nil⟩) (Rp.mkO ?_);rw[<-r.len,zI (zc _),Nat.sub_self];rfl
def j8(mo my mv:M D):MS:=λρ O=>match mv ρ O with
 | .ok d O1=>match mo ρ O1 with
  | .ok (.ob n) O2=>match my ρ O2 with
   | .ok y O3=>match keyOf y,O3[n]? with
    |some k,some (.dk kvs)=>if kvs.length<1000000 then .nx ρ (O3.set n (.dk (jK kvs k d))) else .no
    | _,_=>.no
   | _=>.no
  | _=>.no
 | _=>.no
theorem Jk{kk:Nat}(hr:bw kk X.A){o i value:Expr}{pos pos':Pos}{mo my mv:M D}(ho:VE X md P o mo)(hi:VE X md P i my)(hv:VE X md P value mv)
  (hs:swapsWith value (some (.Subscript o i pos')) pos.line X.env=pure false:=by rfl):VS X md P R (.Assign [.Subscript o i pos'] value pos) (j8 mo my mv):=
 (G5 (mF hr) ho hi hv hs).imp λD σ H q=>by
  obtain⟨ρ,O,F,as,r,s,k⟩:=q;unfold j8 at k;split at k
  ·rename_i d O1 e1;split at k
   ·rename_i n O2 e2;split at k
    ·rename_i y O3 e3;split at k
     ·rename_i ks kvs e4 e5;split at k
      ·rename_i hz;refine⟨ρ,O,F,as,_,_,r,s,e1,λv H1 F1 as1 g1 r1 hv=>⟨ρ,O1,F1,as1,_,_,r1,s.step g1,e2,λx H2 F2 as2 g2 r2 hx=>⟨ρ,O2,F2,as2,_,_,r2,s.step (g1.trans g2),e3,λu H3 F3 as3 g3 r3 hu=>?_⟩⟩⟩;obtain⟨a,rfl,ha⟩:=Rp.unO hx;have ha3:=g3.at_ n a ha;obtain⟨xs,x1,x2⟩:=r3.dk ha3 e5;have hkv:u=kV ks:=(show Rp X.K F3 as3 u y from hu).key e4;subst hkv;have hv3:=(show Rp X.K F1 as1 v d from hv).gr (g2.trans g3)
       have hl:xs.length<sizeLine:=by rw[x2.len];exact zF hz (by decide)
       have g4:Gr H3 F3 as3 (upd H3 a (.dK (putK xs ks v))) F3 as3:=uv (zM ha3) x1;have gg:=((g1.trans g2).trans g3).trans g4;obtain⟨z1,z2⟩:=x2.put ks hv3;exact⟨a,_,rfl,lq.k x1 hl,k σ _ F3 as3 gg.toS (r3.mutG ha3 ⟨_,bM,z1,z2⟩) (s.step gg)⟩
      ·exact False.elim k
     ·exact False.elim k
    ·exact False.elim k
   ·exact False.elim k
  ·exact False.elim k
def f9(mo my:M D):M D:=λρ O=>(mo ρ O).bind λx O1=>match x with
 | .ob n=>(my ρ O1).bind λy O2=>match keyOf y,O2[n]? with
  |some k,some (.dk kvs)=>match bU kvs k with
   |some d=>.ok d O2
   |none=>.no
  | _,_=>.no
 | _=>.no
theorem uB{kk:Nat}(hr:bw kk X.A){o i:Expr}{pos:Pos}{mo my:M D}(ho:VE X md P o mo)(hi:VE X md P i my)(hs:qx i:=by intro _ _;rfl):VE X md P (.Subscript o i pos) (f9 mo my):=
 (xC (mF hr) ho hi hs).imp λσ H Q q=>by
  obtain⟨ρ,O,F,as,d,O',r,s,e,k⟩:=q;obtain⟨x,O1,e1,e⟩:=Res.bind_ok e
  cases x with
  |ob n =>
   obtain⟨y,O2,e2,e⟩:=Res.bind_ok e;split at e
   ·rename_i ks kvs e3 e4;split at e
    ·rename_i d' e5;cases e;refine⟨ρ,_,F,as,_,_,r,s,e1,λx H1 F1 as1 g1 r1 hx=>⟨ρ,_,F1,as1,_,_,r1,s.step g1,e2,λu H2 F2 as2 g2 r2 hu=>?_⟩⟩;obtain⟨a,rfl,ha⟩:=Rp.unO hx;obtain⟨xs,x1,x2⟩:=r2.dk (g2.at_ n a ha) e4;have hkv:u=kV ks:=(show Rp X.K F2 as2 u y from hu).key e3;subst hkv
     rcases x2.val (k:=ks) with⟨z1,z2⟩ | ⟨d2,v',z1,z2,z3⟩
     ·rw[z1] at e5;cases e5
     ·rw[z1] at e5;cases e5;refine⟨a,v',rfl,?_,k _ H2 F2 as2 (g1.trans g2) r2 z3⟩;rw[<-z2];exact fL.k x1
    ·cases e
   ·cases e
  | _=>cases e
def nD(mo my mz:M D):M D:=λρ O=>(mo ρ O).bind λx O1=>match x with
 | .ob n=>match O1[n]? with
  |some (.dk _)=>(my ρ O1).bind λy O2=>(mz ρ O2).bind λz O3=>match keyOf y,O3[n]? with
   |some k,some (.dk kvs)=>.ok ((bU kvs k).getD z) O3
   | _,_=>.no
  | _=>.no
 | _=>.no
theorem Jl{kk:Nat}(hr:bw kk X.A){o e f:Expr}{apos cpos:Pos}{mo my mz:M D}(ho:VE X md P o mo)(he:VE X md P e my)(hf:VE X md P f mz)(m:M2 X o "get" apos e f cpos:=by exact⟨rfl,rfl,rfl,rfl⟩):VE X md P (.Call (.Attribute o "get" apos) [e,f] [] cpos) (nD mo my mz):=
 (Uk (mF hr) ho he hf m).imp λσ H Q q=>by
  obtain⟨ρ,O,F,as,d,O',r,s,e,k⟩:=q;obtain⟨x,O1,e1,e⟩:=Res.bind_ok e;split at e
  ·rename_i n;split at e
   ·rename_i kv0 e0;obtain⟨y,O2,e2,e⟩:=Res.bind_ok e;obtain⟨z,O3,e3,e⟩:=Res.bind_ok e;split at e
    ·rename_i ks kvs e4 e5;cases e;refine⟨ρ,_,F,as,_,_,r,s,e1,λv H1 F1 as1 g1 r1 hv=>?_⟩;obtain⟨a,rfl,ha⟩:=Rp.unO hv;obtain⟨xs0,w1,w2⟩:=r1.dk ha e0;refine⟨a,rfl,.inl ⟨xs0,.inl w1⟩,ρ,_,F1,as1,_,_,r1,s.step g1,e2,λu H2 F2 as2 g2 r2 hu=>⟨ρ,_,F2,as2,_,_,r2,s.step (g1.trans g2),e3,λw H3 F3 as3 g3 r3 hw=>?_⟩⟩;obtain⟨xs,x1,x2⟩:=r3.dk ((g2.trans g3).at_ n a ha) e5;have hkv:u=kV ks:=((show Rp X.K F2 as2 u y from hu).gr g3).key e4;subst hkv;have g13:=(g1.trans g2).trans g3;refine⟨_,fL.k x1,?_⟩
     rcases x2.val (k:=ks) with⟨z1,z2⟩ | ⟨d',v',z1,z2,z3⟩
     ·rw[z1] at k;rw[z2];exact k _ H3 F3 as3 g13 r3 hw
     ·rw[z1] at k;rw[z2];exact k _ H3 F3 as3 g13 r3 z3
    ·cases e
   ·cases e
  ·cases e
def pB(neg:Bool)(my mo:M D):M D:=λρ O=>(my ρ O).bind λy O1=>(mo ρ O1).bind λx O2=>match x with
 | .ob n=>match keyOf y,O2[n]? with
  |some k,some (.dk kvs)=>.ok (.bl (neg != (bU kvs k).isSome)) O2
  | _,_=>.no
 | _=>.no
theorem Xq{mo my:M D}{σ:St}{H:Hp}{Q:VK}(q:tM X.K X.mg md P (rO X.K) (pB false my mo) σ H Q):G4 (tM X.K X.mg md P (rV X.K) my) (tM X.K X.mg md P (rV X.K) mo) σ H Q:=by
 obtain⟨ρ,O,F,as,d,O',r,s,e,k⟩:=q;obtain⟨y,O1,e1,e⟩:=Res.bind_ok e;obtain⟨x,O2,e2,e⟩:=Res.bind_ok e;split at e
 ·rename_i n;split at e
  ·rename_i ks kvs e3 e4;cases e;refine⟨ρ,_,F,as,_,_,r,s,e1,λu H1 F1 as1 g1 r1 hu=>⟨ρ,_,F1,as1,_,_,r1,s.step g1,e2,λx H2 F2 as2 g2 r2 hx=>?_⟩⟩;obtain⟨a,rfl,ha⟩:=Rp.unO hx;obtain⟨xs,x1,x2⟩:=r2.dk ha e4;have hkv:u=kV ks:=((show Rp X.K F1 as1 u y from hu).gr g2).key e3;subst hkv;refine⟨a,_,rfl,fL.k x1,?_⟩
   rcases x2.val (k:=ks) with⟨z1,z2⟩ | ⟨d',v',z1,z2,z3⟩
   ·rw[z1] at k;rw[z2];exact k _ H2 F2 as2 (g1.trans g2) r2 (.inl ⟨rfl,Rp.bl⟩)
   ·rw[z1] at k;rw[z2];exact k _ H2 F2 as2 (g1.trans g2) r2 (.inl ⟨rfl,Rp.bl⟩)
  ·cases e
 ·cases e
theorem Xr{kk:Nat}(hr:bw kk X.A){o i:Expr}{pos:Pos}{mo my:M D}(hi:VE X md P i my)(ho:VE X md P o mo)(hm:behindInMarks .In o=false:=by with_unfolding_all rfl):TsE X md P (.Compare i [.In] [o] pos) (aJ (pB false my mo)):=
 (wM (T6 (mF hr) hi ho) hm).imp λσ H Q h=>Xq (qI h)
end
theorem Rps.reverse{K:Frag}{F:Hp}{as:List Addr}:∀{ds:List D}{xs:List V},Rps K F as xs ds->Rps K F as xs.reverse ds.reverse
 | [],xs,h=>by rw[h.un0];exact Rps.nil
 |d::ds,xs,h=>by
  obtain⟨x,r,rfl,h1,h2⟩:=h.un;rw[List.reverse_cons,List.reverse_cons];exact Rps.snoc (Rps.reverse h2) h1
section
variable {X:Cx}{md:List Md}{P:Pt}{R:RR}
def rF(i:Nat):MS:=λρ O=>match ρ[i]? with
 |some (some (.lst ds))=>.nx (ρ.set i (some (.lst ds.reverse))) O
 | _=>.no
theorem Xu(i:Nat){x:Str}{p apos cpos pos:Pos}(hm:md[i]?=some .o:=by rfl)(hN:X.N[i]?=some x:=by rfl)(hv:Vis X.env.scope x:=by first | exact Or.inl rfl | exact Or.inr (Or.inl rfl) | exact Or.inr (Or.inr rfl))
  (hd:(x == ("__debug__":Str))=false:=by decide) (hcd:(x == ("__classdict__":Str))=false:=by decide)
  (hbase:attributeBase (.Name x p) "reverse" X.env (eval (.Name x p) X.env)=eval (.Name x p) X.env:=by rfl) (hline:(apos.endLine == cpos.line)=true:=by rfl)
  (hsw:swapsWith (.Call (.Attribute (.Name x p) "reverse" apos) [] [] cpos) none pos.line X.env=pure false:=by rfl):
  VS X md P R (.Expr (.Call (.Attribute (.Name x p) "reverse" apos) [] [] cpos) pos) (rF i):=
 (wN (Tj PySem.F.plainAttrs_list PySem.F.slot_list_reverse PySem.F.type_list_reverse Tt (ou (i:=i) hN hv hd hcd) hbase hline) hsw).imp λD σ H q=>by
  obtain⟨ρ,O,F,as,r,s,k⟩:=q;unfold rF at k;split at k
  ·rename_i ds e2;obtain⟨a,xs,h1,h2,h3,h4,h5,h6⟩:=s.own hm e2
   have hn:H a≠none:=by rw[h2];exact λz=>nomatch z
   exact⟨_,h1,.inl ⟨rfl,xs,.inl (.inl h2)⟩,a,xs,rfl,rfl,h2,k σ _ F as (Ip h2 h5) (r.mut h3 h4) (s.mut hm e2 h1 h3 h4 h5 (Rps.reverse h6))⟩
  ·exact False.elim k
def Xv(te ts:TE)(K:Frag):TE:=λσ H Q=>te σ H λx H1=>ts σ H1 λy H2=>y=.int (-1)/\∃a xs,x=.ref a/\SqL K H2 a xs/\∀p,H2 p=none->Q (.ref p) (upd H2 p (.lst xs.reverse))
theorem Xw{e st:Expr}{te ts:TE}{p2 pos:Pos}(he:PE X e te)(hst:PE X st ts)(hsb:∀v iv,∃ops,subscripted (.Slice none none (some st) p2) false v iv=operate ops (getItem v iv)):PE X (.Subscript e (.Slice none none (some st) p2) pos) (Xv te ts X.K):=by
 intro pins s σ H Q I h;refine Subscript_ (thn (he pins s σ H _ I h) λv s1 ⟨x,H1,I1,r1,q1⟩=>wpAny_Slice ?_);rw[evalPart_none];refine zb (zb ?_);rw[evalPart_some]
 refine thn (hst pins s1 σ H1 _ I1 q1) λu s2 ⟨y,H2,I2,ry,hy,a,xs,hxa,hx,q⟩=>?_
 subst hy;subst hxa;obtain⟨t,rfl⟩:=ry;cases r1
 have I4:Inv X pins σ H2 {s2 with heap:=s2.heap.push {cls:=.type "slice",data:=.fields #[.none,.none,.int (-1) t]}}:=I2.kept (t':=s2.toks) λb ob q=>zm _ q
 obtain⟨its,r,ht,hz⟩:=I4.list hx;have hlen:=r.length;show wpAny (model X.prog X.w) X.A (subscriptTail e (.Slice none none (some st) p2) (.ref a) (.ref s2.heap.objs.size)) (EP X pins σ Q) X.xe {s2 with heap:=s2.heap.push {cls:=.type "slice",data:=.fields #[.none,.none,.int (-1) t]}};obtain⟨ops,hop⟩:=hsb (.ref a) (.ref s2.heap.objs.size);refine tail_any (ops:=ops) ht.isList.typeIs slot_list_getitem.lookup ?_ hop;refine wpAny_getItem_list_slice ht.isList (Heap.IsSliceOf.new ..) .none .none (.int (-1) t) (by decide) ?_ (by rw[zq]<;>omega);rw[PySem.W.krv_pick];refine⟨.ref _,_,I4.laid (t':=s2.toks) (o:=.lst xs.reverse) (λb ob q=>zm _ q) (zc _) ?_,rfl,q _ (I4.hok.fresh (zc _))⟩
 exact⟨by rw[List.length_reverse];exact hz,_,0,r.reverse,zy _ rfl⟩
def rG(m ms:M D):M D:=λρ O=>(m ρ O).bind λd O1=>(ms ρ O1).bind λy O2=>match bB O2 d,y with
 | .lst ds,.int (-1)=>.ok (.lst ds.reverse) O2
 | _,_=>.no
theorem Xx{e st:Expr}{p2 pos:Pos}{m ms:M D}(he:SE X md P e m)(hst:VE X md P st ms)(hsb:∀v iv,∃ops,subscripted (.Slice none none (some st) p2) false v iv=operate ops (getItem v iv):=by intro v iv;exact⟨_,by with_unfolding_all rfl⟩):OE X md P (.Subscript e (.Slice none none (some st) p2) pos) (rG m ms):=
 (Xw he hst hsb).imp λσ H Q q=>by
  obtain⟨ρ,O,F,as,d,O',r,s,e,k⟩:=q;obtain⟨x,O1,e1,e⟩:=Res.bind_ok e;obtain⟨y,O2,e2,e⟩:=Res.bind_ok e;split at e
  ·rename_i ds e3;cases e;refine⟨ρ,_,F,as,_,_,r,s,e1,λv H1 F1 as1 g1 r1 hv=>⟨ρ,_,F1,as1,_,_,r1,s.step g1,e2,λu H2 F2 as2 g2 r2 hu=>⟨(show Rp X.K F2 as2 u (.int (-1)) from hu).unI,?_⟩⟩⟩;have hk:=Sv.lk (hv.gr g2) r2;rw[e3] at hk;obtain⟨p,xs,rfl,h1,h2⟩:=hk.list r2.fh;exact⟨p,xs,rfl,h1.sq,λq hq=>oO r2 (λv' H' F' g' r' o=>k v' H' F' as2 (g1.trans (g2.trans g')) r' (fj _ _ _ _ _ _ _ (λa ha=>(g1.trans g2).dm a ha) o)) hq (Rps.reverse h2)⟩
  ·cases e
def yp(a z:Int):M D:=λ_ O=>.ok (.ob O.length) (O++[.dk [(.inl a,.int z)]])
theorem Xy{a z:Int}{ke ve:Expr}{pos:Pos}(hk:PE X ke (tC (.int a)))(hv:PE X ve (tC (.int z))):VE X md P (.Dict [some ke] [ve] pos) (yp a z):=
 (Ug (Ud hk hv Uc) rfl rfl (λw=>nomatch w) (show 1<=15 by decide)).imp λσ H Q q p hp=>by
  obtain⟨ρ,O,F,as,d,O',r,s,e,k⟩:=q;cases e;refine⟨bM,[(.inl a,.int z)],rfl,show 1<=15 by decide,?_⟩;have r1:=(r.lay (o:=.dK []) hp).snocO (o:=.dk []) (r.unF hp) (λw=>r.all w hp) ⟨[],bM,rfl,Rps.nil⟩
  have ha:(as++[p])[O.length]?=some p:=by
   rw[<-r.len,zI (zc _),Nat.sub_self];rfl
  have r2:=r1.mutG (n:=O.length) (h:=.dK [(.inl a,.int z)]) (o:=.dk [(.inl a,.int z)]) ha ⟨_,bM,rfl,Rps.cons Rp.int Rps.nil⟩
  have e2:(O++[Ob.dk []]).set O.length (.dk [(.inl a,.int z)])=O++[.dk [(.inl a,.int z)]]:=by
   rw[List.set_append_right _ _ (zc _),Nat.sub_self];rfl
  rw[e2] at r2;exact k _ _ F (as++[p]) ((Gr.snoc hp).trans (uv (zO _ (zn.mpr rfl)) bM)) r2 (Rp.mkO ha)
end
end L2
namespace L2
open PySem PySem.Spec PyProof.Rows PySem.W PySem.Calls
def j9(ss:List Str)(x:Str):List Str:=if x∈ss then ss else ss++[x]
def pC(es:Array (Int×Value)):List Str:=es.toList.map λe=>strOf e.2
def uC(prog:Program)(w:World)(h:Heap)(a:Addr)(ss:List Str)(o:Obj)(es:Array (Int×Value))(ep:Nat)(t:SetTable):Prop :=
 h.get? a=some o/\o.ExactSet/\o.data=.set es ep t/\ElemsOf (PySem.strKind prog w) es.toList/\(pC es).Perm ss/\es.size<scanBound/\t.fits es.size=true/\(es.size=0\/t.plain=false)/\t.led = !w.params.followText "set-order"
def fK(prog:Program)(w:World)(h:Heap)(a:Addr)(ss:List Str):Prop:=∃o es ep t,uC prog w h a ss o es ep t
section
variable {prog:Program}{w:World}{A:Around}{E:Value->Shared->Prop}{s:Shared}{a:Addr}{ss:List Str}
theorem fK.at{h h':Heap}(x:fK prog w h a ss)(k:∀o,h.get? a=some o->h'.get? a=some o):fK prog w h' a ss :=
 let ⟨o,es,ep,t,h1,r⟩:=x;⟨o,es,ep,t,k o h1,r⟩
theorem fK.len{h:Heap}(x:fK prog w h a ss):ss.length<scanBound:=by
 obtain⟨o,es,ep,t,h1,h2,h3,h4,h5,h6,_⟩:=x;rw[<-h5.length_eq];unfold pC;rw[zf];exact h6
theorem Xz(t:SetTable)(es:Array (Int×Value))(n:Nat)(h:t.plain=false):(relayAll t es n).2.1.plain=false:=by
 unfold relayAll
 split
 ·rename_i t' order e;dsimp only
  split
  ·unfold SetTable.relaid SetTable.laid at e
   cases q:SetTable.layClean (SetTable.sizeAbove n - 1) (Array.map (λx=>x.fst) es) with
   |none=>rw[q] at e;cases e
   |some ow =>
    rw[q] at e;cases e;exact h
  ·rfl
 ·rfl
theorem XC(t:SetTable)(es:Array (Int×Value))(n:Nat):(relayAll t es n).2.1.led=t.led:=by
 unfold relayAll
 split
 ·rename_i t' order e;dsimp only
  split
  ·unfold SetTable.relaid SetTable.laid at e
   cases q:SetTable.layClean (SetTable.sizeAbove n - 1) (Array.map (λx=>x.fst) es) with
   |none=>rw[q] at e;cases e
   |some ow =>
    rw[q] at e;cases e;rfl
  ·rfl
 ·rfl
theorem XD(t:SetTable)(n:Nat):(t.orStandIn n).led=t.led:=by
 unfold SetTable.orStandIn
 split<;>rfl
theorem XF(t:SetTable)(es:Array (Int×Value))(h:Int)(x:Value):(layNew t es h x).2.1.led=t.led:=by
 unfold layNew
 split
 ·exact XD _ _
 ·rfl
theorem Jm{h:Heap}{o:Obj}{es:Array (Int×Value)}{ep:Nat}{t:SetTable}(ho:h.get? a=some o)(hex:o.ExactSet)(hd:o.data=.set es ep t)
  {es':Array (Int×Value)}{t':SetTable} (hel:ElemsOf (PySem.strKind prog w) es'.toList) (hp:(pC es').Perm ss) (hb:es'.size<scanBound) (hf:t'.fits es'.size=true) (hpl:t'.plain=false) (hled:t'.led = !w.params.followText "set-order"):
  (h.update a (Obj.putSet es' t')).get? a=some {o with data:=.set es' (ep+1) t'}/\fK prog w (h.update a (Obj.putSet es' t')) a ss:=by
 have hg:(h.update a (Obj.putSet es' t')).get? a=some {o with data:=.set es' (ep+1) t'}:=by
  have:=Heap.get?_update_self (Obj.putSet es' t') ho (by rw[putSet_of es' t' hd];rfl)
  rw[putSet_of es' t' hd] at this;exact this
 exact⟨hg,_,es',ep+1,t',hg,hex,rfl,hel,hp,hb,hf,.inr hpl,hled⟩
theorem Jo{g:Bool->Sem Unit}(hg:∀(b:Bool) (s₁:Shared) (Q':Unit->Shared->Prop),Q' () s₁->wpAny (model prog w) A (g b) Q' E s₁)
  {o:Obj}{es:Array (Int×Value)}{ep:Nat}{t:SetTable} (ho:s.heap.get? a=some o) (hex:o.ExactSet) (hd:o.data=.set es ep t)
  {es1:Array (Int×Value)}{t2:SetTable} (hel1:ElemsOf (PySem.strKind prog w) es1.toList) (hp1:(pC es1).Perm ss) (hb1:es1.size<scanBound) (hf2:t2.fits es1.size=true) (hpl:t2.plain=false) (hled:t2.led = !w.params.followText "set-order") {wasDummy:Bool}{R:Option Bool->Shared->Prop}
  (h:∀h',Heap.SameBut a s.heap h'->fK prog w h' a ss->R (some true) {s with heap:=h'}):
  wpAny (model prog w) A (do
    storeSet a es1 t2
    if(!wasDummy&&t2.tooFull)=true then do
      g (relayAll t2 es1 (SetTable.grown es1.size)).2.2
      storeSet a (relayAll t2 es1 (SetTable.grown es1.size)).1 (relayAll t2 es1 (SetTable.grown es1.size)).2.1
      pure (some true)
     else pure (some true)) R E s:=by
 refine za (wpAny_storeSet_of ho hd ?_ (fits_of_scanBound hb1));obtain⟨ho1,hS1⟩:=Jm (prog:=prog) (w:=w) ho hex hd hel1 hp1 hb1 hf2 hpl hled;have hsb1:=Heap.SameBut.update s.heap a (Obj.putSet es1 t2)
 split
 ·have hp:=relayAll_perm t2 es1 (SetTable.grown es1.size);have hfr:=relayAll_fits t2 es1 (SetTable.grown es1.size);have hpr:=Xz t2 es1 (SetTable.grown es1.size) hpl;have hlr:=XC t2 es1 (SetTable.grown es1.size)
  generalize hRl:relayAll t2 es1 (SetTable.grown es1.size)=Rl at hp hfr hpr hlr ⊢
  obtain⟨es2,t3,gave2⟩:=Rl;dsimp only at hp hfr hpr hlr ⊢;have hel2:ElemsOf (PySem.strKind prog w) es2.toList:=hel1.perm hp
  have hsz:es2.size=es1.size:=by rw[<-Array.length_toList,hp.length_eq,Array.length_toList]
  have hb2:es2.size<scanBound:=by rw[hsz];exact hb1
  refine za (hg _ _ _ ?_);refine za (wpAny_storeSet_of ho1 rfl ?_ (fits_of_scanBound hb2));obtain⟨_,hS2⟩:=Jm (prog:=prog) (w:=w) ho1 hex rfl hel2 ((hp.map _).trans hp1) hb2 hfr hpr (hlr.trans hled);exact zb (h _ (hsb1.trans (Heap.SameBut.update _ a _)) hS2)
 ·exact zb (h _ hsb1 hS1)
theorem XH{x:Str}{tk:Tok}{Q:Bool->Shared->Prop}(hS:fK prog w s.heap a ss)(hroom:ss.length+1<scanBound)
  (h:∀h' b,Heap.SameBut a s.heap h'->fK prog w h' a (j9 ss x)->Q b {s with heap:=h'}):
  wpAny (model prog w) A (setAddHashed a (.str x tk) ((PySem.strKind prog w).hash x)) Q E s:=by
 obtain⟨o,es,ep,t,ho,hex,hd,hel,hp,hb,hf,hpl,hled⟩:=hS
 have hkey:(PySem.strKind prog w).is x (.str x tk)=true:=by
  show Value.isStrOf x (.str x tk)=true;simp[Value.isStrOf]
 have hlen:es.size=ss.length:=by rw[<-hp.length_eq];unfold pC;rw[zf,Array.length_toList]
 have hb1:es.size+1<scanBound:=by rw[hlen];exact hroom
 have hsc:(Value.str x tk).scannable=true:=rfl
 have key:∀e∈es.toList,∀y,(PySem.strKind prog w).is y e.2=true↔strOf e.2=y:=λe he y=>by
  obtain⟨⟨k,hk,_⟩,_⟩:=hel e he;obtain⟨t',ht⟩:=Value.isStrOf_shape hk;rw[ht];show Value.isStrOf y (.str k t')=true↔k=y;simp[Value.isStrOf]
 unfold setAddHashed setAddHashedIn;refine zT (za (wpAny_setState_of ho hd hf ?_));dsimp only;rw[byScan_of hsc hb hel];simp only[↓reduceIte];unfold setAddByScan;refine za ?_;refine za (jd ?_);refine za (wpAny_setScan_of hkey ho hd hf hel ?_)
 cases hr:List.findIdx? (λe=>(PySem.strKind prog w).is x e.2) es.toList with
 |some j =>
  dsimp only;obtain⟨hj,hpj,_⟩:=List.findIdx?_eq_some_iff_getElem.mp hr;have hx:x∈ss:=hp.mem_iff.mp (zH.mpr ⟨es.toList[j],jn hj,(key _ (jn hj) x).mp hpj⟩);refine zb (zb ?_)
  have e:s = {s with heap:=s.heap}:=by cases s;rfl
  rw[e];exact h s.heap _ (Heap.SameBut.refl a s.heap) ⟨o,es,ep,t,ho,hex,hd,hel,by rw[j9,if_pos hx];exact hp,hb,hf,hpl,hled⟩
 |none =>
  dsimp only
  have hx:x∉ss:=λhx=>by
   obtain⟨e,he,q⟩:=zH.mp (hp.mem_iff.mpr hx)
   have:=List.findIdx?_eq_none_iff.mp hr e he
   rw[(key e he x).mpr q] at this;exact Bool.noConfusion this
  have hgw:∀(b:Bool) {s₁:Shared}{Q':Unit->Shared->Prop},Q' () s₁->wpAny (model prog w) A (match b with | true=>rule "set.scan.the-table-gave-way" | false=>pure ()) Q' E s₁ :=
   λb s₁ Q' hq=>by cases b<;>first | exact zb hq | exact jd hq
  have hperm:=layNew_perm t es ((PySem.strKind prog w).hash x) (.str x tk);have hfits:=layNew_fits t es ((PySem.strKind prog w).hash x) (.str x tk);have hll:=XF t es ((PySem.strKind prog w).hash x) (.str x tk)
  generalize hL:layNew t es ((PySem.strKind prog w).hash x) (.str x tk)=L at hperm hfits hll ⊢
  obtain⟨es1,t1,wasDummy,gave⟩:=L;dsimp only at hperm hfits hll ⊢;rw[Array.toList_push] at hperm;have hel1:ElemsOf (PySem.strKind prog w) es1.toList:=(hel.push hkey hsc).perm hperm
  have hp1:(pC es1).Perm (j9 ss x):=by
   rw[j9,if_neg hx];refine(hperm.map λe=>strOf e.2).trans ?_;rw[zQ];exact hp.append_right _
  have hb1':es1.size<scanBound:=by rw[<-Array.length_toList,hperm.length_eq,zz,Array.length_toList];simpa using hb1
  refine za (hgw _ ?_)
  split
  ·refine za ?_;refine za (m:=hashByValue 8 (.str x tk)) (zb ?_);refine zb ?_;simp only[Bool.false_eq_true,↓reduceIte];refine Jo (t2:={t1 with plain:=false}) ?_ ho hex hd hel1 hp1 hb1' (SetTable.fits_plain_off hfits) rfl (hll.trans hled) ?_
   ·intro b s₁ Q' hq;cases b<;>first | exact zb hq | exact jd hq
   ·intro h' hsb hS';dsimp only;exact zb (h h' _ hsb hS')
  ·rename_i hnp;refine za (zb ?_);simp only[↓reduceIte];refine Jo ?_ ho hex hd hel1 hp1 hb1' hfits (by simpa using hnp) (hll.trans hled) ?_
   ·intro b s₁ Q' hq;cases b<;>first | exact zb hq | exact jd hq
   ·intro h' hsb hS';dsimp only;exact zb (h h' _ hsb hS')
theorem isS(x:Str)(t:Tok):(PySem.strKind prog w).is x (.str x t)=true:=by
 show Value.isStrOf x (.str x t)=true;simp[Value.isStrOf]
theorem map_getD(ns:List Str):(List.range' 0 ns.length).map (λi=>ns.getD i ⟨#[]⟩)=ns:=by
 apply List.ext_getElem
 ·simp
 ·intro i h1 h2;simp[jf,h2]
theorem XJ{R:Result->Shared->Prop}{I:Addr}{fp wr:List Addr}{G:Array GenState->Array GenState->Prop}{n:Nat}{P:Nat->Value->Prop}{St:Nat->Shared->Prop}(W:WalksS prog w A.in1 I fp wr G n P St)(S:Addr)(hSf:S∉fp)
  (val:Nat->Str) (hval:∀i v,P i v->∃t,v=.str (val i) t) (hb:n+1<scanBound):
  ∀(k i:Nat) (s:Shared) (ss:List Str),n - i=k->i<=n->St i s->ss.length<=i->fK prog w s.heap S ss ->
   (∀s',Moved (S::wr) G s s'->fK prog w s'.heap S (((List.range' i (n - i)).map val).foldl j9 ss)->R (.ok (.ret .none)) s') ->
   codeAny (model prog w) A (.builtin "set.update.loop" ⟨[.ref S,.ref I],[]⟩) R s:=by
 have hSw:S∉wr:=λh=>hSf (W.sub _ h)
 have hsub:∀b∈wr,b∈S::wr:=λb hb=>zB _ hb
 intro k
 induction k with
 |zero =>
  intro i s ss hk hi hst hle hS hR
  have hin:i=n:=by omega
  subst hin;refine ji PyProof.Rows.F.entry_set_update_loop ?_;rw[Around.under_plainId PyProof.Rows.F.plain_set_update_loop _];show wpAny _ A.in1 (pyNext (.ref I) >>= _) _ _ s;refine za (W.done s _ _ hst λs' hm=>?_);show wpAny _ A.in1 (ret Value.none) _ _ s';refine zb (hR s' (hm.mono hsub) ?_);rw[Nat.sub_self]
  exact hS.at λo e=>hm.heap S _ hSw e
 |succ k ih =>
  intro i s ss hk hi hst hle hS hR
  have hlt:i<n:=by omega
  refine ji PyProof.Rows.F.entry_set_update_loop ?_;rw[Around.under_plainId PyProof.Rows.F.plain_set_update_loop _];show wpAny _ A.in1 (pyNext (.ref I) >>= _) _ _ s;refine za (W.item i s _ _ hlt hst λv s' hP hst' hm=>?_);obtain⟨t,rfl⟩:=hval i v hP
  have hS':fK prog w s'.heap S ss:=hS.at λo e=>hm.heap S _ hSw e
  show wpAny _ A.in1 (holding [Value.str (val i) t] (setAdd S (.str (val i) t)) >>= _) _ _ s';refine za (zT ?_);unfold setAdd;refine zT ?_;refine za ((PySem.strKind prog w).pyHash (k:=val i) (isS _ _) ?_)
  refine XH (s:={s' with toks:=s'.toks+1}) hS' (by omega) λh' b hsb hS2=>?_
  refine zb ⟨plainId_quiet PyProof.Rows.F.plain_set_update_loop _,ih (i+1) _ (j9 ss (val i)) (by omega) hlt (W.frame _ s' _ _ hst' (Nat.le_succ _) λb hb o e=>?_) ?_ hS2 λs'' hm'' hS''=>?_⟩
  ·rw[hsb.2 b (λh:b=S=>hSf (by rw[<-h];exact hb))];exact e
  ·unfold j9
   split
   ·omega
   ·rw[zz,ja];omega
  ·refine hR s'' (Moved.trans W.gtrans ((hm.mono hsub).then_heap (Nat.le_succ _) λb o hb e=>?_) hm'') ?_
   ·rw[hsb.2 b (λh:b=S=>hb (by rw[h];exact zx))];exact e
   ·rw[show n - i=(n - (i+1))+1 by omega,List.range'_succ,zd,List.foldl_cons];exact hS''
theorem XM(x:Value){Q₁:Value->Shared->Prop}
  (h:Q₁ (.ref s.heap.objs.size) {s with heap:=s.heap.push {cls:=.type "set",dict:=none,data:=.set #[] 0 (.fresh 0 0 (!w.params.followText "set-order"))}}):
  codeAny (model prog w) A (.call (.builtin "set.__new__") ⟨[.type "set",x],[]⟩) (wants Q₁ E) s:=by
 refine codeAny_of_tree ?_;show wpAny _ A.in1 (do checkBuiltinCall "set.__new__" ⟨[.type "set",x],[]⟩;again (.builtin "set.__new__" ⟨[.type "set",x],[]⟩)) _ _ s;refine za (wpAny_of_eq (PySem.F.newCall_set_1 x) (zb ⟨plainId_quiet PySem.F.plain_set_new _,ji PySem.F.entry_set_new ?_⟩));rw[Around.under_plainId PySem.F.plain_set_new _];unfold Builtin.«set.__new__» Builtin.Frozenset.newClass;have hsub:=sub_set_self;obtain⟨hp,g,d,tk,os⟩:=s;dsimp only
 wp_walk
 refine wpAny_askSetting (zb ?_);dsimp only;simp only[newObj];refine za (wpAny_alloc (zb ?_));exact zb h
theorem Jp{h:Heap}:fK prog w (h.push {cls:=.type "set",dict:=none,data:=.set #[] 0 (.fresh 0 0 (!w.params.followText "set-order"))}) h.objs.size []:=
 ⟨_,#[],0,_,zy _ rfl,⟨rfl,rfl,rfl⟩,rfl,λe he=>by simp at he,.nil,by decide,by rfl,.inl rfl,rfl⟩
set_option maxHeartbeats 8000000 in
theorem Qt8{l:Addr}{items:Array Value}{ns:List Str}{Q:Value->Shared->Prop}
  (hh:A.handled=none) (hl:s.heap.IsList l items) (hi:StrsAre items.toList ns) (hb:items.size+1<scanBound)
  (h:∀(h':Heap) (tk:Nat),fK prog w h' s.heap.objs.size (ns.foldl j9 []) ->
   (∀b o,s.heap.get? b=some o->h'.get? b=some o)->Q (.ref s.heap.objs.size) {s with heap:=h',toks:=tk}):
  wpAny (model prog w) A (call (.type "set") [.ref l]) Q E s:=by
 obtain⟨c,tl,hmro⟩:=PySem.F.called_set.mro;have hmade:=PySem.F.called_set.made;have hsub:=PySem.F.called_set.sub;refine wpAny_call (codeAny_of_tree ?_);show wpAny _ _ (callAny (.type "set") _) _ _ _;refine zb ⟨Code.quiet_builtin _ (by decide +kernel),ji PySem.F.entry_type_call ?_⟩;rw[Around.under_plain (weight_type_call_type "set" [.ref l] []) rfl];have h1:=PySem.F.called_set.notType;have h2:=PySem.F.called_set.canCreate;have hct:=PySem.F.typeCall_set_1 (.ref l)
 repeat (any_goals (first | assumption | wp_step))
 generalize hO:({cls:=.type "set",dict:=none,data:=.set #[] 0 (.fresh 0 0 (!w.params.followText "set-order"))}:Obj)=O0
 refine codeAny_mono (XM (.ref l) (E:=E) (Q₁:=λobj s₁=>obj=.ref s.heap.objs.size/\s₁ = {s with heap:=s.heap.push O0}) (by rw[hO];exact⟨rfl,rfl⟩)) λr s₁ hr=>?_
 cases r with
 |error e=>exact hr
 |ok fl =>
  cases fl with
  |ret obj =>
   obtain⟨rfl,rfl⟩:=hr
   have hfr:fK prog w (s.heap.push O0) s.heap.objs.size []:=by rw[<-hO];exact Jp
   have hS:(s.heap.push O0).get? s.heap.objs.size=some O0:=by rw[<-hO];exact zy _ rfl
   have hcls:O0.cls=.type "set":=by rw[<-hO]
   have hdat:O0.data=.set #[] 0 (.fresh 0 0 (!w.params.followText "set-order")):=by rw[<-hO]
   have hT:Shared.TypeIs {s with heap:=s.heap.push O0} (.ref s.heap.objs.size) "set":=⟨_,hS,hcls⟩;have hli:=PySem.F.called_set.init.lookup;have hbi:=PySem.F.called_set.init.bind (.ref s.heap.objs.size)
   repeat (any_goals (first | assumption | wp_step))
   refine codeAny_mono (codeAny_call_builtin (R:=wants (λr s₂=>r=.none/\∃h' tk,s₂ = {s with heap:=h',toks:=tk} /\
     fK prog w h' s.heap.objs.size (ns.foldl j9 []) /\
     (∀b o,s.heap.get? b=some o->h'.get? b=some o)) E) PySem.F.called_set.init.plain PySem.F.entry_set_init (check_set_init_1 hT ?_)) λr₂ s₂ hr₂=>?_
   ·subst hO;obtain⟨ol,hol,hcl,nl,hdl⟩:=hl;obtain⟨ocls,odict,odata,oslots⟩:=ol;simp only at hcl hdl;subst hcl;subst hdl;have hol':(s.heap.push {cls:=.type "set",dict:=none,data:=.set #[] 0 (.fresh 0 0 (!w.params.followText "set-order"))}).get? l=some {cls:=.type "list",dict:=odict,data:=.seq items nl,slots:=oslots}:=zm _ hol;have hsls:=PySem.F.sub_list_set;have hslf:=PySem.F.sub_list_frozenset
    have hne:(Value.type "list" == Value.type "dict")=false:=by decide
    have hl1:(s.heap.push {cls:=.type "set",dict:=none,data:=.set #[] 0 (.fresh 0 0 (!w.params.followText "set-order"))}).IsList l items:=⟨_,hol',rfl,nl,rfl⟩;unfold Builtin.«set.__init__» noKeywords Builtin.Frozenset.updateFrom
    generalize hPI:pyIter=PI
    wp_walk
    subst hPI;refine wpAny_pyIter_list hl1 ?_;refine za (wpAny_runValue ?_);have hlS:l<s.heap.objs.size:=ze hol
    have hh3:A.in1.in1.in1.handled=none:=by simp[hh]
    have hneI:l≠(s.heap.push {cls:=.type "set",dict:=none,data:=.set #[] 0 (.fresh 0 0 (!w.params.followText "set-order"))}).objs.size:=by
     rw[Heap.size_push];exact zu (jg hlS)
    have hSf:s.heap.objs.size∉[(s.heap.push {cls:=.type "set",dict:=none,data:=.set #[] 0 (.fresh 0 0 (!w.params.followText "set-order"))}).objs.size,l]:=by
     rw[Heap.size_push];simp only[zk,zn,List.not_mem_nil,or_false,not_or];exact⟨zu (jj _),Nat.ne_of_gt hlS⟩
    have hnl:ns.length=items.size:=by rw[<-hi.strs,zf,Array.length_toList]
    have hval:∀(i:Nat) (v:Value),items[i]?=some v->∃t,v=.str ((λi=>ns.getD i ⟨#[]⟩) i) t:=λi v hv=>by
     have hv':items.toList[i]?=some v:=by rw[Array.getElem?_toList];exact hv
     obtain⟨x,t,rfl⟩:=hi.all v (zM hv');refine⟨t,?_⟩
     have hm:(items.toList.map strOf)[i]?=some x:=by rw[zw,hv'];rfl
     rw[hi.strs] at hm;show Value.str x t=Value.str (ns.getD i ⟨#[]⟩) t;rw[jf,hm];rfl
    refine XJ ((Walks.list hh3 _ l hneI items).toS) s.heap.objs.size
     hSf (λi=>ns.getD i ⟨#[]⟩) hval hb (items.size - 0) 0 _ [] (by omega) (Nat.zero_le _)
     ⟨⟨_,zy _ rfl,rfl,rfl⟩,(hl1.push _)⟩ (zc _) (Jp.at λo e=>zm _ e) ?hR
    intro s' hm hS';rw[Nat.sub_zero,<-hnl] at hS';rw[map_getD] at hS';obtain⟨h',g',d',tk',os'⟩:=s';have eg:g'=s.gens:=hm.gens;have ed:d'=s.drawn:=hm.drawn;have eo:os'=s.os:=hm.os;subst eg;subst ed;subst eo;show wpAny _ _ _ _ _ _;refine zb ?_;show wpAny _ _ (ret Value.none) _ _ _;refine zb ⟨rfl,h',tk',rfl,hS',λb o e=>?_⟩;have hb':=ze e;have hb1:b≠s.heap.objs.size:=zu hb'
    have hb2:b≠(s.heap.push {cls:=.type "set",dict:=none,data:=.set #[] 0 (.fresh 0 0 (!w.params.followText "set-order"))}).objs.size:=by
     rw[Heap.size_push];exact zu (jg hb')
    exact hm.heap b o (by simp only[zk,zn,List.not_mem_nil,or_false,not_or];exact⟨hb1,hb2⟩) (zm _ (zm _ e))
   ·cases r₂ with
    |error e=>exact hr₂
    |ok fl₂ =>
     cases fl₂ with
     |ret r =>
      obtain⟨rfl,h',tk,rfl,hS',hk'⟩:=hr₂
      repeat (any_goals (first | assumption | wp_step))
      exact h _ _ hS' hk'
     | _=>exact hr₂.elim
  | _=>exact hr.elim
end
def ItS(h:Heap)(I a:Addr)(first:Value)(i n ep:Nat):Prop:=∃o,h.get? I=some o/\o.cls=.type "set_iterator"/\o.data=.fields #[first,.int i 0,.ref a,.int n 0,.int ep 0]
section
variable {prog:Program}{w:World}{A:Around}{E:Value->Shared->Prop}{s:Shared}{a:Addr}{ss:List Str}{o:Obj}{es:Array (Int×Value)}{ep:Nat}{t:SetTable}
theorem ItS.typeIs{I:Addr}{first:Value}{i n:Nat}(h:ItS s.heap I a first i n ep):s.TypeIs (.ref I) "set_iterator":=let ⟨o,h1,h2,_⟩:=h;⟨o,h1,h2⟩
end
section
variable {prog:Program}{w:World}{A:Around}{E:Value->Shared->Prop}{s:Shared}{a:Addr}{ss:List Str}{o:Obj}{es:Array (Int×Value)}{ep:Nat}{t:SetTable}
theorem ItS.at{h h':Heap}{I:Addr}{first:Value}{i n:Nat}(x:ItS h I a first i n ep)(e:∀o,h.get? I=some o->h'.get? I=some o):ItS h' I a first i n ep:=let ⟨o,ho,r⟩:=x;⟨o,e _ ho,r⟩
theorem uC.at{h h':Heap}(x:uC prog w h a ss o es ep t)(e:∀o,h.get? a=some o->h'.get? a=some o):uC prog w h' a ss o es ep t:=⟨e _ x.1,x.2⟩
end
section
variable {X:Cx}
variable {md:List Md}{P:Pt}
end
structure QAY(mg:Str->Option Value):Prop extends Jc mg where
 set_:mg "set" = none
def lt2(a1 a2 b1 b2:Str):Bool:=if a1=b1 then decide (a2.cps.toList<b2.cps.toList) else decide (a1.cps.toList<b1.cps.toList)
section
variable {prog:Program}{w:World}{A:Around}{E:Value->Shared->Prop}{s:Shared}{K:Frag}{H F:Hp}{as:List Addr}
end
section
variable {X:Cx}
end
end L2
namespace L2
open PySem PySem.Spec PyProof.Rows
section
variable {X:Cx}{md:List Md}{P:Pt}{R:RR}
end
section
variable {X:Cx}{md:List Md}{P:Pt}
variable {tg iter elt:Expr}{ifs:List Expr}{scope:Scope}{pos:Pos}{mi:M D}{g:MG}{t:M Bool}{e:M D}
end
end L2
namespace L2
open PySem PySem.Spec PyProof.Rows PySem.W
section
variable {X:Cx}{md:List Md}{P:Pt}{R:RR}
def yq(K:Frag)(mg:Str->Option Value)(md:List Md)(P:Pt)(R:RR)(W:Xc->Hp->Prop)(D:Ends)(H F:Hp)(as:List Addr):Fl->Prop
 | .ex x O'=>∀H' F' as',GrS P H F as H' F' as'->RlO K mg O' H' F' as'->W x H'
 |f=>lA K mg md P R D H F as f
theorem yq.gr{K:Frag}{mg:Str->Option Value}{W:Xc->Hp->Prop}{D:Ends}{H F H' F':Hp}{as as':List Addr}{f:Fl}(g:GrS P H F as H' F' as')(h:yq K mg md P R W D H F as f):yq K mg md P R W D H' F' as' f:=by
 cases f with
 |ex x O'=>exact λH2 F2 as2 g2 r2=>h H2 F2 as2 (g.trans g2) r2
 |nx ρ' O'=>exact λσ' H2 F2 as2 g2 r2 s2=>h σ' H2 F2 as2 (g.trans g2) r2 s2
 |bk ρ' O'=>exact λσ' H2 F2 as2 g2 r2 s2=>h σ' H2 F2 as2 (g.trans g2) r2 s2
 |ct ρ' O'=>exact λσ' H2 F2 as2 g2 r2 s2=>h σ' H2 F2 as2 (g.trans g2) r2 s2
 |rt d O'=>exact λv H2 F2 as2 g2 r2 s2=>h v H2 F2 as2 (g.trans g2) r2 s2
 |no=>exact h
end
section
variable {X:Cx}{md:List Md}{P:Pt}{R:RR}
end
theorem cg.has{P:Program}{w:World}{H:Hp}{h:Heap}{a:Addr}{o:HO}(x:cg P w H h a o):∃u,h.get? a=some u:=by
 cases o with
 |lst xs=>exact let ⟨_,_,_,_,e⟩:=x;⟨_,e⟩
 |tup xs=>exact let ⟨_,_,_,_,e,_⟩:=x;⟨_,e⟩
 |dK kvs=>exact let ⟨_,_,_,_,_,_,_,e,_⟩:=x;⟨_,e⟩
 |dT kvs=>exact let ⟨_,_,_,_,_,_,_,e,_⟩:=x;⟨_,e⟩
 |set S n=>exact let ⟨_,_,_,_,e,_⟩:=x;⟨_,e⟩
 |ins C dx fs=>exact let ⟨_,_,_,e,_⟩:=x;⟨_,e⟩
 |own y=>exact let ⟨_,e⟩:=x;⟨_,e⟩
 |xd fs=>exact let ⟨_,⟨_,_,_,e,_⟩,_⟩:=x;⟨_,e⟩
 |rng lo hi=>exact let ⟨_,_,_,e⟩:=x;⟨_,e⟩
 |frz ob u=>exact⟨_,x.1⟩
 |tbl ps=>exact⟨_,x⟩
 |met f y=>exact⟨_,x⟩
 |ext φ=>exact x.2.1
theorem HOk.only{P:Program}{w:World}{H:Hp}{h h':Heap}(x:HOk P w H h)(k:∀b v u,H b=some v->h.get? b=some u->h'.get? b=some u):HOk P w H h':=λa o e =>
 (x a o e).stay (λb u hb q=>by
  rcases hb with rfl | hb
  ·exact k _ _ u e q
  ·exact k b _ u hb q) (λ_ q=>q) λ_ _ q=>q
theorem Un.then{fs:List Addr}{H0 H:Hp}{h0 h1 h2:Heap}(u:Un fs [] H0 H h0 h1)(st:∀b o,h1.get? b=some o->b∉fs->(∃o',h0.get? b=some o')->h2.get? b=some o)
  (fr:∀b o,h1.get? b=some o->b∈fs->∃sl,h2.get? b=some {o with slots:=sl}):Un fs [] H0 H h0 h2 where
 keep:=λb o q n nf nx=>st b o (u.keep b o q n nf nx) nf ⟨o,q⟩
 slot:=λb o q n hb nx=>by
  obtain⟨sl,e⟩:=u.slot b o q n hb nx;obtain⟨sl2,e2⟩:=fr b _ e hb;exact⟨sl2,e2⟩
 free:=u.free
 there:=λb o q nx=>by
  obtain⟨o',e⟩:=u.there b o q nx
  by_cases hb:b∈fs
  ·obtain⟨sl,e2⟩:=fr b o' e hb;exact⟨_,e2⟩
  ·exact⟨o',st b o' e hb ⟨o,q⟩⟩
 tups:=u.tups
 frzs:=u.frzs
 tbls:=u.tbls
def CXE(Pr:Program)(w:World):CXT:=λouter H s E e s'=>∃(ea C:Addr) (H':Hp) (B:Heap) (a0:Value),e=.ref ea/\s'.os=s.os/\AllBare s'.gens/\Un (frs outer) [] H H' s.heap s'.heap/\HOk Pr w H' s'.heap /\
 Heap.FlyingW B outer ea (.ref C) a0 s'.heap/\(∀b u,H' b=some u->∃o,B.get? b=some o)/\(∀b o,s.heap.get? b=some o->b∉frs outer->∃o',B.get? b=some o')/\E (.ref C) none H'
def Jq(P:Program)(w:World)(K:Frag)(mg:Str->Option Value)(base:Heap)(x:Str)(ps:List Str)(k:Nat)(sp:Sp):Prop :=
 ∃f fd,mg x=some (.ref f)/\keepIn K (.ref f)=true/\Binds K fd ps []/\dg P w K mg base (CXE P w) k f fd ps sp/\∃oc od osl,K.lookup f=some ⟨oc,od,.func fd,osl⟩
def XN(K:Frag)(mg:Str->Option Value)(R:RR)(H F:Hp)(as:List Addr)(Q:VK)(E:XK):Res D->Prop
 | .ok d O'=>∀v H' F' as',Gr H F as H' F' as'->RlO K mg O' H' F' as'->R (λa=>H a=none) H' F' as' v d->Q v H'
 | .ex x O'=>∀C H' F' as',mg x.cls=some (.ref C)->Gr H F as H' F' as'->RlO K mg O' H' F' as'->E (.ref C) none H'
 | .no=>False
def Jr(K:Frag)(mg:Str->Option Value)(pm:List Md)(R:RR)(c:List D->aq->Res D):Sp:=λvs H Q E =>
 ∃ds O F as,RlO K mg O H F as/\cW K H F as pm vs ds/\XN K mg R H F as Q E (c ds O)
section
variable {Pr:Program}{w:World}{K:Frag}{mg:Str->Option Value}{base:Heap}
theorem Jq.can{x:Str}{ps:List Str}{k:Nat}{pm:List Md}{R:RR}{c:List D->aq->Res D}(C:Jq Pr w K mg base x ps k (Jr K mg pm R c))(hl:pm.length=ps.length:=by rfl):Can Pr w K mg base x ps k (vSp K mg pm R c):=by
 obtain⟨f,fd,hm,hk,hb,Fn,lk⟩:=C;refine⟨f,fd,hm,hk,hb,⟨λvs H Q E h=>?_,λA outer s H args us vs Q E hr e0 hbi r h=>?_⟩,lk⟩
 ·obtain⟨ds,O,F,as,d,O',r,a,_⟩:=h;rw[a.len.1,hl]
 ·obtain⟨ds,O,F,as,d,O',ro,a,e,q⟩:=h
  have z:Jr K mg pm R c vs H Q λ_ _ _=>False:=⟨ds,O,F,as,ro,a,by rw[e];exact q⟩
  refine codeAny_mono (Fn.run A outer s H args us vs Q _ hr e0 hbi r z) λres s' hq=>?_
  cases res with
  |error ev =>
   obtain⟨_,_,_,_,_,_,_,_,_,_,_,_,_,f0⟩:=hq;exact f0.elim
  |ok fl=>cases fl<;>exact hq
end
section
variable {X:Cx}{pins:List (Addr×Obj)}{σ:St}{H:Hp}{s:Shared}{ea:Addr}{oe:Obj}
end
end L2
namespace L2
open PySem PySem.Spec PyProof.Rows PySem.W PySem.Calls PySem.Builtin PySem.Builtin.ObjectAttr PySem.Builtin.Getset_descriptor
section
variable {prog:Program}{w:World}{A:Around}{E:Value->Shared->Prop}{K:Frag}{a C:Addr}{o:Obj}{h:Heap}{g:Array GenState}{d:Drawn}{t:Nat}{os:OsState}
structure QA2(K:Frag)(C:Addr):Prop where
 ga:findIn K (.ref C) "__getattribute__" = some (some (.builtin "BaseException.__getattribute__"))
 na:findIn K (.ref C) "__getattr__" = some none
 ca:findIn K (.ref C) "__class__" = some (some (.builtin "object.__class__"))
 sp:specialIn K (.builtin "object.__class__") "__get__" = some (some (.builtin "getset_descriptor.__get__"))
 tk:takesIn K (.builtin "object.__class__")=some true
 ob:mroIn K C (.type "object")=some true
 be:mroIn K C (.type "BaseException")=some true
 cl:(clsIn K C).isSome=true
end
end L2
namespace L2
open PySem PySem.Spec PyProof.Rows PySem.W
section
variable {X:Cx}{ea C:Addr}{oe:Obj}
end
section
variable {X:Cx}{md:List Md}{P:Pt}{R:RR}
end
section
variable {X:Cx}{ea C:Addr}{oe:Obj}{i:Nat}{b:Bool}{n:Str}{p p1 pos:Pos}
end
end L2
namespace L2
open PySem PySem.Spec PyProof.Rows
section
variable {X:Cx}
variable {md:List Md}{P:Pt}
end
end L2
namespace L2
open PySem PySem.Spec PyProof.Rows PySem.W
section
variable {prog:Program}{w:World}{A:Around}{E:Value->Shared->Prop}
end
section
variable {X:Cx}{md:List Md}{P:Pt}{R:RR}
end
def yt(mg:Str->Option Value):List Str->List Addr->Prop
 | [],as=>as=[]
 |n::ns,as=>∃a r,as=a::r/\mg n=some (.ref a)/\yt mg ns r
theorem yt.len{mg:Str->Option Value}:∀{ns:List Str}{as:List Addr},yt mg ns as->as.length=ns.length
 | [],as,h=>by
  have h':as=[]:=h;rw[h'];rfl
 |n::ns,as,h=>by
  obtain⟨a,r,rfl,_,h2⟩:=h;rw[zv,h2.len,zv]
section
variable {X:Cx}{md:List Md}{P:Pt}{R:RR}
end
section
variable {K:Frag}{h:Heap}{mg:Str->Option Value}
theorem mkD{x:Str}{st:Stmt}{f:Addr}{oc:Value}{od an:Option Addr}{sl:Array (Option Value)}{kV dc pm cd ct:Value}(X:K.In h)(G:h.Ns mainGlobals mg)(a:nsIn K mainGlobals x=some (some (.ref f)))(l:K.lookup f=some ⟨oc,od,.func (fnOf x x (gP st) (fc st) (aY st) .none kV dc pm an cd ct),sl⟩)(c:codeIn K cd x=true)(k:keepIn K (.ref f)=true):Def K mg x st:=⟨_,_,mg_of X G a,xx l c k⟩
structure ClsAt(K:Frag)(c:Str)(A:Addr):Prop where
 ns:nsIn K mainGlobals c=some (some (.ref A))
 pg:plainGet K A Str.empty=true
 hd:hasDictIn K A=true
 po:plainOver K A=true
 sa:findIn K (.ref A) "__setattr__" = some (some (.builtin "object.__setattr__"))
 mks:makesIn K A=true
 kc:keepIn K (.ref A)=true
def MethAt(K:Frag)(A:Addr)(m qual:Str)(st:Stmt):Prop:=∃f fd,findIn K (.ref A) m=some (some (.ref f))/\isFn K (.ref f)=true/\keepIn K (.ref f)=true/\Fun K m qual st f fd
theorem mkM{A:Addr}{m qual:Str}{st:Stmt}{f:Addr}{oc:Value}{od an:Option Addr}{sl:Array (Option Value)}{kV dc pm cd ct:Value}(a:findIn K (.ref A) m=some (some (.ref f)))(i:isFn K (.ref f)=true)(l:K.lookup f=some ⟨oc,od,.func (fnOf m qual (gP st) (fc st) (aY st) .none kV dc pm an cd ct),sl⟩)(c:codeIn K cd qual=true)(k:keepIn K (.ref f)=true):MethAt K A m qual st:=⟨_,_,a,i,k,xx l c k⟩
variable {A:Addr}{c:Str}
theorem ClsAt.cl(z:ClsAt K c A):Cls K A:=⟨z.pg,z.hd,z.po,z.sa⟩
theorem ClsAt.dm(z:ClsAt K c A)(X:K.In h)(G:h.Ns mainGlobals mg){m qual:Str}{st:Stmt}(q:MethAt K A m qual st):lF K mg c m qual st:=by
 obtain⟨f,fd,a,i,k,fu⟩:=q;exact⟨_,_,_,mg_of X G z.ns,z.cl,⟨a,i,k⟩,fu⟩
theorem ClsAt.dc(z:ClsAt K c A)(X:K.In h)(G:h.Ns mainGlobals mg){qual:Str}{st:Stmt}(q:MethAt K A "__init__" qual st):xZ K mg c qual st:=by
 obtain⟨f,fd,a,i,k,fu⟩:=q;exact⟨_,_,_,mg_of X G z.ns,⟨z.mks,a,i,z.kc⟩,fu⟩
theorem ClsAt.kf(z:ClsAt K c A)(X:K.In h)(G:h.Ns mainGlobals mg){f:Str}(n:findIn K (.ref A) f=some none):KC K mg c f:=⟨_,mg_of X G z.ns,z.cl,n⟩
end
end L2
namespace L2
open PySem PySem.Spec PyProof.Rows
section
variable {X:Cx}
def pD:List D->Option D
 | [.str l]=>if l.length<=640 then(PySem.intText? (S l)).map D.int else none
 | _=>none
theorem XQ:jH X (.type "int") pD:=by
 intro pins s σ H xs us Q I rs h;obtain⟨O,F,as,ds,d,r,hvs,e,k⟩:=h;unfold pD at e;split at e
 ·rename_i l;split at e
  ·rename_i hz;obtain⟨v,rfl,hv⟩:=hvs.one
   cases hn:PySem.intText? (S l) with
   |none=>rw[hn] at e;cases e
   |some n =>
    rw[hn] at e;cases e;cases(hv.rp rfl).unS;obtain⟨u,rfl,ru⟩:=vals1 rs;obtain⟨t,rfl⟩:=ru;exact PySem.W.KIN.call_text hn (by rw[fB];exact hz) ⟨.int n,H,I.tok _,⟨_,rfl⟩,cu r k rfl Rp.int⟩
  ·cases e
 ·cases e
theorem XR{i:Int}(h0:0<=i)(h1:i<1000000000):pD [.str ((Nat.toDigits 10 i.toNat).map Char.toNat)]=some (.int i):=by
 have z:=Jh i h0;have r:=PySem.W.KIN.num_reads h0 (Int.lt_trans h1 (by decide));rw[z] at r
 have hl:((Nat.toDigits 10 i.toNat).map Char.toNat).length<=640:=by
  have:=PySem.W.KT.len_num h0 (Int.lt_trans h1 (by decide))
  rw[z,fB] at this;exact zG this (by decide)
 show(if((Nat.toDigits 10 i.toNat).map Char.toNat).length<=640 then(PySem.intText? (S ((Nat.toDigits 10 i.toNat).map Char.toNat))).map D.int else none)=_;rw[if_pos hl,r];rfl
end
def ofO(o:Option D)(O:aq):Res D:=match o with
 |some d=>.ok d O
 |none=>.no
@[simp] theorem dz{d:D}{O:aq}:ofO (some d) O=.ok d O:=rfl
@[simp] theorem aQ{α β:Type}{a:α}{O:aq}{f:α->aq->Res β}:(Res.ok a O).bind f=f a O:=rfl
@[simp] theorem QyU{O:aq}:bB O .non=.non:=rfl
@[simp] theorem lJ{O:aq}{b:Bool}:bB O (.bl b)=.bl b:=rfl
@[simp] theorem cT{O:aq}{b:Int}:bB O (.int b)=.int b:=rfl
@[simp] theorem kh{O:aq}{b:List Nat}:bB O (.str b)=.str b:=rfl
@[simp] theorem eU{O:aq}{b:List D}:bB O (.lst b)=.lst b:=rfl
@[simp] theorem Js{O:aq}{b:List D}:bB O (.tup b)=.tup b:=rfl
@[simp] theorem QyW{O:aq}{a b:List D}:bB O (.dic a b)=.dic a b:=rfl
@[simp] theorem c7{i:Nat}{ρ:aA}{O:aq}:aa i ρ O=(match ρ[i]? with | some (some d)=>.ok d O | _=>.no):=rfl
@[simp] theorem m_c{d:D}{ρ:aA}{O:aq}:mC d ρ O=.ok d O:=rfl
@[simp] theorem dO{g:D->D->Option D}{a b:M D}{ρ:aA}{O:aq}:ak g a b ρ O=(a ρ O).bind λx O1=>(b ρ O1).bind λy O2=>ofO (g (bB O2 x) (bB O2 y)) O2:=rfl
def gF(r:Res D):Res D:=match r with
 | .ok d O'=>if jA d=true then .ok d O' else .no
 |r=>r
@[simp] theorem m_g{m:M D}{ρ:aA}{O:aq}:mG m ρ O=gF (m ρ O):=rfl
@[simp] theorem yu{i:Int}{O:aq}:gF (.ok (.int i) O)=.ok (.int i) O:=rfl
@[simp] theorem QAs{i:List Nat}{O:aq}:gF (.ok (.str i) O)=.ok (.str i) O:=rfl
@[simp] theorem QAP{i:Bool}{O:aq}:gF (.ok (.bl i) O)=.ok (.bl i) O:=rfl
@[simp] theorem QAv{O:aq}:gF (.ok .non O)=.ok .non O:=rfl
@[simp] theorem QAx{l:List D}{O:aq}:gF (.ok (.tup l) O)=.ok (.tup l) O:=rfl
@[simp] theorem QAW{n:Nat}{O:aq}:gF (.ok (.ob n) O)=.ok (.ob n) O:=rfl
def chF(o:Option D)(O:aq)(f:Unit->Res D):Res D:=match o with
 |some (.bl true)=>f ()
 |some (.bl false)=>.ok (.bl false) O
 | _=>.no
@[simp] theorem QAJ{b:Bool}{O:aq}{f:Unit->Res D}:chF (some (.bl b)) O f=if b=true then f () else .ok (.bl false) O:=by cases b<;>rfl
@[simp] theorem QAa{g g':D->D->Option D}{a b c:M D}{ρ:aA}{O:aq}:mJ g g' a b c ρ O=(a ρ O).bind λx O1=>(b ρ O1).bind λy O2=>chF (g (bB O2 x) (bB O2 y)) O2 λ_=>(c ρ O2).bind λz O3=>ofO (g' (bB O3 y) (bB O3 z)) O3:=by
 unfold mJ;congr 1
@[simp] theorem XS{m:M D}{ρ:aA}{O:aq}:jB m ρ O=(m ρ O).bind λd O1=>.ok (.bl (isNon d)) O1:=rfl
@[simp] theorem QAk{m:M D}{ρ:aA}{O:aq}:iM m ρ O=(m ρ O).bind λd O1=>.ok (.bl (!isNon d)) O1:=rfl
@[simp] theorem QyR:isNon .non=true:=rfl
@[simp] theorem QyV{l:List D}:isNon (.lst l)=false:=rfl
@[simp] theorem QyS{l:List D}:isNon (.tup l)=false:=rfl
@[simp] theorem QyX{l:List Nat}:isNon (.str l)=false:=rfl
@[simp] theorem QyT{l:Int}:isNon (.int l)=false:=rfl
@[simp] theorem QzA{l:Nat}:isNon (.ob l)=false:=rfl
def teF(d:D)(O:aq):Res Bool:=match d with
 | .bl b=>.ok b O
 | _=>.no
@[simp] theorem gK{b:Bool}{O:aq}:teF (.bl b) O=.ok b O:=rfl
@[simp] theorem gf{m:M D}{ρ:aA}{O:aq}:aJ m ρ O=(m ρ O).bind teF:=rfl
def ofB(o:Option Bool)(O:aq):Res Bool:=match o with
 |some d=>.ok d O
 |none=>.no
@[simp] theorem nF{d:Bool}{O:aq}:ofB (some d) O=.ok d O:=rfl
@[simp] theorem nG{m:M D}{ρ:aA}{O:aq}:cj m ρ O=(m ρ O).bind λd O1=>ofB (oK (bB O1 d)) O1:=rfl
@[simp] theorem nH{b:Bool}:oK (.bl b)=some b:=rfl
@[simp] theorem Qzg{b:List D}:oK (.lst b)=some (!b.isEmpty):=rfl
@[simp] theorem jL{a b:M Bool}{ρ:aA}{O:aq}:dC a b ρ O=(a ρ O).bind λc O1=>if c=true then b ρ O1 else .ok false O1:=rfl
@[simp] theorem uD{a b:M Bool}{ρ:aA}{O:aq}:cX a b ρ O=(a ρ O).bind λc O1=>if c=true then .ok true O1 else b ρ O1:=rfl
@[simp] theorem uE{a:M Bool}{ρ:aA}{O:aq}:du a ρ O=(a ρ O).bind λc O1=>.ok (!c) O1:=rfl
def anF(d:D)(O:aq)(f:Unit->Res D):Res D:=match d with
 | .bl true=>f ()
 | .bl false=>.ok (.bl false) O
 | _=>.no
def orF(d:D)(O:aq)(f:Unit->Res D):Res D:=match d with
 | .bl true=>.ok (.bl true) O
 | .bl false=>f ()
 | _=>.no
@[simp] theorem Jt{b:Bool}{O:aq}{f:Unit->Res D}:anF (.bl b) O f=if b=true then f () else .ok (.bl false) O:=by cases b<;>rfl
@[simp] theorem QAV{b:Bool}{O:aq}{f:Unit->Res D}:orF (.bl b) O f=if b=true then .ok (.bl true) O else f ():=by cases b<;>rfl
@[simp] theorem Ju{a b:M D}{ρ:aA}{O:aq}:jW a b ρ O=(a ρ O).bind λd O1=>anF d O1 λ_=>b ρ O1:=by
 unfold jW;congr 1
@[simp] theorem QAM{a b:M D}{ρ:aA}{O:aq}:Hw a b ρ O=(a ρ O).bind λd O1=>orF d O1 λ_=>b ρ O1:=by
 unfold Hw;congr 1
def noF(d:D)(O:aq):Res D:=match d with
 | .bl b=>.ok (.bl (!b)) O
 | _=>.no
@[simp] theorem QAQ{b:Bool}{O:aq}:noF (.bl b) O=.ok (.bl (!b)) O:=rfl
@[simp] theorem XX{a:M D}{ρ:aA}{O:aq}:qJ a ρ O=(a ρ O).bind noF:=rfl
@[simp] theorem yw{t:M Bool}{a b:M D}{ρ:aA}{O:aq}:mIf t a b ρ O=(t ρ O).bind λc O1=>if c=true then a ρ O1 else b ρ O1:=rfl
@[simp] theorem dX{ρ:aA}{O:aq}:au ρ O=.ok [] O:=rfl
@[simp] theorem eV{m:M D}{r:M (List D)}{ρ:aA}{O:aq}:aj m r ρ O=(m ρ O).bind λd O1=>(r ρ O1).bind λds O2=>.ok (d::ds) O2:=rfl
@[simp] theorem rH{r:M (List D)}{ρ:aA}{O:aq}:bY r ρ O=(r ρ O).bind λds O1=>if ds.length<=1000000 then .ok (.lst ds) O1 else .no:=rfl
@[simp] theorem yx{r:M (List D)}{ρ:aA}{O:aq}:dh r ρ O=(r ρ O).bind λds O1=>if ds.length<=1000000 then .ok (.tup ds) O1 else .no:=rfl
@[simp] theorem iU{c:List D->aq->Res D}{ma:M (List D)}{ρ:aA}{O:aq}:aK c ma ρ O=(ma ρ O).bind λds O1=>c ds O1:=rfl
@[simp] theorem iV{g:List D->Option D}{ma:M (List D)}{ρ:aA}{O:aq}:aV g ma ρ O=(ma ρ O).bind λds O1=>ofO (g (ds.map (bB O1))) O1:=rfl
@[simp] theorem QA1{g:D->Option D}{ma:M D}{ρ:aA}{O:aq}:mUn g ma ρ O=(ma ρ O).bind λd O1=>ofO (g (bB O1 d)) O1:=rfl
def isF(n:String)(o:Option String)(O:aq):Res D:=match o with
 |some t=>.ok (.bl (dF t n)) O
 |none=>.no
@[simp] theorem Jv{n t:String}{O:aq}:isF n (some t) O=.ok (.bl (dF t n)) O:=rfl
@[simp] theorem Jw{n:String}{m:M D}{ρ:aA}{O:aq}:fC n m ρ O=(m ρ O).bind λd O1=>isF n (tyD (bB O1 d)) O1:=rfl
@[simp] theorem Qz7:tyD .non=some "NoneType":=rfl
@[simp] theorem QAt{b:Bool}:tyD (.bl b)=some "bool":=rfl
@[simp] theorem QAd{b:Int}:tyD (.int b)=some "int":=rfl
@[simp] theorem X3{b:List Nat}:tyD (.str b)=some "str":=rfl
@[simp] theorem QAe{b:List D}:tyD (.lst b)=some "list":=rfl
@[simp] theorem Qz8{b:List D}:tyD (.tup b)=some "tuple":=rfl
@[simp] theorem QzW{a b:List D}:tyD (.dic a b)=some "dict":=rfl
@[simp] theorem QAZ{ρ:aA}{O:aq}:moN ρ O=.ok none O:=rfl
def osF(d:D)(O:aq):Res (Option Int):=match d with
 | .int i=>.ok (some i) O
 | _=>.no
@[simp] theorem Jx{i:Int}{O:aq}:osF (.int i) O=.ok (some i) O:=rfl
@[simp] theorem Jy{m:M D}{ρ:aA}{O:aq}:moS m ρ O=(m ρ O).bind osF:=rfl
@[simp] theorem rJ{m:M D}{lo hi:M (Option Int)}{ρ:aA}{O:aq}:mSl m lo hi ρ O=(m ρ O).bind λd O1=>(lo ρ O1).bind λl O2=>(hi ρ O2).bind λh O3=>ofO (gSl (bB O3 d) l h) O3:=rfl
@[simp] theorem Qz6{l:List Nat}{lo hi:Option Int}:gSl (.str l) lo hi=if l.length<=16777216 then some (.str (eE l lo hi)) else none:=rfl
@[simp] theorem Jz{l:List D}{lo hi:Option Int}:gSl (.lst l) lo hi=some (.lst (eE l lo hi)):=rfl
@[simp] theorem Qz9{l:List D}{lo hi:Option Int}:gSl (.tup l) lo hi=some (.tup (eE l lo hi)):=rfl
def g8(f:Fl)(b:MS):Fl:=match f with
 | .nx ρ' O'=>b ρ' O'
 |r=>r
@[simp] theorem bz{a b:MS}{ρ:aA}{O:aq}:aB a b ρ O=g8 (a ρ O) b:=rfl
@[simp] theorem bF{ρ:aA}{O:aq}{b:MS}:g8 (.nx ρ O) b=b ρ O:=rfl
@[simp] theorem X4{d:D}{O:aq}{b:MS}:g8 (.rt d O) b=.rt d O:=rfl
@[simp] theorem QzZ{ρ:aA}{O:aq}{b:MS}:g8 (.bk ρ O) b=.bk ρ O:=rfl
@[simp] theorem QAf{ρ:aA}{O:aq}{b:MS}:g8 (.ct ρ O) b=.ct ρ O:=rfl
@[simp] theorem QzY{b:MS}:g8 .no b=.no:=rfl
@[simp] theorem dY{ρ:aA}{O:aq}:bx ρ O=.nx ρ O:=rfl
def nJ(r:Res D):Fl:=match r with
 | .ok d O'=>.rt d O'
 | .ex x O'=>.ex x O'
 | .no=>.no
@[simp] theorem fG{m:M D}{ρ:aA}{O:aq}:aU m ρ O=nJ (m ρ O):=rfl
@[simp] theorem pF{d:D}{O:aq}:nJ (.ok d O)=.rt d O:=rfl
def JB(r:Res D)(ρ:aA):Fl:=match r with
 | .ok _ O'=>.nx ρ O'
 | .ex x O'=>.ex x O'
 | .no=>.no
@[simp] theorem X5{m:M D}{ρ:aA}{O:aq}:qM m ρ O=JB (m ρ O) ρ:=rfl
@[simp] theorem X6{d:D}{O:aq}{ρ:aA}:JB (.ok d O) ρ=.nx ρ O:=rfl
def ifF(r:Res Bool)(a b:MS)(ρ:aA):Fl:=match r with
 | .ok c O'=>if c=true then a ρ O' else b ρ O'
 | .ex x O'=>.ex x O'
 | .no=>.no
@[simp] theorem ig{t:M Bool}{a b:MS}{ρ:aA}{O:aq}:bh t a b ρ O=ifF (t ρ O) a b ρ:=rfl
@[simp] theorem iW{c:Bool}{O:aq}{a b:MS}{ρ:aA}:ifF (.ok c O) a b ρ=if c=true then a ρ O else b ρ O:=rfl
def rK(i:Nat)(r:Res D)(ρ:aA):Fl:=match r with
 | .ok d O'=>.nx (ρ.set i (some d)) O'
 | .ex x O'=>.ex x O'
 | .no=>.no
@[simp] theorem fP{i:Nat}{m:M D}{ρ:aA}{O:aq}:aH i m ρ O=rK i (m ρ O) ρ:=rfl
@[simp] theorem fQ{i:Nat}{d:D}{O:aq}{ρ:aA}:rK i (.ok d O) ρ=.nx (ρ.set i (some d)) O:=rfl
def yz(r:Res (List D))(g:MG)(b:MS)(ρ:aA):Fl:=match r with
 | .ok ds O'=>cD g b ds ρ O'
 | .ex x O'=>.ex x O'
 | .no=>.no
@[simp] theorem il{m:M (List D)}{g:MG}{b:MS}{ρ:aA}{O:aq}:b8 m g b ρ O=yz (m ρ O) g b ρ:=rfl
@[simp] theorem ir{ds:List D}{O:aq}{g:MG}{b:MS}{ρ:aA}:yz (.ok ds O) g b ρ=cD g b ds ρ O:=rfl
@[simp] theorem mg_n{i:Nat}{d:D}{ρ:aA}:mgN i d ρ=some (ρ.set i (some d)):=rfl
def bA(f:Fl):Res D:=match f with
 | .rt d O'=>.ok d O'
 | .nx _ O'=>.ok .non O'
 | .ex x O'=>.ex x O'
 | _=>.no
@[simp] theorem rM{n:Nat}{b:MS}{ds:List D}{O:aq}:bH n b ds O=bA (b (ds.map some++List.replicate (n - ds.length) none) O):=rfl
@[simp] theorem pG{d:D}{O:aq}:bA (.rt d O)=.ok d O:=rfl
@[simp] theorem Qz5{ρ:aA}{O:aq}:bA (.nx ρ O)=.ok .non O:=rfl
@[simp] theorem JC{m:M (List D)}{ρ:aA}{O:aq}:eQ m ρ O=(m ρ O).bind λds O1=>match ds with
 | [.int j]=>if j<=1000000000/\-1000000000<=j then .ok (bI 0 j.toNat) O1 else .no
 | _=>.no:=rfl
def itF(o:Option (List D))(O:aq):Res (List D):=match o with
 |some ds=>.ok ds O
 |none=>.no
@[simp] theorem uF{ds:List D}{O:aq}:itF (some ds) O=.ok ds O:=rfl
@[simp] theorem uG{m:M D}{ρ:aA}{O:aq}:cQ m ρ O=(m ρ O).bind λd O1=>itF (nu d) O1:=rfl
@[simp] theorem yC{ds:List D}:nu (.lst ds)=some ds:=rfl
@[simp] theorem QyQ{ds:List D}:nu (.tup ds)=some ds:=rfl
theorem X7{l:List Nat}(h:ascii l=true):nu (.str l)=some (fZ l):=by
 show(if ascii l=true then some (fZ l) else none)=_;rw[if_pos h]
@[simp] theorem uH{m:M (List D)}{own:Nat}{cap:List Nat}{g:MG}{t:M Bool}{e:M D}{ρ:aA}{O:aq}:dD m own cap g t e ρ O=(m ρ O).bind λds O1=>if ds.length<=1000000 then(dw g t e ds (jE own cap ρ) O1 []).bind λys O2=>.ok (.lst ys) O2 else .no:=rfl
@[simp] theorem iY{i j:Int}:bc (.int i) (.int j)=some (.int (i+j)):=rfl
@[simp] theorem JD{a b:List Nat}:bc (.str a) (.str b)=if a.length+b.length<=1000000 then some (.str (a++b)) else none:=rfl
@[simp] theorem JF{a b:List D}:bc (.lst a) (.lst b)=if a.length+b.length<=1000000 then some (.lst (a++b)) else none:=rfl
@[simp] theorem yD{i j:Int}:gw (.int i) (.int j)=some (.int (i - j)):=rfl
@[simp] theorem pH{i j:Int}:bD (.int i) (.int j)=if 0<j then some (.int (i % j)) else none:=by
 unfold bD gI
 by_cases h:0<j<;>simp[h]
@[simp] theorem JG{i j:Int}:fY (.int i) (.int j)=if 0<j/\j<1073741824 then some (.int (i / j)) else none:=by
 unfold fY gI
 by_cases h:0<j/\j<1073741824<;>simp[h]
theorem lK{i j:Int}(h:(-(2 ^ 64)<i/\i<2 ^ 64)\/(-(2 ^ 64)<j/\j<2 ^ 64)):cz (.int i) (.int j)=some (.int (i * j)):=by
 unfold cz;dsimp only;rw[if_pos];rw[Bool.or_eq_true];unfold lD;rw[zo,zo,decide_eq_true_eq,decide_eq_true_eq,decide_eq_true_eq,decide_eq_true_eq];exact h
@[simp] theorem yE{i j:Int}:gLt (.int i) (.int j)=some (.bl (decide (i<j))):=rfl
@[simp] theorem pI{i j:Int}:gGt (.int i) (.int j)=some (.bl (decide (j<i))):=rfl
@[simp] theorem QAN{i j:Int}:gGe (.int i) (.int j)=some (.bl (decide (j<=i))):=rfl
@[simp] theorem yF{i j:Int}:gLe (.int i) (.int j)=some (.bl (decide (i<=j))):=rfl
theorem JH(a b:Nat):(([a]:List Nat) < [b])↔a<b:=by
 constructor
 ·intro h
  rcases List.cons_lt_cons_iff.mp h with h | ⟨_,h⟩
  ·exact h
  ·exact absurd h (List.not_lt_nil _)
 ·intro h;exact List.cons_lt_cons_iff.mpr (.inl h)
@[simp] theorem QAR{a b:Nat}:gLe (.str [a]) (.str [b])=some (.bl (decide (a<=b))):=by
 show some (D.bl (!decide (([b]:List Nat) < [a])))=_
 have:decide (([b]:List Nat) < [a])=decide (b<a):=by
  by_cases h:b<a
  ·rw[zj h,zj ((JH _ _).mpr h)]
  ·rw[zg h,zg (λz=>h ((JH _ _).mp z))]
 rw[this]
 by_cases h:b<a
 ·rw[zj h,zg (by omega)];rfl
 ·rw[zg h,zj (by omega)];rfl
@[simp] theorem X8{i j:Int}:gEq (.int i) (.int j)=some (.bl (decide (i=j))):=rfl
@[simp] theorem QAO{i j:List Nat}:gEq (.str i) (.str j)=some (.bl (decide (i=j))):=rfl
@[simp] theorem QAK{i j:Bool}:gEq (.bl i) (.bl j)=some (.bl (decide (i=j))):=rfl
@[simp] theorem QAX{i j:List D}:gEq (.lst i) (.lst j)=if(okE (.lst i)&&okE (.lst j))=true then some (.bl (j0 (.lst i) (.lst j))) else none:=rfl
@[simp] theorem Yb{i j:Int}:gNe (.int i) (.int j)=some (.bl (!decide (i=j))):=rfl
@[simp] theorem QAH{i j:List Nat}:gNe (.str i) (.str j)=some (.bl (!decide (i=j))):=rfl
@[simp] theorem QAI{i j:Bool}:gNe (.bl i) (.bl j)=some (.bl (!decide (i=j))):=rfl
@[simp] theorem Yc{i j:List D}:gNe (.lst i) (.lst j)=if(okE (.lst i)&&okE (.lst j))=true then some (.bl (!j0 (.lst i) (.lst j))) else none:=rfl
@[simp] theorem Yd{n:Bool}{c:Nat}{l:List Nat}:gIn n (.str [c]) (.str l)=some (.bl (n ^^ decide (c∈l))):=rfl
theorem kj{ds:List D}{i:Int}:gIx (.lst ds) (.int i)=atI ds i:=rfl
theorem Ye{ds:List D}{i:Int}:gIx (.tup ds) (.int i)=atI ds i:=rfl
theorem yG{l:List Nat}{i:Int}:gIx (.str l) (.int i)=if l.length<=1000000 then(atI l i).map (λc=>.str [c]) else none:=rfl
@[simp] theorem Yg{l:List Nat}:bC [.str l]=if l.length<=1000000 then some (.int l.length) else none:=rfl
@[simp] theorem uI{l:List D}:bC [.lst l]=some (.int l.length):=rfl
@[simp] theorem QAm{l:List D}:bC [.tup l]=some (.int l.length):=rfl
@[simp] theorem Yh{i j:Int}:qR [.int i,.int j]=some (.int (if j>i then j else i)):=rfl
@[simp] theorem QAD{i j:Int}:lE [.int i,.int j]=some (.int (if j<i then j else i)):=rfl
@[simp] theorem QAB{i:Int}:mY [.int i]=some (.int i):=rfl
@[simp] theorem Yi{b:Bool}:mY [.bl b]=some (.int (if b then 1 else 0)):=rfl
@[simp] theorem QAh:eG (.int 10) (.int 18)=some (.int 1000000000000000000):=by rfl
@[simp] theorem QAw:eG (.int 10) (.int 9)=some (.int 1000000000):=by rfl
@[simp] theorem km{α:Type}{xs:List α}{j:Nat}:atI xs (j:Int)=xs[j]?:=by
 unfold atI ixN;rw[if_pos (by omega)]
 by_cases h:j<xs.length
 ·rw[if_pos (by omega)];simp
 ·rw[if_neg (by omega),List.getElem?_eq_none (by omega)];rfl
theorem rN{α:Type}{xs:List α}{i:Int}(h0:0<=i)(h1:i<xs.length):∃x,atI xs i=some x/\x∈xs:=by
 obtain⟨j,rfl⟩:=Int.eq_ofNat_of_zero_le h0
 have hj:j<xs.length:=by omega
 exact⟨xs[j],by show atI xs (j:Int)=_;rw[km,zp hj],jn hj⟩
section
variable {c:Prop}[Decidable c]
@[simp] theorem Qzn{a b:Fl}:bA (if c then a else b)=if c then bA a else bA b:=by split<;>rfl
@[simp] theorem QzJ{a b:Res D}:nJ (if c then a else b)=if c then nJ a else nJ b:=by split<;>rfl
@[simp] theorem QzL{a b:Fl}{r:MS}:g8 (if c then a else b) r=if c then g8 a r else g8 b r:=by split<;>rfl
@[simp] theorem Qy2{α β:Type}{a b:Res α}{f:α->aq->Res β}:(if c then a else b).bind f=if c then a.bind f else b.bind f:=by split<;>rfl
@[simp] theorem Qz1{a b:Res Bool}{x y:MS}{ρ:aA}:ifF (if c then a else b) x y ρ=if c then ifF a x y ρ else ifF b x y ρ:=by split<;>rfl
@[simp] theorem Qzr{a b:Res D}{i:Nat}{ρ:aA}:rK i (if c then a else b) ρ=if c then rK i a ρ else rK i b ρ:=by split<;>rfl
@[simp] theorem Qz4{a b:Option D}{O:aq}:ofO (if c then a else b) O=if c then ofO a O else ofO b O:=by split<;>rfl
end
@[simp] theorem Yj:dF "str" "str" = true:=by decide
@[simp] theorem QAn:dF "int" "str" = false:=by decide
@[simp] theorem QAp:dF "bool" "str" = false:=by decide
@[simp] theorem QAq:dF "list" "str" = false:=by decide
@[simp] theorem QAy:dF "tuple" "str" = false:=by decide
@[simp] theorem QAA:dF "dict" "str" = false:=by decide
@[simp] theorem QAE:dF "NoneType" "str" = false:=by decide
@[simp] theorem QAu:dF "int" "int" = true:=by decide
@[simp] theorem QAC:dF "int" "bool" = false:=by decide
@[simp] theorem QAc:dF "bool" "bool" = true:=by decide
@[simp] theorem QzU:dF "list" "list" = true:=by decide
@[simp] theorem QzX:dF "tuple" "tuple" = true:=by decide
@[simp] theorem Qz3:dF "NoneType" "list" = false:=by decide
theorem kE{g:MG}{b:MS}(Pv:Nat->aA->aq->Prop):∀(ds:List D) (k:Nat) (ρ:aA) (O:aq),Pv k ρ O ->
  (∀i d ρ O,ds[i]?=some d->Pv (k+i) ρ O->∃ρ1,g d ρ=some ρ1/\∃ρ2 O2,(b ρ1 O=.nx ρ2 O2\/b ρ1 O=.ct ρ2 O2)/\Pv (k+i+1) ρ2 O2)->∃ρ' O',cD g b ds ρ O=.nx ρ' O'/\Pv (k+ds.length) ρ' O'
 | [],k,ρ,O,h,_=>⟨ρ,O,rfl,h⟩
 |d::ds,k,ρ,O,h,hs=>by
  obtain⟨ρ1,e1,ρ2,O2,e2,h2⟩:=hs 0 d ρ O rfl h
  obtain⟨ρ',O',e3,h3⟩:=kE Pv ds (k+1) ρ2 O2 h2 λi d' ρ' O' hi hp=>by
   have:=hs (i+1) d' ρ' O' (by simpa using hi) (by rw[show k+(i+1)=k+1+i by omega];exact hp)
   rw[show k+(i+1)+1=k+1+i+1 by omega] at this;exact this
  refine⟨ρ',O',?_,by rw[zv,show k+(ds.length+1)=k+1+ds.length by omega];exact h3⟩;unfold cD;rw[e1];dsimp only
  rcases e2 with e2 | e2<;>rw[e2]<;>exact e3
theorem JK{g:MG}{t:M Bool}{m:M D}(Pv:aA->Prop)(p:D->Bool):∀(ds:List D) (ρ:aA) (O:aq) (acc:List D),Pv ρ->(∀d∈ds,∀ρ,Pv ρ->∃ρ1,g d ρ=some ρ1/\Pv ρ1/\t ρ1 O=.ok (p d) O/\m ρ1 O=.ok d O)->dw g t m ds ρ O acc=.ok (acc++ds.filter p) O
 | [],ρ,O,acc,_,_=>by simp[dw]
 |d::ds,ρ,O,acc,h,hs=>by
  obtain⟨ρ1,e1,h1,e2,e3⟩:=hs d zx ρ h
  have ih:=λacc=>JK Pv p ds ρ1 O acc h1 λd' hd'=>hs d' (zB _ hd')
  unfold dw;rw[e1];dsimp only;rw[e2]
  cases q:p d with
  |true =>
   dsimp only;rw[e3];dsimp only;rw[ih,List.filter_cons,q];simp
  |false =>
   dsimp only;rw[ih,List.filter_cons,q];simp
@[simp] theorem QAr{ρ:aA}{O:aq}:Wn ρ O=.ok [] O:=rfl
@[simp] theorem QAb{a b:M D}{r:M (List (D×D))}{ρ:aA}{O:aq}:Wo a b r ρ O=(a ρ O).bind λx O1=>(b ρ O1).bind λy O2=>(r ρ O2).bind λps O3=>.ok ((x,y)::ps) O3:=rfl
def diF(o:Option (List Key))(kv:List (D×D))(O:aq):Res D:=match o with
 |some ks=>if ks.Nodup/\kv.length<=15 then .ok (.dic (kv.map (·.1)) (kv.map (·.2))) O else .no
 |none=>.no
@[simp] theorem QzQ{ks:List Key}{kv:List (D×D)}{O:aq}:diF (some ks) kv O=if ks.Nodup/\kv.length<=15 then .ok (.dic (kv.map (·.1)) (kv.map (·.2))) O else .no:=rfl
@[simp] theorem QAF{m:M (List (D×D))}{ρ:aA}{O:aq}:Wq m ρ O=(m ρ O).bind λkv O1=>diF (keysOf kv) kv O1:=rfl
@[simp] theorem QzV{i:Int}:keyOf (.int i)=some (.inl i):=rfl
@[simp] theorem Qz2{i:List Nat}:keyOf (.str i)=some (.inr (S i)):=rfl
@[simp] theorem Qyd:keysOf []=some []:=rfl
@[simp] theorem QxF{a b:D}{r:List (D×D)}:keysOf ((a,b)::r)=(keyOf a).bind λk=>(keysOf r).map (k :: ·):=rfl
def joF(o:Option (List (List Nat)))(O:aq):Res D:=match o with
 |some ls=>if(ls.map List.length).sum<=1000000 then .ok (.str ls.flatten) O else .no
 |none=>.no
@[simp] theorem Yk{ls:List (List Nat)}{O:aq}:joF (some ls) O=if(ls.map List.length).sum<=1000000 then .ok (.str ls.flatten) O else .no:=rfl
def jdF(d:D)(O:aq):Res D:=match d with
 | .lst ds=>joF (jJ ds) O
 | _=>.no
@[simp] theorem Yl{ds:List D}{O:aq}:jdF (.lst ds) O=joF (jJ ds) O:=rfl
@[simp] theorem Ym{m:M D}{ρ:aA}{O:aq}:uq m ρ O=(m ρ O).bind λd O1=>jdF (bB O1 d) O1:=rfl
theorem JL{α:Type}{f:α->List Nat}:∀l:List α,jJ (l.map λx=>.str (f x))=some (l.map f)
 | []=>rfl
 |x::l=>by
  show(jJ (l.map λx=>D.str (f x))).map _=_;rw[JL l];rfl
@[simp] theorem Yn{own:Nat}{cap:List Nat}{ρ:aA}:jE own cap ρ=List.replicate own none++cap.map λj=>(ρ[j]?).join:=rfl
@[simp] theorem QyY{g:MG}{t:M Bool}{m:M D}{ρ:aA}{O:aq}{acc:List D}:dw g t m [] ρ O acc=.ok acc O:=rfl
theorem JM:∀ds:List D,jZ ds=ds.map toP
 | []=>rfl
 |d::ds=>by rw[jZ,JM ds];rfl
theorem JN:∀{ds:List D},(∀d∈ds,gW d=true)->mW ds=true
 | [],_=>rfl
 |d::ds,h=>by rw[mW,h d zx,JN λx hx=>h x (zB _ hx)];rfl
theorem Yo{n:Nat}(hn:n<60){ds:List D}(h:∀d∈ds,gW d=true/\(toP d).canLay0=true/\(toP d).depth<=n):okE (.lst ds)=true:=by
 unfold okE;rw[zo];refine⟨?_,?_⟩
 ·rw[gW];exact JN λd hd=>(h d hd).1
 ·rw[toP,JM]
  refine U9 hn λd hd=>?_
  obtain⟨x,hx,rfl⟩:=zH.mp hd;exact(h x hx).2
theorem Yp{d:D}(h:okE d=true):j0 d d=true:=by
 unfold okE at h;rw[zo] at h
 have:=h.2
 unfold okD at this;rw[zo] at this;exact SeqAt.eqv_refl _ this.1
def it(f:Int->Int):Nat->Int->Int
 | 0,x=>x
 |n+1,x=>f (it f n x)
def mix(n k:Int):Int:=if n>1000000000000000000 then it (λr=>r / 1000000000) k.toNat n % 1000000000
 else
  let m:=it (λm=>(m * 48271+104729) % 2147483629) (k+2).toNat (n % 2147483647+7919)
  m * m % 998244353 / 11
theorem JP(j:Nat)(x:Int)(h0:0<=x)(h1:x<2147491566):0<=it (λm=>(m * 48271+104729) % 2147483629) j x/\it (λm=>(m * 48271+104729) % 2147483629) j x<2147491566:=by
 induction j with
 |zero=>exact⟨h0,h1⟩
 |succ j ih =>
  refine⟨zV _ (by decide),?_⟩
  have:=zX (it (λm=>(m * 48271+104729) % 2147483629) j x * 48271+104729) (show(0:Int)<2147483629 by decide)
  show(it (λm=>(m * 48271+104729) % 2147483629) j x * 48271+104729) % 2147483629<_;omega
def yH:MS:=(aB (bh (aJ (ak gGt (aa 0) (ak eG (mC (.int 10)) (mC (.int 18))))) (aB (aH 2 (mG (aa 0)))
  (aB (b8 (eQ (aj (aa 1) au)) (mgN 3) (aH 2 (ak fY (aa 2) (ak eG (mC (.int 10)) (mC (.int 9))))))
  (aU (ak bD (aa 2) (ak eG (mC (.int 10)) (mC (.int 9))))))) bx)
  (aB (aH 4 (ak bc (ak bD (aa 0) (mC (.int 2147483647))) (mC (.int 7919))))
  (aB (b8 (eQ (aj (ak bc (aa 1) (mC (.int 2))) au)) (mgN 3) (aH 4 (ak bD (ak bc (ak cz (aa 4) (mC (.int 48271))) (mC (.int 104729))) (mC (.int 2147483629)))))
  (aU (ak fY (ak bD (ak cz (aa 4) (aa 4)) (mC (.int 998244353))) (mC (.int 11)))))))
theorem jM(lo:Int)(n:Nat):(bI lo n).length=n:=by simp[bI]
theorem Yq(n k:Int)(h0:0<=k)(h1:k<=1000000)(O:aq):bH 5 yH [.int n,.int k] O=.ok (.int (mix n k)) O:=by
 unfold mix
 by_cases hn:n>1000000000000000000
 ·obtain⟨ρ',O',e,rfl,o3,rfl⟩:=kE (g:=mgN 3) (b:=aH 2 (ak fY (aa 2) (ak eG (mC (.int 10)) (mC (.int 9)))))
   (λi ρ O'=>O'=O/\∃o3,ρ=[some (.int n),some (.int k),some (.int (it (λr=>r / 1000000000) i n)),o3,none]) (bI 0 k.toNat) 0 [some (.int n),some (.int k),some (.int n),none,none] O ⟨rfl,none,rfl⟩ (by
    rintro i d ρ O' hi ⟨rfl,o3,rfl⟩;refine⟨_,rfl,?_⟩;simp;rw[show it (λr=>r / 1000000000) (i+1) n=it (λr=>r / 1000000000) i n / 1000000000 from rfl]
    exact⟨_,_,⟨rfl,rfl⟩,rfl,_,rfl⟩)
  rw[jM,zW] at e
  have hk:k<=1000000000/\-1000000000<=k:=by omega
  simp[yH,hn,hk,e]
 ·have hm0:0<=n % 2147483647+7919:=by have:=zV n (show(2147483647:Int)≠0 by decide);omega
  have hm1:n % 2147483647+7919<2147491566:=by have:=zX n (show(0:Int)<2147483647 by decide);omega
  obtain⟨ρ',O',e,rfl,o3,rfl⟩:=kE (g:=mgN 3) (b:=aH 4 (ak bD (ak bc (ak cz (aa 4) (mC (.int 48271))) (mC (.int 104729))) (mC (.int 2147483629))))
   (λi ρ O'=>O'=O/\∃o3,ρ=[some (.int n),some (.int k),none,o3,some (.int (it (λm=>(m * 48271+104729) % 2147483629) i (n % 2147483647+7919)))]) (bI 0 (k+2).toNat) 0 [some (.int n),some (.int k),none,none,some (.int (n % 2147483647+7919))] O ⟨rfl,none,rfl⟩ (by
    rintro i d ρ O' hi ⟨rfl,o3,rfl⟩;refine⟨_,rfl,?_⟩;obtain⟨b0,b1⟩:=JP i _ hm0 hm1
    have:=lK (i:=it (λm=>(m * 48271+104729) % 2147483629) i (n % 2147483647+7919)) (j:=48271) (.inr ⟨by decide,by decide⟩)
    simp[this]
    rw[show it (λm=>(m * 48271+104729) % 2147483629) (i+1) (n % 2147483647+7919)=(it (λm=>(m * 48271+104729) % 2147483629) i (n % 2147483647+7919) * 48271+104729) % 2147483629 from rfl]
    exact⟨_,_,⟨rfl,rfl⟩,rfl,_,rfl⟩)
  rw[jM,zW] at e
  have hk:k+2<=1000000000/\-1000000000<=k+2:=by omega
  obtain⟨b0,b1⟩:=JP (k+2).toNat _ hm0 hm1;have hq:=lK (i:=it (λm=>(m * 48271+104729) % 2147483629) (k+2).toNat (n % 2147483647+7919)) (j:=it (λm=>(m * 48271+104729) % 2147483629) (k+2).toNat (n % 2147483647+7919)) (.inl ⟨by omega,by omega⟩);simp[yH,hn,hk,e,hq]
def JQ(cs:List Str)(f:Str)(d:D)(O:aq):Res D:=match d with
 | .ob n=>match O[n]? with
  |some (.ins c fs)=>if c∈cs then match fs.lookup f with
   |some y=>.ok y O
   |none=>.no else .no
  | _=>.no
 | _=>.no
@[simp] theorem Yr{cs:List Str}{f:Str}{m:M D}{ρ:aA}{O:aq}:fO cs f m ρ O=(m ρ O).bind (JQ cs f):=rfl
def puF(cs:List Str)(f:Str)(d:D)(ρ:aA)(r:Res D):Fl:=match r with
 | .ok (.ob n) O2=>match O2[n]? with
  |some (.ins c fs)=>if c∈cs/\fs.length<900 then .nx ρ (O2.set n (.ins c (putD f d fs))) else .no
  | _=>.no
 | _=>.no
def sfF(cs:List Str)(f:Str)(mo:M D)(r:Res D)(ρ:aA):Fl:=match r with
 | .ok d O1=>puF cs f d ρ (mo ρ O1)
 | .ex x O'=>.ex x O'
 | .no=>.no
@[simp] theorem Ys{cs:List Str}{f:Str}{mo mv:M D}{ρ:aA}{O:aq}:j6 cs f mo mv ρ O=sfF cs f mo (mv ρ O) ρ:=by
 unfold j6 sfF puF
 cases mv ρ O<;>rfl
@[simp] theorem Yt{cs:List Str}{f:Str}{mo:M D}{d:D}{O:aq}{ρ:aA}:sfF cs f mo (.ok d O) ρ=puF cs f d ρ (mo ρ O):=rfl
def meF(c m:Str)(cf:List D->aq->Res D)(ma:aq->Res (List D))(d:D)(O1:aq):Res D:=match d with
 | .ob n=>match O1[n]? with
  |some (.ins c' fs)=>if c'=c/\(fs.lookup m).isNone=true then(ma O1).bind λds O2=>cf (.ob n::ds) O2 else .no
  | _=>.no
 | _=>.no
@[simp] theorem Yu{c m:Str}{cf:List D->aq->Res D}{mo:M D}{ma:M (List D)}{ρ:aA}{O:aq}:cF c m cf mo ma ρ O=(mo ρ O).bind (meF c m cf (ma ρ)):=rfl
def mkF(n:Nat)(r:Res D):Res D:=match r with
 | .ok .non O2=>.ok (.ob n) O2
 | .ok _ _=>.no
 | .ex x O2=>.ex x O2
 | .no=>.no
@[simp] theorem Yv{c:Str}{cf:List D->aq->Res D}{ma:M (List D)}{ρ:aA}{O:aq}:nj c cf ma ρ O=(ma ρ O).bind λds O1=>mkF O1.length (cf (.ob O1.length::ds) (O1++[.ins c []])):=by
 unfold nj;congr 1
@[simp] theorem Yw{n:Nat}{O:aq}:mkF n (.ok .non O)=.ok (.ob n) O:=rfl
def apF(i:Nat)(r:Res D)(ρ:aA):Fl:=match r with
 | .ok d O'=>match ρ[i]? with
  |some (some (.lst ds))=>if ds.length<1000000 then .nx (ρ.set i (some (.lst (ds++[d])))) O' else .no
  | _=>.no
 | .ex x O'=>.ex x O'
 | .no=>.no
@[simp] theorem yI{i:Nat}{m:M D}{ρ:aA}{O:aq}:dW i m ρ O=apF i (m ρ O) ρ:=rfl
theorem rP{i:Nat}{d:D}{ds:List D}{ρ:aA}{O:aq}(h:ρ[i]?=some (some (.lst ds)))(hl:ds.length<1000000):apF i (.ok d O) ρ=.nx (ρ.set i (some (.lst (ds++[d])))) O:=by
 unfold apF;dsimp only;rw[h];dsimp only;rw[if_pos hl]
def exF(i:Nat)(r:Res D)(ρ:aA):Fl:=match r with
 | .ok d O'=>match ρ[i]?,bB O' d with
  |some (some (.lst ds)),.lst es=>if ds.length+es.length<=1000000 then .nx (ρ.set i (some (.lst (ds++es)))) O' else .no
  | _,_=>.no
 | .ex x O'=>.ex x O'
 | .no=>.no
@[simp] theorem QAl{i:Nat}{m:M D}{ρ:aA}{O:aq}:Wc i m ρ O=exF i (m ρ O) ρ:=rfl
def enF(d:D)(O1:aq):Res (List D):=match d with
 | .lst ds=>.ok (qW 0 ds) O1
 | .str l=>if ascii l=true then .ok (qW 0 (fZ l)) O1 else .no
 | _=>.no
@[simp] theorem QAo{m:M D}{ρ:aA}{O:aq}:Wi m ρ O=(m ρ O).bind enF:=rfl
def asF(r:Res D)(g:MG)(ρ:aA):Fl:=match r with
 | .ok d O'=>match g d ρ with
  |some ρ'=>.nx ρ' O'
  |none=>.no
 | .ex x O'=>.ex x O'
 | .no=>.no
@[simp] theorem QAi{m:M D}{g:MG}{ρ:aA}{O:aq}:Vt m g ρ O=asF (m ρ O) g ρ:=rfl
@[simp] theorem QA0{i j:Nat}{a b:D}{ρ:aA}:qN 2 (lC (mgN i) (lC (mgN j) ue)) (.tup [a,b]) ρ=some ((ρ.set i (some a)).set j (some b)):=rfl
def stF(a b:D)(O:aq):Res D:=match a,b with
 | .str l,.str n=>.ok (.bl (decide (l.take n.length=n))) O
 | _,_=>.no
@[simp] theorem Qzl{a b:M D}{ρ:aA}{O:aq}:Wa a b ρ O=(a ρ O).bind λx O1=>(b ρ O1).bind λy O2=>stF x y O2:=rfl
@[simp] theorem QAU{l n:List Nat}{O:aq}:stF (.str l) (.str n) O=.ok (.bl (decide (l.take n.length=n))) O:=rfl
theorem yJ{t:M Bool}{b:MS}(Pv:Nat->aA->aq->Prop):∀(n:Nat) (k:Nat) (ρ:aA) (O:aq),k<n->Pv k ρ O ->
  (∀k ρ O,Pv (k+1) ρ O->t ρ O=.ok true O/\∃j ρ2 O2,j<=k/\b ρ O=.nx ρ2 O2/\Pv j ρ2 O2)->(∀ρ O,Pv 0 ρ O->t ρ O=.ok false O)->∃ρ' O',dM t b n ρ O=.nx ρ' O'/\Pv 0 ρ' O'
 | 0,k,ρ,O,hk,_,_,_=>absurd hk (Nat.not_lt_zero _)
 |n+1,0,ρ,O,_,h,_,h0=>by
  refine⟨ρ,O,?_,h⟩;unfold dM;rw[h0 ρ O h]
 |n+1,k+1,ρ,O,hk,h,hs,h0=>by
  obtain⟨e1,j,ρ2,O2,hj,e2,h2⟩:=hs k ρ O h;obtain⟨ρ',O',e3,h3⟩:=yJ Pv n j ρ2 O2 (by omega) h2 hs h0;refine⟨ρ',O',?_,h3⟩;unfold dM;rw[e1];dsimp only;rw[e2];exact e3
theorem lL{α:Type}{g:MG}{t:M Bool}{m:M D}(Pv:aA->Prop)(f h:α->D):∀(xs:List α) (ρ:aA) (O:aq) (acc:List D),Pv ρ->(∀x∈xs,∀ρ,Pv ρ->∃ρ1,g (f x) ρ=some ρ1/\Pv ρ1/\t ρ1 O=.ok true O/\m ρ1 O=.ok (h x) O)->dw g t m (xs.map f) ρ O acc=.ok (acc++xs.map h) O
 | [],ρ,O,acc,_,_=>by simp[dw]
 |x::xs,ρ,O,acc,hp,hs=>by
  obtain⟨ρ1,e1,h1,e2,e3⟩:=hs x zx ρ hp;rw[zd];unfold dw;rw[e1];dsimp only;rw[e2];dsimp only;rw[e3];dsimp only;rw[lL Pv f h xs ρ1 O _ h1 λd' hd'=>hs d' (zB _ hd')];simp
def JR:List Nat:=[101,110,100]
def JS:List Nat:=[97,110,101,119]
def JT:List Nat:=[112,108,97,105,110]
def iu:List Nat:=[115,105,103,110]
def JV:List Nat:=[105,110,107]
def JW:List Nat:=[103,114,111,117,110,100]
def item(p:Int)(k v:List Nat):D:=.tup [.int p,.str k,.str v]
def col(c:Nat):Bool:=decide (c∈[97,98,99,100,101,102,103,104,46])
def Yx(x:Nat):List Nat->List Nat×List Nat×Nat
 | []=>(iu,[91],0)
 |e::_=>if e=93 then(JW,[x],3) else(iu,[91],0)
def Yy:List Nat->List Nat×List Nat×Nat
 | []=>(iu,[91],0)
 |x::t=>if col x=true then Yx x t else(iu,[91],0)
def Yz(x:Nat):List Nat->List Nat×List Nat×Nat
 | []=>(iu,[91],0)
 |e::_=>if e=93 then(JV,[x],2) else(iu,[91],0)
def YB:List Nat->List Nat×List Nat×Nat
 | []=>(iu,[91],0)
 |d::t=>if d=93 then(JT,[],1) else if d=91 then(iu,[91],1) else if col d=true then Yz d t else if d=47 then Yy t else(iu,[91],0)
def one(c:Nat)(t:List Nat):List Nat×List Nat×Nat :=
 if c=10 then(JR,[],0) else if c=9 then(JS,[],0) else if c=91 then YB t else(iu,[c],0)
def items(p:Int):List Nat->List D
 | []=>[]
 |c::t=>item p (one c t).1 (one c t).2.1::items (p+((one c t).2.2+1:Nat)) (t.drop (one c t).2.2)
termination_by l=>l.length
decreasing_by
 simp only[List.length_drop,zv];omega
def own(p:Int)(c:Nat):D:=if c=10 then item p JR [] else if c=9 then item p JS [] else item p iu [c]
def owns:Int->List Nat->List D
 | _,[]=>[]
 |p,c::l=>own p c::owns (p+1) l
def YC:List Nat->Bool
 | [a]=>decide (a=91)
 | [a,b]=>decide (a=91)&&(decide (b=47) || col b)
 | [a,b,c]=>decide (a=91)&&(decide (b=47)&&col c)
 | _=>false
def markB:List Nat->Option (List Nat×List Nat)
 | [a,b]=>if a=91/\b=93 then some (JT,[]) else if a=91/\b=91 then some (iu,[91]) else none
 | [a,b,c]=>if a=91/\col b=true/\c=93 then some (JV,[b]) else none
 | [a,b,c,d]=>if a=91/\b=47/\col c=true/\d=93 then some (JW,[c]) else none
 | _=>none
def tk(h:List Nat)(c:Nat)(p:Int):List D×List Nat :=
 if YC (h++[c])=true then([],h++[c]) else match markB (h++[c]) with
 |some (k,v)=>([item p k v],[])
 |none=>if c=91 then(owns p h,[91]) else(owns p (h++[c]),[])
inductive nM:List Nat->Prop where
 | h0:nM []
 | h1:nM [91]
 | h2:nM [91,47]
 | h3 (x:Nat) (h:col x=true):nM [91,x]
 | h4 (x:Nat) (h:col x=true):nM [91,47,x]
theorem nM.len{h:List Nat}(H:nM h):h.length<=3:=by cases H<;>simp
theorem yK{n:Nat}{t:M Bool}{b:MS}{ρ:aA}{O:aq}:gR n t b ρ O=dM t b n ρ O:=rfl
@[simp] theorem YD{l:List D}:gY [.lst l]=some (.lst l):=rfl
def fzF(f:Fl):Fl:=match f with
 | .rt d O'=>.rt d O'
 | _=>.no
@[simp] theorem QAS{m:MS}{ρ:aA}{O:aq}:qY m ρ O=fzF (m ρ O):=rfl
@[simp] theorem QAG{d:D}{O:aq}:fzF (.rt d O)=.rt d O:=rfl
def ziF(d e:D)(O:aq):Res (List D):=match d,e with
 | .lst ds,.lst es=>.ok (j7 ds es) O
 | _,_=>.no
@[simp] theorem QAT{ma mb:M D}{ρ:aA}{O:aq}:IV ma mb ρ O=(ma ρ O).bind λd O1=>(mb ρ O1).bind λe O2=>ziF d e O2:=by
 unfold IV;congr 1
@[simp] theorem QAL{ds es:List D}{O:aq}:ziF (.lst ds) (.lst es) O=.ok (j7 ds es) O:=rfl
end L2
namespace K48
open PySem L2
seal VE SE OE WE TsE TwE AE VS VSs VG VGs VI VIc VO VIf DPE
def top(i:Nat):Stmt:=PySem.Challenge.pw_outweave_k48_whole_folded_and_joined.main.body.getD i (.Pass ⟨0,0,0,0⟩)
local macro_rules | `(tactic| trivial) => `(tactic| exact ⟨rfl, rfl, rfl, by decide +kernel, rfl, by decide +kernel, by decide +kernel⟩)
section
variable {Pr:Program}{w:World}{K:Frag}{mg:Str->Option Value}{base:Heap}
abbrev yL:Stmt:=top 4
theorem YF:bK ["sign"] ["sign"] (aY yL):=by trivial
def yM:MS :=
  (aU (mIf (aJ (mJ gLe gLe (mC (.str [65])) (aa 0) (mC (.str [90])))) (mC (.int 2)) (mC (.int 1))))
def iZ:List D->aq->Res D:=bH 1 yM
abbrev uJ(Pr:Program)(w:World)(K:Frag)(mg:Str->Option Value)(base:Heap):Prop:=Can Pr w K mg base "width_of" ["sign"] 1 (vSp K mg [.s] (rV K) iZ)
theorem YG(yN:Def K mg "width_of" yL)
  (B:bW mg)
  (NK:bL K=true):
  uJ Pr w K mg base:=by
 refine cP (k:=0) (b:=yM) yN YF (λ_ _ _ _ _ _=>aX λ_=>bZ rfl) [.s] [] cB (λ_ _ _ _=>Rp.non) (body:=λf cdv A outer s H E hr P=>?_);refine aP ?_;refine bT ?_;refine uc ?_ aD aD;refine Vh oU oU (ao (cC [65])) (aF 0) (ao (cC [90]))
abbrev uK:Stmt:=top 6
theorem YH:bK ["letters"] ["letters"] (aY uK):=by trivial
def yO:MS :=
  (aU (aV oW (aj (dD (cQ (aa 0)) 1 [] (mgN 0) dN (aK iZ (aj (ak gIx (aa 0) (mC (.int 0))) au))) au)))
def uL:List D->aq->Res D:=bH 1 yO
abbrev JX(Pr:Program)(w:World)(K:Frag)(mg:Str->Option Value)(base:Heap):Prop:=Can Pr w K mg base "cells_of" ["letters"] 2 (vSp K mg [.s] (rV K) uL)
theorem YJ(yP:Def K mg "cells_of" uK)
  (B:bW mg)
  (NK:bL K=true)
  (jN:uJ Pr w K mg base):
  JX Pr w K mg base:=by
 refine cP (k:=1) (b:=yO) yP YH (λ_ _ _ _ _ _=>aX λ_=>bZ rfl) [.s] [] cB (λ_ _ _ _=>Rp.non) (body:=λf cdv A outer s H E hr P=>?_);refine aP ?_;refine bT ?_;refine bf ?_;refine cJ (ms:=[.s]) (hv:=Ih) (Ie rfl) B.sum_ ?_;refine aC ?_ aG;refine aL ?_;refine oN (aY uK) ["letters"] ["letter"] [] rfl (nA (aF 0)) (λ_ _ _ _ P=>?_) (λ_ _ _ _ P=>?_) (λ_ _ _ _ P=>?_);exact di (i:=0) (show(bQ ["letters"] ["letter"] []).Nodup by decide +kernel) rfl (.inl rfl);exact mR;refine bR jN (hr.mono (by decide)) ?_;refine aC ?_ aG;refine ao ?_;refine bj (ao (az 0)) (ao aD)
abbrev yQ:Stmt:=top 8
theorem YK:bK ["letters","place"] ["letters","place"] (aY yQ):=by trivial
def rQ:MS :=
  (aB (bh (aJ (ak gEq (aa 1) (aV bC (aj (aa 0) au)))) (aU (mC (.bl true))) bx)
  (aU (jW (ak gEq (ak gIx (ak gIx (aa 0) (ak gw (aa 1) (mC (.int 1)))) (mC (.int 0))) (mC (.str [32]))) (ak gNe (ak gIx (ak gIx (aa 0) (aa 1)) (mC (.int 0))) (mC (.str [32]))))))
def lM:List D->aq->Res D:=bH 2 rQ
abbrev JZ(Pr:Program)(w:World)(K:Frag)(mg:Str->Option Value)(base:Heap):Prop:=Can Pr w K mg base "is_break" ["letters","place"] 1 (vSp K mg [.s,.s] (rV K) lM)
theorem YL(yR:Def K mg "is_break" yQ)
  (B:bW mg)
  (NK:bL K=true):
  JZ Pr w K mg base:=by
 refine cP (k:=0) (b:=rQ) yR YK (λ_ _ _ _ _ _=>aX λ_=>aX λ_=>bZ rfl) [.s,.s] [] cB (λ_ _ _ _=>Rp.non) (body:=λf cdv A outer s H E hr P=>?_);refine aM ?_ ?_;refine cI ?_ ?_ cO;refine bO (eO hr) (aF 1) ?_ (bG _);refine aL ?_;refine cJ (ms:=[.s]) (hv:=cZ) cY B.len_ ?_;refine aC (aF 0) aG;refine aP (bT gq);refine aP ?_;refine bT ?_;refine qL ?_ ?_;refine bf ?_;refine mH (eO hr) ?_ (ao (cC [32])) (bG _);refine ao ?_;refine bj ?_ (ao aD);refine ao ?_;refine bj (aF 0) ?_;refine aL ?_;refine aR oR (aF 1) (ao aD);refine qK ?_;refine bf ?_;refine mH (jG hr) ?_ (ao (cC [32])) (bG _)
 refine ao ?_;refine bj ?_ (ao aD);refine ao ?_;refine bj (aF 0) (aF 1)
abbrev yS:Stmt:=top 9
theorem rR:bK ["letters","lo","wide","end","cells"] ["letters","lo","wide"] (aY yS):=by trivial
def uM:MS :=
  (aB (aH 3 (mG (aa 1)))
  (aB (aH 4 (mC (.int 0)))
  (aB (gR wF (dC (aJ (ak gLt (aa 3) (aV bC (aj (aa 0) au)))) (aJ (ak gLe (ak bc (aa 4) (aK iZ (aj (ak gIx (ak gIx (aa 0) (aa 3)) (mC (.int 0))) au))) (aa 2)))) (aB (aH 4 (ak bc (aa 4) (aK iZ (aj (ak gIx (ak gIx (aa 0) (aa 3)) (mC (.int 0))) au))))
  (aH 3 (ak bc (aa 3) (mC (.int 1))))))
  (aU (aa 3)))))
def pJ:List D->aq->Res D:=bH 5 uM
abbrev uN(Pr:Program)(w:World)(K:Frag)(mg:Str->Option Value)(base:Heap):Prop:=Can Pr w K mg base "reach" ["letters","lo","wide"] 2 (vSp K mg [.s,.s,.s] (rV K) pJ)
theorem YM(yU:Def K mg "reach" yS)
  (B:bW mg)
  (NK:bL K=true)
  (jN:uJ Pr w K mg base):
  uN Pr w K mg base:=by
 refine cP (k:=1) (b:=uM) yU rR (λ_ _ _ _ _ _=>aX λ_=>aX λ_=>aX λ_=>bZ rfl) [.s,.s,.s] [.v,.v] cB (λ_ _ _ _=>Rp.non) (body:=λf cdv A outer s H E hr P=>?_);refine aM ?_ ?_;refine bu (i:=3) rR.nd rfl (.inl rfl) (dJ (aF 1));refine aM (bu (i:=4) rR.nd rfl (.inl rfl) aD) ?_;refine aM ?_ ?_;refine qO wF ?_ ?_;refine fX ?_;refine mO ?_ ?_;refine bO mV (ao (az 3)) ?_ (bG _);refine aL ?_;refine cJ (ms:=[.s]) (hv:=cZ) cY B.len_ ?_;refine aC (aF 0) aG;refine mK ?_;refine bO oU ?_ (aF 2) (bG _);refine aL ?_;refine aR cR (ao (az 4)) ?_;refine ao ?_
 refine bR jN (hr.mono (by decide)) ?_;refine aC ?_ aG;refine ao ?_;refine bj ?_ (ao aD);refine ao ?_;refine bj (aF 0) (ao (az 3));refine aM ?_ ?_;refine bu (i:=4) rR.nd rfl (.inl rfl) ?_;refine bf ?_;refine aR cR (ao (az 4)) ?_;refine ao ?_;refine bR jN (hr.mono (by decide)) ?_;refine aC ?_ aG;refine ao ?_;refine bj ?_ (ao aD);refine ao ?_;refine bj (aF 0) (ao (az 3));refine aP ?_;refine bu (i:=3) rR.nd rfl (.inl rfl) ?_;refine bf ?_;refine aR cR (ao (az 3)) (ao aD);refine aP (bT (az 3))
abbrev yV:Stmt:=top 10
theorem nO:bK ["letters","lo","wide","ends","cells","filled","place"] ["letters","lo","wide"] (aY yV):=by trivial
def J0:MS :=
  (aB (aH 3 (bY au))
  (aB (aH 4 (mC (.int 0)))
  (aB (aH 5 (mC (.int 0)))
  (aB (b8 (j5 (aj (aa 1) (aj (aV bC (aj (aa 0) au)) au))) (mgN 6) (aB (aH 4 (ak bc (aa 4) (aK iZ (aj (ak gIx (ak gIx (aa 0) (aa 6)) (mC (.int 0))) au))))
  (aB (bh (aJ (ak gNe (ak gIx (ak gIx (aa 0) (aa 6)) (mC (.int 0))) (mC (.str [32])))) (aH 5 (aa 4)) bx)
  (aB (bh (aJ (ak gGt (aa 5) (aa 2))) ud bx)
  (bh (cj (aK lM (aj (aa 0) (aj (ak bc (aa 6) (mC (.int 1))) au)))) (dW 3 (dh (aj (ak bc (aa 6) (mC (.int 1))) (aj (aa 5) au)))) bx)))))
  (aU (aa 3))))))
def yW:List D->aq->Res D:=bH 7 J0
abbrev J1(Pr:Program)(w:World)(K:Frag)(mg:Str->Option Value)(base:Heap):Prop:=Can Pr w K mg base "fitting_ends" ["letters","lo","wide"] 2 (vSp K mg [.s,.s,.s] (rO K) yW)
theorem YQ(yX:Def K mg "fitting_ends" yV)
  (B:bW mg)
  (NK:bL K=true)
  (jN:uJ Pr w K mg base)
  (yZ:JZ Pr w K mg base):
  J1 Pr w K mg base:=by
 refine cP (k:=1) (b:=J0) yX nO (λ_ _ _ _ _ _=>aX λ_=>aX λ_=>aX λ_=>bZ rfl) [.s,.s,.s] [.o,.v,.v,.v] fj (λ_ _ _ _=>.inl ⟨rfl,Rp.non⟩) (body:=λf cdv A outer s H E hr P=>?_);refine aM ?_ ?_;refine jX (i:=3) nO.nd rfl (.inl rfl) (dB 0 aG);refine aM (bu (i:=4) nO.nd rfl (.inl rfl) aD) ?_;refine aM (bu (i:=5) nO.nd rfl (.inl rfl) aD) ?_;refine aM ?_ (aP (oM 3));refine fM rfl ?_ (di (i:=6) nO.nd rfl (.inl rfl)) ?_;refine xX B.range_ ?_;refine aC (aF 1) ?_;refine aC ?_ aG;refine aL ?_;refine cJ (ms:=[.s]) (hv:=cZ) cY B.len_ ?_;refine aC (aF 0) aG
 refine aM ?_ ?_;refine bu (i:=4) nO.nd rfl (.inl rfl) ?_;refine bf ?_;refine aR cR (ao (az 4)) ?_;refine ao ?_;refine bR jN (hr.mono (by decide)) ?_;refine aC ?_ aG;refine ao ?_;refine bj ?_ (ao aD);refine ao ?_;refine bj (aF 0) (ao (az 6));refine aM ?_ ?_;refine cI ?_ ?_ cO;refine bO (jG hr) ?_ (ao (cC [32])) (bG _);refine ao ?_;refine bj ?_ (ao aD);refine ao ?_;refine bj (aF 0) (ao (az 6));refine aP (bu (i:=5) nO.nd rfl (.inl rfl) (az 4));refine aM ?_ ?_;refine cI ?_ (aP Vn) cO;refine bO jY (ao (az 5)) (aF 2) (bG _);refine aP ?_;refine cI ?_ ?_ cO
 refine gQ ?_;refine ao ?_;refine bR yZ (hr.mono (by decide)) ?_;refine aC (aF 0) ?_;refine aC ?_ aG;refine aL ?_;refine aR cR (ao (az 6)) (ao aD);refine aP ?_;refine m6 3 ?_;refine fW 2 ?_;refine aZ ?_ ?_;refine bf ?_;refine aR cR (ao (az 6)) (ao aD);refine aZ (az 5) aG
abbrev z7:Stmt:=top 11
theorem z8:bK ["letters","lo","wide","ends","end"] ["letters","lo","wide"] (aY z7):=by trivial
def pK:MS :=
  (aB (aH 3 (aK yW (aj (aa 0) (aj (aa 1) (aj (aa 2) au)))))
  (aB (bh (aJ (ak gGt (aV bC (aj (aa 3) au)) (mC (.int 0)))) (aU (aa 3)) bx)
  (aB (aH 4 (aK pJ (aj (aa 0) (aj (aa 1) (aj (aa 2) au)))))
  (aU (bY (aj (dh (aj (aa 4) (aj (aK uL (aj (mSl (aa 0) (moS (mG (aa 1))) (moS (aa 4))) au)) au))) au))))))
def rY:List D->aq->Res D:=bH 5 pK
abbrev z9(Pr:Program)(w:World)(K:Frag)(mg:Str->Option Value)(base:Heap):Prop:=Can Pr w K mg base "line_ends" ["letters","lo","wide"] 3 (vSp K mg [.s,.s,.s] (rO K) rY)
theorem YS(Aa:Def K mg "line_ends" z7)
  (B:bW mg)
  (NK:bL K=true)
  (Ab:J1 Pr w K mg base)
  (kI:uN Pr w K mg base)
  (Ac:JX Pr w K mg base):
  z9 Pr w K mg base:=by
 refine cP (k:=2) (b:=pK) Aa z8 (λ_ _ _ _ _ _=>aX λ_=>aX λ_=>aX λ_=>bZ rfl) [.s,.s,.s] [.o,.v] fj (λ_ _ _ _=>.inl ⟨rfl,Rp.non⟩) (body:=λf cdv A outer s H E hr P=>?_);refine aM ?_ ?_;refine jX (i:=3) z8.nd rfl (.inl rfl) ?_;refine gG Ab (hr.mono (by decide)) ?_;refine aC (aF 0) ?_;refine aC (aF 1) ?_;refine aC (aF 2) aG;refine aM ?_ ?_;refine cI ?_ (aP (oM 3)) cO;refine bO jY ?_ (ao aD) (bG _);refine aL ?_;refine cJ (ms:=[.s]) (hv:=cZ) cY B.len_ ?_;refine aC (aF 3) aG;refine aM ?_ ?_;refine bu (i:=4) z8.nd rfl (.inl rfl) ?_;refine bR kI (hr.mono (by decide)) ?_
 refine aC (aF 0) ?_;refine aC (aF 1) ?_;refine aC (aF 2) aG;refine aP ?_;refine jD ?_;refine dB 1 ?_;refine aZ ?_ aG;refine fW 2 ?_;refine aZ (az 4) ?_;refine aZ ?_ aG;refine bR Ac (hr.mono (by decide)) ?_;refine aC ?_ aG;refine aL ?_;refine qQ (aF 0) ?_ (mX (az 4));refine mX (dJ (aF 1))
abbrev Ad:Stmt:=top 13
theorem YT:bK ["thing"] ["thing"] (aY Ad):=by trivial
def Ae:MS :=
  (aU (jW (fC "int" (aa 0)) (qJ (fC "bool" (aa 0)))))
def Af:List D->aq->Res D:=bH 1 Ae
abbrev J2(Pr:Program)(w:World)(K:Frag)(mg:Str->Option Value)(base:Heap):Prop:=Can Pr w K mg base "is_whole" ["thing"] 1 (vSp K mg [.s] (rV K) Af)
theorem YW(Ag:Def K mg "is_whole" Ad)
  (B:bW mg)
  (NK:bL K=true):
  J2 Pr w K mg base:=by
 refine cP (k:=0) (b:=Ae) Ag YT (λ_ _ _ _ _ _=>aX λ_=>bZ rfl) [.s] [] cB (λ_ _ _ _=>Rp.non) (body:=λf cdv A outer s H E hr P=>?_);refine aP ?_;refine bT ?_;refine qL ?_ ?_;refine bf (mZ "int" (hb:=um) B.isinstance_ B.int_ (aF 0));refine qK ?_;refine Hx ?_;refine bf (mZ "bool" (hb:=Ij) B.isinstance_ B.bool_ (aF 0))
abbrev Ah:Stmt:=top 14
theorem YX:bK ["thing","least","greatest"] ["thing","least","greatest"] (aY Ah):=by trivial
def Ai:MS :=
  (aU (jW (aK Af (aj (aa 0) au)) (mJ gLe gLe (aa 1) (aa 0) (aa 2))))
def uO:List D->aq->Res D:=bH 3 Ai
abbrev J3(Pr:Program)(w:World)(K:Frag)(mg:Str->Option Value)(base:Heap):Prop:=Can Pr w K mg base "is_within" ["thing","least","greatest"] 2 (vSp K mg [.s,.s,.s] (rV K) uO)
theorem YZ(Aj:Def K mg "is_within" Ah)
  (B:bW mg)
  (NK:bL K=true)
  (Ak:J2 Pr w K mg base):
  J3 Pr w K mg base:=by
 refine cP (k:=1) (b:=Ai) Aj YX (λ_ _ _ _ _ _=>aX λ_=>aX λ_=>aX λ_=>bZ rfl) [.s,.s,.s] [] cB (λ_ _ _ _=>Rp.non) (body:=λf cdv A outer s H E hr P=>?_);refine aP ?_;refine bT ?_;refine qL ?_ ?_;refine bR Ak (hr.mono (by decide)) ?_;refine aC (aF 0) aG;refine qK ?_;refine bf ?_;refine Vg oU oU (aF 1) (aF 0) (aF 2)
abbrev Al:Stmt:=top 17
theorem J4:bK ["move","prices","beyond"] ["move","prices"] (aY Al):=by trivial
def uP:MS :=
  (aB (aH 2 (dG (mG (aa 1)) (ak gIx (aa 0) (mC (.int 2)))))
  (aU (mIf (aJ (jB (aa 2))) (mC .non) (ak bc (ak gIx (aa 0) (mC (.int 0))) (aa 2)))))
def kJ:List D->aq->Res D:=bH 3 uP
abbrev Am(Pr:Program)(w:World)(K:Frag)(mg:Str->Option Value)(base:Heap):Prop:=Can Pr w K mg base "cost_over" ["move","prices"] 1 (vSp K mg [.s,.s] (rV K) kJ)
theorem Y0(An:Def K mg "cost_over" Al)
  (B:bW mg)
  (NK:bL K=true):
  Am Pr w K mg base:=by
 refine cP (k:=0) (b:=uP) An J4 (λ_ _ _ _ _ _=>aX λ_=>aX λ_=>bZ rfl) [.s,.s] [.v] cB (λ_ _ _ _=>Rp.non) (body:=λf cdv A outer s H E hr P=>?_);refine aM ?_ ?_;refine bu (i:=2) J4.nd rfl (.inl rfl) ?_;refine rE NK hr (dJ (aF 1)) ?_;refine bj (aF 0) (ao aD);refine aP ?_;refine bT ?_;refine uc ?_ xG ?_;refine xJ (ao (az 2));refine bf ?_;refine aR cR ?_ (ao (az 2));refine ao ?_;refine bj (aF 0) (ao aD)
abbrev rZ:Stmt:=top 18
theorem J5:bK ["moves","prices","costs"] ["moves","prices"] (aY rZ):=by trivial
def uQ:MS :=
  (aB (aH 2 (dD (cQ (aa 0)) 1 [1] (mgN 0) dN (aK kJ (aj (aa 0) (aj (aa 1) au)))))
  (aU (aV uz (aj (dD (cQ (aa 2)) 1 [] (mgN 0) (aJ (iM (aa 0))) (aa 0)) au))))
def nP:List D->aq->Res D:=bH 3 uQ
abbrev Ao(Pr:Program)(w:World)(K:Frag)(mg:Str->Option Value)(base:Heap):Prop:=Can Pr w K mg base "least_cost" ["moves","prices"] 2 (vSp K mg [.s,.s] (rV K) nP)
theorem Y4(Aq:Def K mg "least_cost" rZ)
  (B:bW mg)
  (NK:bL K=true)
  (pL:Am Pr w K mg base):
  Ao Pr w K mg base:=by
 refine cP (k:=1) (b:=uQ) Aq J5 (λ_ _ _ _ _ _=>aX λ_=>aX λ_=>bZ rfl) [.s,.s] [.v] cB (λ_ _ _ _=>Rp.non) (body:=λf cdv A outer s H E hr P=>?_);refine aM ?_ ?_;refine xN (i:=2) (aY rZ) ["moves","prices","costs"] ["move"] [1] J5.nd rfl (.inl rfl) rfl (nA (aF 0)) (λ_ _ _ _ P=>?_) (λ_ _ _ _ P=>?_) (λ_ _ _ _ P=>?_);exact di (i:=0) (show(bQ ["moves","prices","costs"] ["move"] [1]).Nodup by decide +kernel) rfl (.inl rfl);exact mR;refine bR pL (hr.mono (by decide)) ?_;refine aC (ao (az 0)) ?_;refine aC (aF 1) aG;refine aP ?_;refine bT ?_;refine bf ?_
 refine W9 rfl B.min_ ?_;refine aL ?_;refine oN (aY rZ) ["moves","prices","costs"] ["cost"] [] rfl ?_ (λ_ _ _ _ P=>?_) (λ_ _ _ _ P=>?_) (λ_ _ _ _ P=>?_);refine nA (ao (az 2));exact di (i:=0) (show(bQ ["moves","prices","costs"] ["cost"] []).Nodup by decide +kernel) rfl (.inl rfl);refine HJ ?_;refine Hu (ao (az 0));exact az 0
abbrev Ar:Stmt:=inClass (top 24) 3
theorem Y5:bK ["self","at"] ["self","at"] (aY Ar):=by trivial
def J6:MS :=
  (aU (bY (aj (dh (aj (mG (aa 1)) (aj (mC (.int 0)) au))) au)))
def pM:List D->aq->Res D:=bH 2 J6
abbrev J7(Pr:Program)(w:World)(K:Frag)(mg:Str->Option Value)(base:Heap):Prop:=gZ Pr w K mg base "Even" "nodes_at" ["self","at"] 1 (vSp K mg [.v,.s] (rO K) pM)
theorem Y6(Av:lF K mg "Even" "nodes_at" "Even.nodes_at" Ar)
  (B:bW mg)
  (NK:bL K=true):
  J7 Pr w K mg base:=by
 refine oZ (k:=0) (b:=J6) Av Y5 (λ_ _ _ _ _ _=>aX λ_=>aX λ_=>bZ rfl) [.v,.s] [] fj (λ_ _ _ _=>.inl ⟨rfl,Rp.non⟩) (body:=λf cdv A outer s H E hr P=>?_);refine aP ?_;refine jD ?_;refine dB 1 ?_;refine aZ ?_ aG;refine fW 2 ?_;refine aZ (dJ (aF 1)) ?_;refine aZ aD aG
abbrev Aw:Stmt:=inClass (top 24) 5
theorem Y7:bK ["self","node"] ["self","node"] (aY Aw):=by trivial
def uR:MS :=
  (aU (ak gEq (aa 1) (dh (aj (aV bC (aj (fO ["Even"] "letters" (aa 0)) au)) (aj (mC (.int 0)) au)))))
def iw:List D->aq->Res D:=bH 2 uR
abbrev uT(Pr:Program)(w:World)(K:Frag)(mg:Str->Option Value)(base:Heap):Prop:=gZ Pr w K mg base "Even" "is_end" ["self","node"] 1 (vSp K mg [.v,.s] (rV K) iw)
theorem Y8(Ay:lF K mg "Even" "is_end" "Even.is_end" Aw)
  (B:bW mg)
  (NK:bL K=true)
  (fU:KC K mg "Even" "letters"):
  uT Pr w K mg base:=by
 refine oZ (k:=0) (b:=uR) Ay Y7 (λ_ _ _ _ _ _=>aX λ_=>aX λ_=>bZ rfl) [.v,.s] [] cB (λ_ _ _ _=>Rp.non) (body:=λf cdv A outer s H E hr P=>?_);refine aP ?_;refine bT ?_;refine bf ?_;refine mH (eO hr) (aF 1) ?_ (bG _);refine ao ?_;refine fW 2 ?_;refine aZ ?_ ?_;refine bf ?_;refine cJ (ms:=[.s]) (hv:=cZ) cY B.len_ ?_;refine aC ?_ aG;refine ao (oY (lH fU lG) (az 0));refine aZ aD aG
abbrev Az:Stmt:=inClass (top 24) 6
theorem Y9:bK ["self","end","cells"] ["self","end","cells"] (aY Az):=by trivial
def uU:MS :=
  (aU (mIf (aJ (ak gEq (aa 1) (aV bC (aj (fO ["Even"] "letters" (aa 0)) au)))) (mC (.int 0)) (ak eG (ak gw (fO ["Even"] "wide" (aa 0)) (aa 2)) (mC (.int 2)))))
def uV:List D->aq->Res D:=bH 3 uU
abbrev J8(Pr:Program)(w:World)(K:Frag)(mg:Str->Option Value)(base:Heap):Prop:=gZ Pr w K mg base "Even" "cost_to" ["self","end","cells"] 1 (vSp K mg [.v,.s,.s] (rV K) uV)
theorem Za(Ba:lF K mg "Even" "cost_to" "Even.cost_to" Az)
  (B:bW mg)
  (NK:bL K=true)
  (fU:KC K mg "Even" "letters")
  (kO:KC K mg "Even" "wide"):
  J8 Pr w K mg base:=by
 refine oZ (k:=0) (b:=uU) Ba Y9 (λ_ _ _ _ _ _=>aX λ_=>aX λ_=>aX λ_=>bZ rfl) [.v,.s,.s] [] cB (λ_ _ _ _=>Rp.non) (body:=λf cdv A outer s H E hr P=>?_);refine aP ?_;refine bT ?_;refine uc ?_ aD ?_;refine bO (eO hr) (aF 1) ?_ (bG _);refine aL ?_;refine cJ (ms:=[.s]) (hv:=cZ) cY B.len_ ?_;refine aC ?_ aG;refine ao (oY (lH fU lG) (az 0));refine bf ?_;refine aR mU ?_ (ao aD);refine aL ?_;refine aR oR ?_ (aF 2);refine ao (oY (lH kO lG) (az 0))
abbrev uW:Stmt:=inClass (top 24) 4
theorem J9:bK ["self","node","ends"] ["self","node"] (aY uW):=by trivial
def uX:MS :=
  (aB (bh (cj (cF "Even" "is_end" iw (aa 0) (aj (aa 1) au))) (aU (bY au)) bx)
  (aB (aH 2 (aK rY (aj (fO ["Even"] "letters" (aa 0)) (aj (ak gIx (aa 1) (mC (.int 0))) (aj (fO ["Even"] "wide" (aa 0)) au)))))
  (aU (dD (uy (aa 2)) 2 [0] (qN 2 (lC (mgN 0) (lC (mgN 1) ue))) dN (dh (aj (cF "Even" "cost_to" uV (aa 2) (aj (aa 0) (aj (aa 1) au))) (aj (aV ph (aj (aa 0) au)) (aj (dh (aj (aa 0) (aj (mC (.int 0)) au))) au))))))))
def jO:List D->aq->Res D:=bH 3 uX
abbrev Bb(Pr:Program)(w:World)(K:Frag)(mg:Str->Option Value)(base:Heap):Prop:=gZ Pr w K mg base "Even" "moves_from" ["self","node"] 4 (vSp K mg [.v,.s] (rO K) jO)
theorem Zb(Bd:lF K mg "Even" "moves_from" "Even.moves_from" uW)
  (B:bW mg)
  (NK:bL K=true)
  (fU:KC K mg "Even" "letters")
  (kO:KC K mg "Even" "wide")
  (kW:uT Pr w K mg base)
  (pN:z9 Pr w K mg base)
  (Be:J8 Pr w K mg base):
  Bb Pr w K mg base:=by
 refine oZ (k:=3) (b:=uX) Bd J9 (λ_ _ _ _ _ _=>aX λ_=>aX λ_=>bZ rfl) [.v,.s] [.v] fj (λ_ _ _ _=>.inl ⟨rfl,Rp.non⟩) (body:=λf cdv A outer s H E hr P=>?_);refine aM ?_ ?_;refine cI ?_ ?_ cO;refine gQ ?_;refine ao ?_;refine ur kW (hr.mono (by decide)) (az 0) ?_;refine aC (aF 1) aG;refine aP ?_;refine jD (dB 0 aG);refine aM ?_ ?_;refine bu (i:=2) J9.nd rfl (.inl rfl) ?_;refine bf ?_;refine gG pN (hr.mono (by decide)) ?_;refine aC ?_ ?_;refine ao (oY (lH fU lG) (az 0));refine aC ?_ ?_;refine ao ?_;refine bj (aF 1) (ao aD);refine aC ?_ aG
 refine ao (oY (lH kO lG) (az 0));refine aP ?_;refine jD ?_;refine oN (aY uW) ["self","node","ends"] ["end","cells"] [0] rfl ?_ (λ_ _ _ _ P=>?_) (λ_ _ _ _ P=>?_) (λ_ _ _ _ P=>?_);refine uf ?_;refine W0 B.reversed_ (qU (az 2));refine Vs 2 rfl ?_;refine HD (di (i:=0) (show(bQ ["self","node","ends"] ["end","cells"] [0]).Nodup by decide +kernel) rfl (.inl rfl)) ?_;refine HD (di (i:=1) (show(bQ ["self","node","ends"] ["end","cells"] [0]).Nodup by decide +kernel) rfl (.inl rfl)) Vr;exact mR;refine fW 3 ?_;refine aZ ?_ ?_;refine ur Be (hr.mono (by decide)) (az 2) ?_
 refine aC (ao (az 0)) ?_;refine aC (ao (az 1)) aG;refine aZ ?_ ?_;refine bf ?_;refine oV (ms:=[.s]) (hv:=Ii) W2 B.str_ ?_;refine aC (ao (az 0)) aG;refine aZ ?_ aG;refine fW 2 ?_;refine aZ (az 0) ?_;refine aZ aD aG
abbrev Bf:Stmt:=top 19
theorem lN:bK ["trail","at","prices","moves","node","changed","cost"] ["trail","at","prices"] (aY Bf):=by trivial
def uY:MS :=
  (aB (aH 3 rn)
  (aB (b8 (cQ (cF "Even" "nodes_at" pM (mG (aa 0)) (aj (aa 1) au))) (mgN 4) (aB (gJ (aa 3) (aa 4) (cF "Even" "moves_from" jO (mG (aa 0)) (aj (aa 4) au)))
  (gJ (mG (aa 2)) (aa 4) (mIf (cj (cF "Even" "is_end" iw (mG (aa 0)) (aj (aa 4) au))) (mC (.int 0)) (mC .non)))))
  (aB (aH 5 (mC (.bl true)))
  (gR 10 (cj (aa 5)) (aB (aH 5 (mC (.bl false)))
  (pA 3 (b8 (pq (aa 3)) (mgN 4) (aB (aH 6 (aK nP (aj (dG (aa 3) (aa 4)) (aj (aa 2) au))))
  (bh (dC (aJ (iM (aa 6))) (cX (aJ (jB (dG (mG (aa 2)) (aa 4)))) (aJ (ak gLt (aa 6) (dG (mG (aa 2)) (aa 4)))))) (aB (gJ (mG (aa 2)) (aa 4) (aa 6))
  (aH 5 (mC (.bl true)))) bx)))))))))
def sr:List D->aq->Res D:=bH 7 uY
abbrev Ka(Pr:Program)(w:World)(K:Frag)(mg:Str->Option Value)(base:Heap):Prop:=Can Pr w K mg base "price_nodes" ["trail","at","prices"] 5 (vSp K mg [.s,.s,.s] (rV K) sr)
theorem Zc(Bg:Def K mg "price_nodes" Bf)
  (B:bW mg)
  (NK:bL K=true)
  (Bh:J7 Pr w K mg base)
  (pO:Bb Pr w K mg base)
  (kW:uT Pr w K mg base)
  (pP:Ao Pr w K mg base):
  Ka Pr w K mg base:=by
 refine cP (k:=4) (b:=uY) Bg lN (λ_ _ _ _ _ _=>aX λ_=>aX λ_=>aX λ_=>bZ rfl) [.s,.s,.s] [.v,.v,.v,.v] cB (λ_ _ _ _=>Rp.non) (body:=λf cdv A outer s H E hr P=>?_);refine aM (bu (i:=3) lN.nd rfl (.inl rfl) Jb) ?_;refine aM ?_ ?_;refine fM rfl ?_ (di (i:=4) lN.nd rfl (.inl rfl)) ?_;refine qX ?_;refine qU ?_;refine bf ?_;refine yc Bh (hr.mono (by decide)) (dJ (aF 0)) ?_;refine aC (aF 1) aG;refine aM ?_ ?_;refine yg NK hr (az 3) (az 4) ?_;refine bf ?_;refine yc pO (hr.mono (by decide)) (dJ (aF 0)) ?_;refine aC (ao (az 4)) aG;refine aP ?_;refine yg NK hr (dJ (aF 2)) (az 4) ?_
 refine uc ?_ aD xG;refine gQ ?_;refine ao ?_;refine ur kW (hr.mono (by decide)) (dJ (aF 0)) ?_;refine aC (ao (az 4)) aG;refine aM (bu (i:=5) lN.nd rfl (.inl rfl) gq) ?_;refine aP ?_;refine qO 10 ?_ ?_;refine gQ (ao (az 5));refine aM (bu (i:=5) lN.nd rfl (.inl rfl) gq) ?_;refine aP ?_;refine Xo 3 ?_;refine fM rfl (Xn (az 3)) (di (i:=4) lN.nd rfl (.inl rfl)) ?_;refine aM ?_ ?_;refine bu (i:=6) lN.nd rfl (.inl rfl) ?_;refine bR pP (hr.mono (by decide)) ?_;refine aC ?_ ?_;refine ao ?_;refine rE NK hr (az 3) (az 4);refine aC (aF 2) aG;refine aP ?_;refine cI ?_ ?_ cO
 refine fX ?_;refine mO ?_ ?_;refine Hu (ao (az 6));refine mK ?_;refine fX ?_;refine iQ ?_ ?_;refine xJ ?_;refine ao ?_;refine rE NK hr (dJ (aF 2)) (az 4);refine mL ?_;refine bO mV (ao (az 6)) ?_ (bG _);refine ao ?_;refine rE NK hr (dJ (aF 2)) (az 4);refine aM ?_ ?_;refine yg NK hr (dJ (aF 2)) (az 4) (az 6);refine aP (bu (i:=5) lN.nd rfl (.inl rfl) gq)
abbrev Bj:Stmt:=inClass (top 24) 2
theorem Zd:bK ["self"] ["self"] (aY Bj):=by trivial
def uZ:MS :=
  (aU (aV bC (aj (fO ["Even"] "letters" (aa 0)) au)))
def su:List D->aq->Res D:=bH 1 uZ
abbrev Kc(Pr:Program)(w:World)(K:Frag)(mg:Str->Option Value)(base:Heap):Prop:=gZ Pr w K mg base "Even" "last_at" ["self"] 1 (vSp K mg [.v] (rV K) su)
theorem Ze(Bk:lF K mg "Even" "last_at" "Even.last_at" Bj)
  (B:bW mg)
  (NK:bL K=true)
  (fU:KC K mg "Even" "letters"):
  Kc Pr w K mg base:=by
 refine oZ (k:=0) (b:=uZ) Bk Zd (λ_ _ _ _ _ _=>aX λ_=>bZ rfl) [.v] [] cB (λ_ _ _ _=>Rp.non) (body:=λf cdv A outer s H E hr P=>?_);refine aP ?_;refine bT ?_;refine bf ?_;refine cJ (ms:=[.s]) (hv:=cZ) cY B.len_ ?_;refine aC ?_ aG;refine ao (oY (lH fU lG) (az 0))
abbrev Bl:Stmt:=top 20
theorem Bm:bK ["trail","prices","at"] ["trail"] (aY Bl):=by trivial
def u0:MS :=
  (aB (aH 1 rn)
  (aB (b8 (uA (aj (cF "Even" "last_at" su (mG (aa 0)) au) (aj (mUn jF (mC (.int 1))) (aj (mUn jF (mC (.int 1))) au)))) (mgN 2) (qM (aK sr (aj (aa 0) (aj (aa 2) (aj (aa 1) au))))))
  (aU (aa 1))))
def u6:List D->aq->Res D:=bH 3 u0
abbrev Kd(Pr:Program)(w:World)(K:Frag)(mg:Str->Option Value)(base:Heap):Prop:=Can Pr w K mg base "priced" ["trail"] 6 (vSp K mg [.s] (rV K) u6)
theorem Zf(Bo:Def K mg "priced" Bl)
  (B:bW mg)
  (NK:bL K=true)
  (Bp:Kc Pr w K mg base)
  (Bq:Ka Pr w K mg base):
  Kd Pr w K mg base:=by
 refine cP (k:=5) (b:=u0) Bo Bm (λ_ _ _ _ _ _=>aX λ_=>bZ rfl) [.s] [.v,.v] cB (λ_ _ _ _=>Rp.non) (body:=λf cdv A outer s H E hr P=>?_);refine aM (bu (i:=1) Bm.nd rfl (.inl rfl) Jb) ?_;refine aM ?_ ?_;refine fM rfl ?_ (di (i:=2) Bm.nd rfl (.inl rfl)) ?_;refine Xf B.range_ ?_;refine aC ?_ ?_;refine ao ?_;refine IK Bp (hr.mono (by decide)) (dJ (aF 0));refine aC ?_ ?_;refine aL ?_;refine ug (ao aD);refine aC ?_ aG;refine aL ?_;refine ug (ao aD);refine aP ?_;refine Vo ?_;refine ao ?_;refine bR Bq (hr.mono (by decide)) ?_;refine aC (aF 0) ?_;refine aC (ao (az 2)) ?_
 refine aC (ao (az 1)) aG;refine aP (bT (az 1))
abbrev u9:Stmt:=top 21
theorem Ke:bK ["moves","prices","least"] ["moves","prices"] (aY u9):=by trivial
def vd:MS :=
  (aB (aH 2 (aK nP (aj (aa 0) (aj (aa 1) au))))
  (aU (ak gIx (dD (cQ (aa 0)) 1 [1,2] (mgN 0) (aJ (ak gEq (aK kJ (aj (aa 0) (aj (aa 1) au))) (aa 2))) (aa 0)) (mC (.int 0)))))
def sy:List D->aq->Res D:=bH 3 vd
abbrev Kf(Pr:Program)(w:World)(K:Frag)(mg:Str->Option Value)(base:Heap):Prop:=Can Pr w K mg base "first_cheapest" ["moves","prices"] 3 (vSp K mg [.s,.s] (rV K) sy)
theorem Zg(Br:Def K mg "first_cheapest" u9)
  (B:bW mg)
  (NK:bL K=true)
  (pP:Ao Pr w K mg base)
  (pL:Am Pr w K mg base):
  Kf Pr w K mg base:=by
 refine cP (k:=2) (b:=vd) Br Ke (λ_ _ _ _ _ _=>aX λ_=>aX λ_=>bZ rfl) [.s,.s] [.v] cB (λ_ _ _ _=>Rp.non) (body:=λf cdv A outer s H E hr P=>?_);refine aM ?_ ?_;refine bu (i:=2) Ke.nd rfl (.inr rfl) ?_;refine bR pP (hr.mono (by decide)) ?_;refine aC (aF 0) ?_;refine aC (aF 1) aG;refine aP ?_;refine bT ?_;refine bj ?_ (ao aD);refine aL ?_;refine oN (aY u9) ["moves","prices","least"] ["move"] [1,2] rfl (nA (aF 0)) (λ_ _ _ _ P=>?_) (λ_ _ _ _ P=>?_) (λ_ _ _ _ P=>?_);exact di (i:=0) (show(bQ ["moves","prices","least"] ["move"] [1,2]).Nodup by decide +kernel) rfl (.inl rfl)
 refine HJ ?_;refine bO (eO hr) ?_ (ao (az 2)) (bG _);refine ao ?_;refine bR pL (hr.mono (by decide)) ?_;refine aC (ao (az 0)) ?_;refine aC (aF 1) aG;exact az 0
abbrev Bs:Stmt:=inClass (top 24) 1
theorem Zh:bK ["self"] ["self"] (aY Bs):=by trivial
def Kg:MS :=
  (aU (dh (aj (mC (.int 0)) (aj (mC (.int 0)) au))))
def sE:List D->aq->Res D:=bH 1 Kg
abbrev Kh(Pr:Program)(w:World)(K:Frag)(mg:Str->Option Value)(base:Heap):Prop:=gZ Pr w K mg base "Even" "first_node" ["self"] 1 (vSp K mg [.v] (rV K) sE)
theorem Zi(Bt:lF K mg "Even" "first_node" "Even.first_node" Bs)
  (B:bW mg)
  (NK:bL K=true):
  Kh Pr w K mg base:=by
 refine oZ (k:=0) (b:=Kg) Bt Zh (λ_ _ _ _ _ _=>aX λ_=>bZ rfl) [.v] [] cB (λ_ _ _ _=>Rp.non) (body:=λf cdv A outer s H E hr P=>?_);refine aP ?_;refine bT ?_;refine fW 2 ?_;refine aZ aD ?_;refine aZ aD aG
abbrev Bu:Stmt:=top 22
theorem nQ:bK ["trail","prices","node","cost","names","move"] ["trail"] (aY Bu):=by trivial
def vf:MS :=
  (aB (aH 1 (aK u6 (aj (aa 0) au)))
  (aB (aH 2 (cF "Even" "first_node" sE (mG (aa 0)) au))
  (aB (aH 3 (dG (aa 1) (aa 2)))
  (aB (bh (aJ (jB (aa 3))) (aU (mC .non)) bx)
  (aB (aH 4 (bY au))
  (aB (gR 250 (du (cj (cF "Even" "is_end" iw (mG (aa 0)) (aj (aa 2) au)))) (aB (aH 5 (aK sy (aj (cF "Even" "moves_from" jO (mG (aa 0)) (aj (aa 2) au)) (aj (aa 1) au))))
  (aB (dW 4 (ak gIx (aa 5) (mC (.int 1))))
  (aH 2 (ak gIx (aa 5) (mC (.int 2)))))))
  (qY (aU (dh (aj (aa 3) (aj (aa 4) au)))))))))))
def sG:List D->aq->Res D:=bH 6 vf
abbrev Kl(Pr:Program)(w:World)(K:Frag)(mg:Str->Option Value)(base:Heap):Prop:=Can Pr w K mg base "way_of" ["trail"] 7 (vSp K mg [.s] (rV K) sG)
theorem Zj(Bv:Def K mg "way_of" Bu)
  (B:bW mg)
  (NK:bL K=true)
  (Bw:Kd Pr w K mg base)
  (Bx:Kh Pr w K mg base)
  (kW:uT Pr w K mg base)
  (By:Kf Pr w K mg base)
  (pO:Bb Pr w K mg base):
  Kl Pr w K mg base:=by
 refine cP (k:=6) (b:=vf) Bv nQ (λ_ _ _ _ _ _=>aX λ_=>bZ rfl) [.s] [.v,.v,.v,.o,.v] cB (λ_ _ _ _=>Rp.non) (body:=λf cdv A outer s H E hr P=>?_);refine aM ?_ ?_;refine bu (i:=1) nQ.nd rfl (.inl rfl) ?_;refine bR Bw (hr.mono (by decide)) ?_;refine aC (aF 0) aG;refine aM ?_ ?_;refine bu (i:=2) nQ.nd rfl (.inl rfl) ?_;refine IK Bx (hr.mono (by decide)) (dJ (aF 0));refine aM ?_ ?_;refine bu (i:=3) nQ.nd rfl (.inl rfl) ?_;refine rE NK hr (az 1) (az 2);refine aM ?_ ?_;refine cI ?_ ?_ cO;refine xJ (ao (az 3));refine aP (bT xG);refine aM ?_ ?_;refine jX (i:=4) nQ.nd rfl (.inl rfl) (dB 0 aG)
 refine aM ?_ ?_;refine qO 250 ?_ ?_;refine lB ?_;refine gQ ?_;refine ao ?_;refine ur kW (hr.mono (by decide)) (dJ (aF 0)) ?_;refine aC (ao (az 2)) aG;refine aM ?_ ?_;refine bu (i:=5) nQ.nd rfl (.inl rfl) ?_;refine bR By (hr.mono (by decide)) ?_;refine aC ?_ ?_;refine aL ?_;refine yc pO (hr.mono (by decide)) (dJ (aF 0)) ?_;refine aC (ao (az 2)) aG;refine aC (ao (az 1)) aG;refine aM ?_ ?_;refine m6 4 ?_;refine bj (ao (az 5)) (ao aD);refine aP ?_;refine bu (i:=2) nQ.nd rfl (.inl rfl) ?_;refine bj (ao (az 5)) (ao aD);refine aP ?_;refine Ws 4 rfl ?_
 refine bT ?_;refine fW 2 ?_;refine aZ (az 3) ?_;refine aZ (az 4) aG
abbrev BJ:Stmt:=inClass (top 24) 0
theorem Zk:bK ["self","letters","wide"] ["self","letters","wide"] (aY BJ):=by trivial
def vg:MS :=
  (aB (j6 ["Even"] "letters" (aa 0) (aV gY (aj (aa 1) au)))
  (j6 ["Even"] "wide" (aa 0) (mG (aa 2))))
def sH:List D->aq->Res D:=bH 3 vg
abbrev Km(Pr:Program)(w:World)(K:Frag)(mg:Str->Option Value)(base:Heap):Prop:=xY Pr w K mg base "Even" ["self","letters","wide"] 1 (vSp K mg [.v,.s,.s] (rV K) sH)
theorem Zm(BK:xZ K mg "Even" "Even.__init__" BJ)
  (B:bW mg)
  (NK:bL K=true)
  (fU:KC K mg "Even" "letters")
  (kO:KC K mg "Even" "wide"):
  Km Pr w K mg base:=by
 refine Wd (k:=0) (b:=vg) BK Zk (λ_ _ _ _ _ _=>aX λ_=>aX λ_=>aX λ_=>bZ rfl) [.v,.s,.s] [] cB (λ_ _ _ _=>Rp.non) (body:=λf cdv A outer s H E hr P=>?_);refine aM ?_ ?_;refine Ir (lH fU lG) (az 0) ?_;refine bf ?_;refine oV (ms:=[.s]) (hv:=qT) xR B.list_ ?_;refine aC (aF 1) aG;refine aP ?_;refine Ir (lH kO lG) (az 0) (dJ (aF 2))
abbrev vh:Stmt:=top 25
theorem BL:bK ["letters","wide","way","ends"] ["letters","wide"] (aY vh):=by trivial
def vm:MS :=
  (aB (aH 2 (aK sG (aj (nj "Even" sH (aj (aa 0) (aj (aa 1) au))) au)))
  (aB (aH 3 (dD (cQ (ak gIx (aa 2) (mC (.int 1)))) 1 [] (mgN 0) dN (aV pD (aj (aa 0) au))))
  (aB (bh (aJ (ak gEq (aV bC (aj (aa 3) au)) (mC (.int 0)))) (aU (bY (aj (dh (aj (mC (.int 0)) (aj (mC (.int 0)) au))) au))) bx)
  (aU (aV gLZ (aj (ak bc (bY (aj (mC (.int 0)) au)) (aa 3)) (aj (aa 3) au)))))))
def pQ:List D->aq->Res D:=bH 4 vm
abbrev Ko(Pr:Program)(w:World)(K:Frag)(mg:Str->Option Value)(base:Heap):Prop:=Can Pr w K mg base "even" ["letters","wide"] 8 (vSp K mg [.s,.s] (rO K) pQ)
theorem Zn(BP:Def K mg "even" vh)
  (B:bW mg)
  (NK:bL K=true)
  (BR:Kl Pr w K mg base)
  (BV:Km Pr w K mg base):
  Ko Pr w K mg base:=by
 refine cP (k:=7) (b:=vm) BP BL (λ_ _ _ _ _ _=>aX λ_=>aX λ_=>bZ rfl) [.s,.s] [.v,.v] fj (λ_ _ _ _=>.inl ⟨rfl,Rp.non⟩) (body:=λf cdv A outer s H E hr P=>?_);refine aM ?_ ?_;refine bu (i:=2) BL.nd rfl (.inl rfl) ?_;refine bR BR (hr.mono (by decide)) ?_;refine aC ?_ aG;refine ao ?_;refine Wg BV (hr.mono (by decide)) ?_;refine aC (aF 0) ?_;refine aC (aF 1) aG;refine aM ?_ ?_;refine xN (i:=3) (aY vh) ["letters","wide","way","ends"] ["name"] [] BL.nd rfl (.inl rfl) rfl ?_ (λ_ _ _ _ P=>?_) (λ_ _ _ _ P=>?_) (λ_ _ _ _ P=>?_);refine nA ?_;refine ao ?_
 refine bj (ao (az 2)) (ao aD);exact di (i:=0) (show(bQ ["letters","wide","way","ends"] ["name"] []).Nodup by decide +kernel) rfl (.inl rfl);exact mR;refine bf ?_;refine oV (ms:=[.s]) (hv:=um) XQ B.int_ ?_;refine aC (ao (az 0)) aG;refine aM ?_ ?_;refine cI ?_ ?_ cO;refine bO (eO hr) ?_ (ao aD) (bG _);refine aL ?_;refine cJ (ms:=[.s]) (hv:=cZ) cY B.len_ ?_;refine aC (ao (az 3)) aG;refine aP ?_;refine jD ?_;refine dB 1 ?_;refine aZ ?_ aG;refine fW 2 ?_;refine aZ aD ?_;refine aZ aD aG;refine aP ?_;refine jD ?_;refine WT (ms:=[.s,.s]) rfl B.list_ B.zip_ ?_
 refine aC ?_ ?_;refine aL ?_;refine aR cR ?_ (ao (az 3));refine aL ?_;refine dB 1 ?_;refine aZ aD aG;refine aC (ao (az 3)) aG
abbrev BW:Stmt:=top 30
theorem Zo:bK ["thing"] ["thing"] (aY BW):=by trivial
def BX:MS :=
  (aU (jW (fC "str" (aa 0)) (ak (gIn false) (aa 0) (mC (.tup [.str [99,117,116],.str [99,101,108,108,115],.str [119,111,114,100,115],.str [101,118,101,110]])))))
def vo:List D->aq->Res D:=bH 1 BX
abbrev Kq(Pr:Program)(w:World)(K:Frag)(mg:Str->Option Value)(base:Heap):Prop:=Can Pr w K mg base "is_way" ["thing"] 1 (vSp K mg [.s] (rV K) vo)
theorem Zq(BZ:Def K mg "is_way" BW)
  (B:bW mg)
  (NK:bL K=true)
  (Ca:ye K mg "WAYS" [[99,117,116],[99,101,108,108,115],[119,111,114,100,115],[101,118,101,110]]):
  Kq Pr w K mg base:=by
 refine cP (k:=0) (b:=BX) BZ Zo (λ_ _ _ _ _ _=>aX λ_=>bZ rfl) [.s] [] cB (λ_ _ _ _=>Rp.non) (body:=λf cdv A outer s H E hr P=>?_);refine aP ?_;refine bT ?_;refine qL ?_ ?_;refine bf (mZ "str" (hb:=Ii) B.isinstance_ B.str_ (aF 0));refine qK ?_;refine bf ?_;refine mH Ia (aF 0) (ao (Wu (ls:=[[99,117,116],[99,101,108,108,115],[119,111,114,100,115],[101,118,101,110]]) Ca)) (by with_unfolding_all rfl)
abbrev Cd:Stmt:=top 31
theorem Zr:bK ["letters","lo","wide","way"] ["letters","lo","wide","way"] (aY Cd):=by trivial
def pR:MS :=
  (aB (bh (aJ (ak gEq (aa 3) (mC (.str [119,111,114,100,115])))) (aU (ak gIx (ak gIx (aK rY (aj (aa 0) (aj (aa 1) (aj (aa 2) au)))) (mUn jF (mC (.int 1)))) (mC (.int 0)))) bx)
  (aU (aK pJ (aj (aa 0) (aj (aa 1) (aj (aa 2) au))))))
def sI:List D->aq->Res D:=bH 4 pR
abbrev Kr(Pr:Program)(w:World)(K:Frag)(mg:Str->Option Value)(base:Heap):Prop:=Can Pr w K mg base "next_end" ["letters","lo","wide","way"] 4 (vSp K mg [.s,.s,.s,.s] (rV K) sI)
theorem Zt(Ce:Def K mg "next_end" Cd)
  (B:bW mg)
  (NK:bL K=true)
  (pN:z9 Pr w K mg base)
  (kI:uN Pr w K mg base):
  Kr Pr w K mg base:=by
 refine cP (k:=3) (b:=pR) Ce Zr (λ_ _ _ _ _ _=>aX λ_=>aX λ_=>aX λ_=>aX λ_=>bZ rfl) [.s,.s,.s,.s] [] cB (λ_ _ _ _=>Rp.non) (body:=λf cdv A outer s H E hr P=>?_);refine aM ?_ ?_;refine cI ?_ ?_ cO;refine bO (eO hr) (aF 3) (ao (cC [119,111,114,100,115])) (bG _);refine aP ?_;refine bT ?_;refine bj ?_ (ao aD);refine ao ?_;refine bj ?_ ?_;refine aL ?_;refine gG pN (hr.mono (by decide)) ?_;refine aC (aF 0) ?_;refine aC (aF 1) ?_;refine aC (aF 2) aG;refine aL ?_;refine ug (ao aD);refine aP ?_;refine bT ?_;refine bR kI (hr.mono (by decide)) ?_
 refine aC (aF 0) ?_;refine aC (aF 1) ?_;refine aC (aF 2) aG
abbrev Cg:Stmt:=top 32
theorem sJ:bK ["letters","wide","way","stretches","lo","hi"] ["letters","wide","way"] (aY Cg):=by trivial
def vp:MS :=
  (aB (aH 3 (bY au))
  (aB (aH 4 (mC (.int 0)))
  (aB (gR wF (aJ (ak gLt (aa 4) (aV bC (aj (aa 0) au)))) (aB (aH 5 (aK sI (aj (aa 0) (aj (aa 4) (aj (aa 1) (aj (aa 2) au))))))
  (aB (dW 3 (dh (aj (aa 4) (aj (aa 5) au))))
  (aH 4 (aa 5)))))
  (aU (aa 3)))))
def sO:List D->aq->Res D:=bH 6 vp
abbrev Ks(Pr:Program)(w:World)(K:Frag)(mg:Str->Option Value)(base:Heap):Prop:=Can Pr w K mg base "end_to_end" ["letters","wide","way"] 5 (vSp K mg [.s,.s,.s] (rO K) sO)
theorem Zu(Ci:Def K mg "end_to_end" Cg)
  (B:bW mg)
  (NK:bL K=true)
  (Cj:Kr Pr w K mg base):
  Ks Pr w K mg base:=by
 refine cP (k:=4) (b:=vp) Ci sJ (λ_ _ _ _ _ _=>aX λ_=>aX λ_=>aX λ_=>bZ rfl) [.s,.s,.s] [.o,.v,.v] fj (λ_ _ _ _=>.inl ⟨rfl,Rp.non⟩) (body:=λf cdv A outer s H E hr P=>?_);refine aM ?_ ?_;refine jX (i:=3) sJ.nd rfl (.inl rfl) (dB 0 aG);refine aM (bu (i:=4) sJ.nd rfl (.inl rfl) aD) ?_;refine aM ?_ (aP (oM 3));refine qO wF ?_ ?_;refine bO mV (ao (az 4)) ?_ (bG _);refine aL ?_;refine cJ (ms:=[.s]) (hv:=cZ) cY B.len_ ?_;refine aC (aF 0) aG;refine aM ?_ ?_;refine bu (i:=5) sJ.nd rfl (.inl rfl) ?_;refine bR Cj (hr.mono (by decide)) ?_;refine aC (aF 0) ?_
 refine aC (ao (az 4)) ?_;refine aC (aF 1) ?_;refine aC (aF 2) aG;refine aM ?_ ?_;refine m6 3 ?_;refine fW 2 ?_;refine aZ (az 4) ?_;refine aZ (az 5) aG;refine aP (bu (i:=4) sJ.nd rfl (.inl rfl) (az 5))
abbrev Ck:Stmt:=top 33
theorem Zv:bK ["letters","wide","way"] ["letters","wide","way"] (aY Ck):=by trivial
def pU:MS :=
  (aB (bh (du (cj (aK uO (aj (aa 1) (aj (mC (.int 2)) (aj (mC (.int 40)) au)))))) xK bx)
  (aB (bh (du (cj (aK vo (aj (aa 2) au)))) xK bx)
  (aB (bh (aJ (ak gEq (aV bC (aj (aa 0) au)) (mC (.int 0)))) (aU (bY (aj (dh (aj (mC (.int 0)) (aj (mC (.int 0)) au))) au))) bx)
  (aB (bh (aJ (ak gEq (aa 2) (mC (.str [99,117,116])))) (aU (bY (aj (dh (aj (mC (.int 0)) (aj (aK pJ (aj (aa 0) (aj (mC (.int 0)) (aj (aa 1) au)))) au))) au))) bx)
  (aB (bh (aJ (ak gEq (aa 2) (mC (.str [101,118,101,110])))) (aU (aK pQ (aj (aa 0) (aj (aa 1) au)))) bx)
  (aU (aK sO (aj (aa 0) (aj (aa 1) (aj (aa 2) au))))))))))
def dZ:List D->aq->Res D:=bH 3 pU
abbrev Ku(Pr:Program)(w:World)(K:Frag)(mg:Str->Option Value)(base:Heap):Prop:=Can Pr w K mg base "fold" ["letters","wide","way"] 9 (vSp K mg [.s,.s,.s] (rO K) dZ)
theorem Zw(Cm:Def K mg "fold" Ck)
  (B:bW mg)
  (NK:bL K=true)
  (Cq:∃u,mg "GREATEST_BREADTH" = some u/\RelV (.int 40) u)
  (Cr:∃u,mg "LEAST_BREADTH" = some u/\RelV (.int 2) u)
  (Cu:J3 Pr w K mg base)
  (Cv:Kq Pr w K mg base)
  (kI:uN Pr w K mg base)
  (Cw:Ko Pr w K mg base)
  (Cy:Ks Pr w K mg base):
  Ku Pr w K mg base:=by
 refine cP (k:=8) (b:=pU) Cm Zv (λ_ _ _ _ _ _=>aX λ_=>aX λ_=>aX λ_=>bZ rfl) [.s,.s,.s] [] fj (λ_ _ _ _=>.inl ⟨rfl,Rp.non⟩) (body:=λf cdv A outer s H E hr P=>?_);refine aM ?_ ?_;refine cI ?_ (aP Hy) cO;refine lB ?_;refine gQ ?_;refine ao ?_;refine bR Cu (hr.mono (by decide)) ?_;refine aC (aF 1) ?_;refine aC ?_ ?_;refine ao ?_;refine Hq Cr (λ_ _ _=>Rp.int);refine aC ?_ aG;refine ao ?_;refine Hq Cq (λ_ _ _=>Rp.int);refine aM ?_ ?_;refine cI ?_ (aP Hy) cO;refine lB ?_;refine gQ ?_;refine ao ?_;refine bR Cv (hr.mono (by decide)) ?_
 refine aC (aF 2) aG;refine aM ?_ ?_;refine cI ?_ ?_ cO;refine bO (eO hr) ?_ (ao aD) (bG _);refine aL ?_;refine cJ (ms:=[.s]) (hv:=cZ) cY B.len_ ?_;refine aC (aF 0) aG;refine aP ?_;refine jD ?_;refine dB 1 ?_;refine aZ ?_ aG;refine fW 2 ?_;refine aZ aD ?_;refine aZ aD aG;refine aM ?_ ?_;refine cI ?_ ?_ cO;refine bO (eO hr) (aF 2) (ao (cC [99,117,116])) (bG _);refine aP ?_;refine jD ?_;refine dB 1 ?_;refine aZ ?_ aG;refine fW 2 ?_;refine aZ aD ?_;refine aZ ?_ aG;refine bR kI (hr.mono (by decide)) ?_;refine aC (aF 0) ?_;refine aC (ao aD) ?_;refine aC (aF 1) aG
 refine aM ?_ ?_;refine cI ?_ ?_ cO;refine bO (eO hr) (aF 2) (ao (cC [101,118,101,110])) (bG _);refine aP ?_;refine jD ?_;refine gG Cw (hr.mono (by decide)) ?_;refine aC (aF 0) ?_;refine aC (aF 1) aG;refine aP ?_;refine jD ?_;refine gG Cy (hr.mono (by decide)) ?_;refine aC (aF 0) ?_;refine aC (aF 1) ?_;refine aC (aF 2) aG
abbrev Cz:Stmt:=top 35
theorem CG:bK ["_law_script","_law_k","_law_number"] ["_law_script","_law_k"] (aY Cz):=by trivial
def sS:MS :=
  (aB (bh (aJ (ak gLt (aa 1) (aV bC (aj (aa 0) au)))) (aU (ak gIx (aa 0) (aa 1))) bx)
  (aB (aH 2 (ak bc (ak cz (ak cz (aa 1) (aa 1)) (mC (.int 7919))) (mC (.int 104729))))
  (aB (bh (aJ (ak gGt (aV bC (aj (aa 0) au)) (mC (.int 0)))) (aH 2 (ak bc (aa 2) (ak cz (ak bD (ak gIx (aa 0) (ak bD (aa 1) (aV bC (aj (aa 0) au)))) (mC (.int 1000003))) (mC (.int 48271))))) bx)
  (aU (ak bD (ak cz (aa 2) (mC (.int 48271))) (mC (.int 2147483647)))))))
def eX:List D->aq->Res D:=bH 3 sS
abbrev vq(Pr:Program)(w:World)(K:Frag)(mg:Str->Option Value)(base:Heap):Prop:=Can Pr w K mg base "_law_cell" ["_law_script","_law_k"] 1 (vSp K mg [.s,.s] (rV K) eX)
theorem Zx(CJ:Def K mg "_law_cell" Cz)
  (B:bW mg)
  (NK:bL K=true):
  vq Pr w K mg base:=by
 refine cP (k:=0) (b:=sS) CJ CG (λ_ _ _ _ _ _=>aX λ_=>aX λ_=>bZ rfl) [.s,.s] [.v] cB (λ_ _ _ _=>Rp.non) (body:=λf cdv A outer s H E hr P=>?_);refine aM ?_ ?_;refine cI ?_ ?_ cO;refine bO mV (aF 1) ?_ (bG _);refine aL ?_;refine cJ (ms:=[.s]) (hv:=cZ) cY B.len_ ?_;refine aC (aF 0) aG;refine aP ?_;refine bT ?_;refine bj (aF 0) (aF 1);refine aM ?_ ?_;refine bu (i:=2) CG.nd rfl (.inl rfl) ?_;refine bf ?_;refine aR cR ?_ (ao aD);refine aL ?_;refine aR gU ?_ (ao aD);refine aL ?_;refine aR gU (aF 1) (aF 1);refine aM ?_ ?_;refine cI ?_ ?_ cO
 refine bO jY ?_ (ao aD) (bG _);refine aL ?_;refine cJ (ms:=[.s]) (hv:=cZ) cY B.len_ ?_;refine aC (aF 0) aG;refine aP ?_;refine bu (i:=2) CG.nd rfl (.inl rfl) ?_;refine bf ?_;refine aR cR (ao (az 2)) ?_;refine aL ?_;refine aR gU ?_ (ao aD);refine aL ?_;refine aR dj ?_ (ao aD);refine ao ?_;refine bj (aF 0) ?_;refine aL ?_;refine aR dj (aF 1) ?_;refine aL ?_;refine cJ (ms:=[.s]) (hv:=cZ) cY B.len_ ?_;refine aC (aF 0) aG;refine aP ?_;refine bT ?_;refine bf ?_;refine aR dj ?_ (ao aD);refine aL ?_;refine aR gU (ao (az 2)) (ao aD)
abbrev CK:Stmt:=top 36
theorem nR:bK ["_law_cell_here","_law_k","_law_rest","_law_turn","_law_number"] ["_law_cell_here","_law_k"] (aY CK):=by trivial
def Kv:MS :=
  (aB (bh (aJ (ak gGt (aa 0) (ak eG (mC (.int 10)) (mC (.int 18))))) (aB (aH 2 (mG (aa 0)))
  (aB (b8 (eQ (aj (aa 1) au)) (mgN 3) (aH 2 (ak fY (aa 2) (ak eG (mC (.int 10)) (mC (.int 9))))))
  (aU (ak bD (aa 2) (ak eG (mC (.int 10)) (mC (.int 9))))))) bx)
  (aB (aH 4 (ak bc (ak bD (aa 0) (mC (.int 2147483647))) (mC (.int 7919))))
  (aB (b8 (eQ (aj (ak bc (aa 1) (mC (.int 2))) au)) (mgN 3) (aH 4 (ak bD (ak bc (ak cz (aa 4) (mC (.int 48271))) (mC (.int 104729))) (mC (.int 2147483629)))))
  (aU (ak fY (ak bD (ak cz (aa 4) (aa 4)) (mC (.int 998244353))) (mC (.int 11)))))))
def gh:List D->aq->Res D:=bH 5 Kv
abbrev vz(Pr:Program)(w:World)(K:Frag)(mg:Str->Option Value)(base:Heap):Prop:=Can Pr w K mg base "_law_mix" ["_law_cell_here","_law_k"] 1 (vSp K mg [.s,.s] (rV K) gh)
theorem Zy(CN:Def K mg "_law_mix" CK)
  (B:bW mg)
  (NK:bL K=true):
  vz Pr w K mg base:=by
 refine cP (k:=0) (b:=Kv) CN nR (λ_ _ _ _ _ _=>aX λ_=>aX λ_=>bZ rfl) [.s,.s] [.v,.v,.v] cB (λ_ _ _ _=>Rp.non) (body:=λf cdv A outer s H E hr P=>?_);refine aM ?_ ?_;refine cI ?_ ?_ cO;refine bO jY (aF 0) ?_ (bG _);refine aL ?_;refine aR mU (ao aD) (ao aD);refine aM ?_ ?_;refine bu (i:=2) nR.nd rfl (.inl rfl) (dJ (aF 0));refine aM ?_ ?_;refine fM rfl ?_ (di (i:=3) nR.nd rfl (.inl rfl)) ?_;refine oX B.range_ ?_;refine aC (aF 1) aG;refine aP ?_;refine bu (i:=2) nR.nd rfl (.inl rfl) ?_;refine bf ?_;refine aR qP (ao (az 2)) ?_;refine aL ?_;refine aR mU (ao aD) (ao aD)
 refine aP ?_;refine bT ?_;refine bf ?_;refine aR dj (ao (az 2)) ?_;refine aL ?_;refine aR mU (ao aD) (ao aD);refine aM ?_ ?_;refine bu (i:=4) nR.nd rfl (.inl rfl) ?_;refine bf ?_;refine aR cR ?_ (ao aD);refine aL ?_;refine aR dj (aF 0) (ao aD);refine aM ?_ ?_;refine fM rfl ?_ (di (i:=3) nR.nd rfl (.inl rfl)) ?_;refine oX B.range_ ?_;refine aC ?_ aG;refine aL ?_;refine aR cR (aF 1) (ao aD);refine aP ?_;refine bu (i:=4) nR.nd rfl (.inl rfl) ?_;refine bf ?_;refine aR dj ?_ (ao aD);refine aL ?_;refine aR cR ?_ (ao aD);refine aL ?_;refine aR gU (ao (az 4)) (ao aD)
 refine aP ?_;refine bT ?_;refine bf ?_;refine aR qP ?_ (ao aD);refine aL ?_;refine aR dj ?_ (ao aD);refine aL ?_;refine aR gU (ao (az 4)) (ao (az 4))
abbrev CP:Stmt:=top 37
theorem Zz:bK ["_law_found"] ["_law_found"] (aY CP):=by trivial
def Kw:MS :=
  (aU (jW (fC "int" (aa 0)) (qJ (fC "bool" (aa 0)))))
def nT:List D->aq->Res D:=bH 1 Kw
abbrev Ky(Pr:Program)(w:World)(K:Frag)(mg:Str->Option Value)(base:Heap):Prop:=Can Pr w K mg base "_law_whole" ["_law_found"] 1 (vSp K mg [.s] (rV K) nT)
theorem ZC(CQ:Def K mg "_law_whole" CP)
  (B:bW mg)
  (NK:bL K=true):
  Ky Pr w K mg base:=by
 refine cP (k:=0) (b:=Kw) CQ Zz (λ_ _ _ _ _ _=>aX λ_=>bZ rfl) [.s] [] cB (λ_ _ _ _=>Rp.non) (body:=λf cdv A outer s H E hr P=>?_);refine aP ?_;refine bT ?_;refine qL ?_ ?_;refine bf (mZ "int" (hb:=um) B.isinstance_ B.int_ (aF 0));refine qK ?_;refine Hx ?_;refine bf (mZ "bool" (hb:=Ij) B.isinstance_ B.bool_ (aF 0))
abbrev CT:Stmt:=top 38
theorem nU:bK ["_law_cell_here","_law_many","_law_number","_law_rest","_law_found","_law_k"] ["_law_cell_here","_law_many"] (aY CT):=by trivial
def CV:MS :=
  (aB (aH 2 (ak bc (ak cz (ak bc (ak bD (aa 0) (mC (.int 2147483647))) (mC (.int 7919))) (mC (.int 48271))) (mC (.int 104729))))
  (aB (aH 3 (mG (aa 0)))
  (aB (aH 4 (bY au))
  (aB (b8 (eQ (aj (aa 1) au)) (mgN 5) (bh (aJ (ak gGt (aa 0) (ak eG (mC (.int 10)) (mC (.int 18))))) (aB (dW 4 (ak bD (aa 3) (ak eG (mC (.int 10)) (mC (.int 9)))))
  (aH 3 (ak fY (aa 3) (ak eG (mC (.int 10)) (mC (.int 9)))))) (aB (aH 2 (ak bD (ak bc (ak cz (aa 2) (mC (.int 48271))) (mC (.int 104729))) (mC (.int 2147483629))))
  (dW 4 (ak fY (ak bD (ak cz (aa 2) (aa 2)) (mC (.int 998244353))) (mC (.int 11)))))))
  (aU (aa 4))))))
def pW:List D->aq->Res D:=bH 6 CV
abbrev Kz(Pr:Program)(w:World)(K:Frag)(mg:Str->Option Value)(base:Heap):Prop:=Can Pr w K mg base "_law_stream" ["_law_cell_here","_law_many"] 1 (vSp K mg [.s,.s] (rO K) pW)
theorem ZD(CW:Def K mg "_law_stream" CT)
  (B:bW mg)
  (NK:bL K=true):
  Kz Pr w K mg base:=by
 refine cP (k:=0) (b:=CV) CW nU (λ_ _ _ _ _ _=>aX λ_=>aX λ_=>bZ rfl) [.s,.s] [.v,.v,.o,.v] fj (λ_ _ _ _=>.inl ⟨rfl,Rp.non⟩) (body:=λf cdv A outer s H E hr P=>?_);refine aM ?_ ?_;refine bu (i:=2) nU.nd rfl (.inl rfl) ?_;refine bf ?_;refine aR cR ?_ (ao aD);refine aL ?_;refine aR gU ?_ (ao aD);refine aL ?_;refine aR cR ?_ (ao aD);refine aL ?_;refine aR dj (aF 0) (ao aD);refine aM ?_ ?_;refine bu (i:=3) nU.nd rfl (.inl rfl) (dJ (aF 0));refine aM ?_ ?_;refine jX (i:=4) nU.nd rfl (.inl rfl) (dB 0 aG);refine aM ?_ (aP (oM 4));refine fM rfl ?_ (di (i:=5) nU.nd rfl (.inl rfl)) ?_
 refine oX B.range_ ?_;refine aC (aF 1) aG;refine aP ?_;refine cI ?_ ?_ ?_;refine bO jY (aF 0) ?_ (bG _);refine aL ?_;refine aR mU (ao aD) (ao aD);refine aM ?_ ?_;refine m6 4 ?_;refine bf ?_;refine aR dj (ao (az 3)) ?_;refine aL ?_;refine aR mU (ao aD) (ao aD);refine aP ?_;refine bu (i:=3) nU.nd rfl (.inl rfl) ?_;refine bf ?_;refine aR qP (ao (az 3)) ?_;refine aL ?_;refine aR mU (ao aD) (ao aD);refine aM ?_ ?_;refine bu (i:=2) nU.nd rfl (.inl rfl) ?_;refine bf ?_;refine aR dj ?_ (ao aD);refine aL ?_;refine aR cR ?_ (ao aD);refine aL ?_
 refine aR gU (ao (az 2)) (ao aD);refine aP ?_;refine m6 4 ?_;refine bf ?_;refine aR qP ?_ (ao aD);refine aL ?_;refine aR dj ?_ (ao aD);refine aL ?_;refine aR gU (ao (az 2)) (ao (az 2))
abbrev vA:Stmt:=top 39
theorem lO:bK ["_law_xs","_law_small","_law_great","_law_other","_law_way","_law_many","_law_signs","_law_text"] ["_law_xs"] (aY vA):=by trivial
def KD:MS :=
  (aB (aH 1 (mC (.str [97,98,99,100,101,102,103,104,105,106,107,108,109,110,111,112,113,114,115,116,117,118,119,120,121,122])))
  (aB (aH 2 (mC (.str [65,66,67,68,69,70,71,72,73,74,75,76,77,78,79,80,81,82,83,84,85,86,87,88,89,90])))
  (aB (aH 3 (mC (.str [33,34,35,36,38,39,40,41,42,43,44,45,46,47,48,49,50,51,52,53,54,55,56,57,58,59,60,61,62,63,64,91,92,93,94,95,96,123,124,125])))
  (aB (aH 4 (ak bD (ak gIx (aa 0) (mC (.int 0))) (mC (.int 8))))
  (aB (aH 5 (ak bc (mC (.int 1)) (ak bD (ak gIx (aa 0) (mC (.int 1))) (ak gIx (bY (aj (mC (.int 4)) (aj (mC (.int 6)) (aj (mC (.int 9)) (aj (mC (.int 40)) (aj (mC (.int 4)) (aj (mC (.int 3)) (aj (mC (.int 1)) (aj (mC (.int 2)) au))))))))) (aa 4)))))
  (aB (aH 6 (ak gIx (bY (aj (aa 1) (aj (aa 1) (aj (ak bc (aa 1) (aa 2)) (aj (aa 1) (aj (aa 2) (aj (mC (.str [32])) (aj (mC (.str [32])) (aj (aa 3) au))))))))) (aa 4)))
  (aB (aH 7 (uq (dD (eQ (aj (aa 5) au)) 1 [0,6] (mgN 0) dN (ak gIx (aa 2) (ak bD (ak bc (ak gIx (aa 1) (mC (.int 2))) (ak cz (mC (.int 7)) (aa 0))) (aV bC (aj (aa 2) au)))))))
  (aU (ak bc (aa 7) (ak cz (mC (.str [32])) (ak fY (ak bD (ak gIx (aa 0) (mC (.int 3))) (mC (.int 5))) (mC (.int 2)))))))))))))
def pX:List D->aq->Res D:=bH 8 KD
abbrev KH(Pr:Program)(w:World)(K:Frag)(mg:Str->Option Value)(base:Heap):Prop:=Can Pr w K mg base "_law_run" ["_law_xs"] 1 (vSp K mg [.s] (rV K) pX)
theorem ZF(CZ:Def K mg "_law_run" vA)
  (B:bW mg)
  (NK:bL K=true):
  KH Pr w K mg base:=by
 refine cP (k:=0) (b:=KD) CZ lO (λ_ _ _ _ _ _=>aX λ_=>bZ rfl) [.s] [.v,.v,.v,.v,.v,.v,.v] cB (λ_ _ _ _=>Rp.non) (body:=λf cdv A outer s H E hr P=>?_);refine aM (bu (i:=1) lO.nd rfl (.inl rfl) (cC [97,98,99,100,101,102,103,104,105,106,107,108,109,110,111,112,113,114,115,116,117,118,119,120,121,122])) ?_;refine aM (bu (i:=2) lO.nd rfl (.inl rfl) (cC [65,66,67,68,69,70,71,72,73,74,75,76,77,78,79,80,81,82,83,84,85,86,87,88,89,90])) ?_;refine aM (bu (i:=3) lO.nd rfl (.inl rfl) (cC [33,34,35,36,38,39,40,41,42,43,44,45,46,47,48,49,50,51,52,53,54,55,56,57,58,59,60,61,62,63,64,91,92,93,94,95,96,123,124,125])) ?_
 refine aM ?_ ?_;refine bu (i:=4) lO.nd rfl (.inl rfl) ?_;refine bf ?_;refine aR dj ?_ (ao aD);refine ao ?_;refine bj (aF 0) (ao aD);refine aM ?_ ?_;refine bu (i:=5) lO.nd rfl (.inl rfl) ?_;refine bf ?_;refine aR cR (ao aD) ?_;refine aL ?_;refine aR dj ?_ ?_;refine ao ?_;refine bj (aF 0) (ao aD);refine ao ?_;refine bj ?_ (ao (az 4));refine aL ?_;refine dB 8 ?_;refine aZ aD ?_;refine aZ aD ?_;refine aZ aD ?_;refine aZ aD ?_;refine aZ aD ?_;refine aZ aD ?_;refine aZ aD ?_;refine aZ aD aG;refine aM ?_ ?_;refine bu (i:=6) lO.nd rfl (.inr rfl) ?_
 refine bj ?_ (ao (az 4));refine aL ?_;refine dB 8 ?_;refine aZ (az 1) ?_;refine aZ (az 1) ?_;refine aZ ?_ ?_;refine bf ?_;refine aR cR (ao (az 1)) (ao (az 2));refine aZ (az 1) ?_;refine aZ (az 2) ?_;refine aZ (cC [32]) ?_;refine aZ (cC [32]) ?_;refine aZ (az 3) aG;refine aM ?_ ?_;refine bu (i:=7) lO.nd rfl (.inl rfl) ?_;refine bf ?_;refine V9 ?_;refine aL ?_;refine oN (aY vA) ["_law_xs","_law_small","_law_great","_law_other","_law_way","_law_many","_law_signs","_law_text"] ["_law_k"] [0,6] rfl ?_ (λ_ _ _ _ P=>?_) (λ_ _ _ _ P=>?_) (λ_ _ _ _ P=>?_);refine uf ?_
 refine oX B.range_ ?_;refine aC (ao (az 5)) aG;exact di (i:=0) (show(bQ ["_law_xs","_law_small","_law_great","_law_other","_law_way","_law_many","_law_signs","_law_text"] ["_law_k"] [0,6]).Nodup by decide +kernel) rfl (.inl rfl);exact mR;refine bj (ao (az 2)) ?_;refine aL ?_;refine aR dj ?_ ?_;refine aL ?_;refine aR cR ?_ ?_;refine ao ?_;refine bj (aF 1) (ao aD);refine aL ?_;refine aR gU (ao aD) (ao (az 0));refine aL ?_;refine cJ (ms:=[.s]) (hv:=cZ) cY B.len_ ?_;refine aC (ao (az 2)) aG;refine aP ?_;refine bT ?_;refine bf ?_;refine aR cR (ao (az 7)) ?_
 refine aL ?_;refine aR gU (ao (cC [32])) ?_;refine aL ?_;refine aR qP ?_ (ao aD);refine aL ?_;refine aR dj ?_ (ao aD);refine ao ?_;refine bj (aF 0) (ao aD)
abbrev Dc:Stmt:=top 40
theorem lQ:bK ["_law_script","_law_at","_law_most","_law_letters_here","_law_place","_law_k","_law_xs","_law_sign"] ["_law_script","_law_at","_law_most"] (aY Dc):=by trivial
def KJ:MS :=
  (aB (aH 3 (bY au))
  (aB (aH 4 (ak bD (aK gh (aj (aK eX (aj (aa 0) (aj (aa 1) au))) (aj (mC (.int 0)) au))) (mC (.int 1000))))
  (aB (b8 (eQ (aj (aV qR (aj (mC (.int 1)) (aj (aV lE (aj (mC (.int 40)) (aj (ak gw (aV bC (aj (aa 0) au)) (aa 1)) au))) au))) au)) (mgN 5) (aB (aH 6 (aK pW (aj (aK eX (aj (aa 0) (aj (ak bc (aa 1) (aa 5)) au))) (aj (mC (.int 7)) au))))
  (b8 (cQ (aK pX (aj (aa 6) au))) (mgN 7) (aB (bh (aJ (ak gLt (aV bC (aj (aa 3) au)) (aa 2))) (dW 3 (dh (aj (aa 7) (aj (ak gIx (mC (.str [97,98,99,100,101,102,103,104,46])) (ak bD (ak gIx (aa 6) (mC (.int 4))) (mC (.int 9)))) (aj (ak gIx (mC (.str [97,98,99,100,101,102,103,104,46])) (ak bD (ak gIx (aa 6) (mC (.int 5))) (mC (.int 9)))) (aj (aa 4) au)))))) bx)
  (aH 4 (ak bc (ak bc (aa 4) (mC (.int 1))) (ak bD (ak gIx (aa 6) (mC (.int 6))) (mC (.int 3)))))))))
  (aB (bh (aJ (ak gEq (ak bD (aK gh (aj (aK eX (aj (aa 0) (aj (mC (.int 0)) au))) (aj (mC (.int 9)) au))) (mC (.int 9))) (mC (.int 4)))) (aH 3 (bY au)) bx)
  (aU (aa 3))))))
def sU:List D->aq->Res D:=bH 8 KJ
abbrev KN(Pr:Program)(w:World)(K:Frag)(mg:Str->Option Value)(base:Heap):Prop:=Can Pr w K mg base "_law_letters" ["_law_script","_law_at","_law_most"] 2 (vSp K mg [.s,.s,.s] (rO K) sU)
theorem ZG(Dd:Def K mg "_law_letters" Dc)
  (B:bW mg)
  (NK:bL K=true)
  (iy:vz Pr w K mg base)
  (iz:vq Pr w K mg base)
  (De:Kz Pr w K mg base)
  (Dg:KH Pr w K mg base):
  KN Pr w K mg base:=by
 refine cP (k:=1) (b:=KJ) Dd lQ (λ_ _ _ _ _ _=>aX λ_=>aX λ_=>aX λ_=>bZ rfl) [.s,.s,.s] [.o,.v,.v,.v,.v] fj (λ_ _ _ _=>.inl ⟨rfl,Rp.non⟩) (body:=λf cdv A outer s H E hr P=>?_);refine aM ?_ ?_;refine jX (i:=3) lQ.nd rfl (.inl rfl) (dB 0 aG);refine aM ?_ ?_;refine bu (i:=4) lQ.nd rfl (.inl rfl) ?_;refine bf ?_;refine aR dj ?_ (ao aD);refine ao ?_;refine bR iy (hr.mono (by decide)) ?_;refine aC ?_ ?_;refine ao ?_;refine bR iz (hr.mono (by decide)) ?_;refine aC (aF 0) ?_;refine aC (aF 1) aG;refine aC (ao aD) aG;refine aM ?_ ?_;refine fM rfl ?_ (di (i:=5) lQ.nd rfl (.inl rfl)) ?_
 refine oX B.range_ ?_;refine aC ?_ aG;refine aL ?_;refine cJ (ms:=[.s,.s]) (hv:=V3) (V1 rfl) B.max_ ?_;refine aC (ao aD) ?_;refine aC ?_ aG;refine aL ?_;refine cJ (ms:=[.s,.s]) (hv:=Ig) (Ib rfl) B.min_ ?_;refine aC (ao aD) ?_;refine aC ?_ aG;refine aL ?_;refine aR oR ?_ (aF 1);refine aL ?_;refine cJ (ms:=[.s]) (hv:=cZ) cY B.len_ ?_;refine aC (aF 0) aG;refine aM ?_ ?_;refine bu (i:=6) lQ.nd rfl (.inl rfl) ?_;refine bf ?_;refine gG De (hr.mono (by decide)) ?_;refine aC ?_ ?_;refine ao ?_;refine bR iz (hr.mono (by decide)) ?_;refine aC (aF 0) ?_;refine aC ?_ aG
 refine aL ?_;refine aR cR (aF 1) (ao (az 5));refine aC (ao aD) aG;refine aP ?_;refine fM rfl ?_ (di (i:=7) lQ.nd rfl (.inl rfl)) ?_;refine qX ?_;refine qU ?_;refine bR Dg (hr.mono (by decide)) ?_;refine aC (ao (az 6)) aG;refine aM ?_ ?_;refine cI ?_ ?_ cO;refine bO mV ?_ (aF 2) (bG _);refine aL ?_;refine cJ (ms:=[.s]) (hv:=cZ) cY B.len_ ?_;refine aC (aF 3) aG;refine aP ?_;refine m6 3 ?_;refine fW 4 ?_;refine aZ (az 7) ?_;refine aZ ?_ ?_;refine bj (ao (cC [97,98,99,100,101,102,103,104,46])) ?_;refine aL ?_;refine aR dj ?_ (ao aD);refine ao ?_;refine bj (ao (az 6)) (ao aD)
 refine aZ ?_ ?_;refine bj (ao (cC [97,98,99,100,101,102,103,104,46])) ?_;refine aL ?_;refine aR dj ?_ (ao aD);refine ao ?_;refine bj (ao (az 6)) (ao aD);refine aZ (az 4) aG;refine aP ?_;refine bu (i:=4) lQ.nd rfl (.inl rfl) ?_;refine bf ?_;refine aR cR ?_ ?_;refine aL ?_;refine aR cR (ao (az 4)) (ao aD);refine aL ?_;refine aR dj ?_ (ao aD);refine ao ?_;refine bj (ao (az 6)) (ao aD);refine aM ?_ (aP (oM 3));refine cI ?_ ?_ cO;refine bO (eO hr) ?_ (ao aD) (bG _);refine aL ?_;refine aR dj ?_ (ao aD);refine ao ?_;refine bR iy (hr.mono (by decide)) ?_
 refine aC ?_ ?_;refine ao ?_;refine bR iz (hr.mono (by decide)) ?_;refine aC (aF 0) ?_;refine aC (ao aD) aG;refine aC (ao aD) aG;refine aP ?_;refine jX (i:=3) lQ.nd rfl (.inl rfl) (dB 0 aG)
abbrev Dh:Stmt:=top 41
theorem KQ:bK ["_law_script","_law_cell_here"] ["_law_script"] (aY Dh):=by trivial
def vB:MS :=
  (aB (aH 1 (aK eX (aj (aa 0) (aj (mC (.int 1)) au))))
  (aU (ak bc (mC (.int 2)) (ak bD (aK gh (aj (aa 1) (aj (mC (.int 7)) au))) (ak gIx (bY (aj (mC (.int 4)) (aj (mC (.int 9)) (aj (mC (.int 9)) (aj (mC (.int 39)) au))))) (ak bD (aK gh (aj (aa 1) (aj (mC (.int 8)) au))) (mC (.int 4))))))))
def vC:List D->aq->Res D:=bH 2 vB
abbrev KR(Pr:Program)(w:World)(K:Frag)(mg:Str->Option Value)(base:Heap):Prop:=Can Pr w K mg base "_law_wide" ["_law_script"] 2 (vSp K mg [.s] (rV K) vC)
theorem ZJ(Di:Def K mg "_law_wide" Dh)
  (B:bW mg)
  (NK:bL K=true)
  (iz:vq Pr w K mg base)
  (iy:vz Pr w K mg base):
  KR Pr w K mg base:=by
 refine cP (k:=1) (b:=vB) Di KQ (λ_ _ _ _ _ _=>aX λ_=>bZ rfl) [.s] [.v] cB (λ_ _ _ _=>Rp.non) (body:=λf cdv A outer s H E hr P=>?_);refine aM ?_ ?_;refine bu (i:=1) KQ.nd rfl (.inl rfl) ?_;refine bR iz (hr.mono (by decide)) ?_;refine aC (aF 0) ?_;refine aC (ao aD) aG;refine aP ?_;refine bT ?_;refine bf ?_;refine aR cR (ao aD) ?_;refine aL ?_;refine aR dj ?_ ?_;refine ao ?_;refine bR iy (hr.mono (by decide)) ?_;refine aC (ao (az 1)) ?_;refine aC (ao aD) aG;refine ao ?_;refine bj ?_ ?_;refine aL ?_;refine dB 4 ?_;refine aZ aD ?_;refine aZ aD ?_
 refine aZ aD ?_;refine aZ aD aG;refine aL ?_;refine aR dj ?_ (ao aD);refine ao ?_;refine bR iy (hr.mono (by decide)) ?_;refine aC (ao (az 1)) ?_;refine aC (ao aD) aG
abbrev vD:Stmt:=top 42
theorem Dj:bK ["_law_letters_here","_law_lo","_law_hi","_law_great"] ["_law_letters_here","_law_lo","_law_hi"] (aY vD):=by trivial
def KY:MS :=
  (aB (gR wF (dC (aJ (ak gGt (aa 2) (aa 1))) (aJ (ak gEq (ak gIx (ak gIx (aa 0) (ak gw (aa 2) (mC (.int 1)))) (mC (.int 0))) (mC (.str [32]))))) (aH 2 (ak gw (aa 2) (mC (.int 1)))))
  (aB (aH 3 (mC (.str [65,66,67,68,69,70,71,72,73,74,75,76,77,78,79,80,81,82,83,84,85,86,87,88,89,90])))
  (aU (aV oW (aj (dD (cQ (mSl (aa 0) (moS (mG (aa 1))) (moS (aa 2)))) 1 [3] (mgN 0) dN (ak bc (mC (.int 1)) (aV mY (aj (ak (gIn false) (ak gIx (aa 0) (mC (.int 0))) (aa 1)) au)))) au)))))
def lR:List D->aq->Res D:=bH 4 KY
abbrev Dk(Pr:Program)(w:World)(K:Frag)(mg:Str->Option Value)(base:Heap):Prop:=Can Pr w K mg base "_law_trimmed" ["_law_letters_here","_law_lo","_law_hi"] 1 (vSp K mg [.s,.s,.v] (rV K) lR)
theorem ZK(Dl:Def K mg "_law_trimmed" vD)
  (B:bW mg)
  (NK:bL K=true):
  Dk Pr w K mg base:=by
 refine cP (k:=0) (b:=KY) Dl Dj (λ_ _ _ _ _ _=>aX λ_=>aX λ_=>aX λ_=>bZ rfl) [.s,.s,.v] [.v] cB (λ_ _ _ _=>Rp.non) (body:=λf cdv A outer s H E hr P=>?_);refine aM ?_ ?_;refine qO wF ?_ ?_;refine fX ?_;refine mO ?_ ?_;refine bO jY (ao (az 2)) (aF 1) (bG _);refine mK ?_;refine bO (eO hr) ?_ (ao (cC [32])) (bG _);refine ao ?_;refine bj ?_ (ao aD);refine ao ?_;refine bj (aF 0) ?_;refine aL ?_;refine aR oR (ao (az 2)) (ao aD);refine aP ?_;refine bu (i:=2) Dj.nd rfl (.inl rfl) ?_;refine bf ?_;refine aR oR (ao (az 2)) (ao aD);refine aM (bu (i:=3) Dj.nd rfl (.inr rfl) (cC [65,66,67,68,69,70,71,72,73,74,75,76,77,78,79,80,81,82,83,84,85,86,87,88,89,90])) ?_
 refine aP ?_;refine bT ?_;refine bf ?_;refine cJ (ms:=[.s]) (hv:=Ih) (Ie rfl) B.sum_ ?_;refine aC ?_ aG;refine aL ?_;refine oN (aY vD) ["_law_letters_here","_law_lo","_law_hi","_law_great"] ["_law_letter"] [3] rfl ?_ (λ_ _ _ _ P=>?_) (λ_ _ _ _ P=>?_) (λ_ _ _ _ P=>?_);refine nA ?_;refine aL ?_;refine qQ (aF 0) ?_ (mX (az 2));refine mX (dJ (aF 1));exact di (i:=0) (show(bQ ["_law_letters_here","_law_lo","_law_hi","_law_great"] ["_law_letter"] [3]).Nodup by decide +kernel) rfl (.inl rfl);exact mR;refine bf ?_;refine aR cR (ao aD) ?_;refine aL ?_;refine oV (ms:=[.s]) (hv:=um) V2 B.int_ ?_
 refine aC ?_ aG;refine aL ?_;refine mH Ia ?_ (ao (az 1)) (by with_unfolding_all rfl);refine ao ?_;refine bj (ao (az 0)) (ao aD)
abbrev Dm:Stmt:=top 43
theorem Dn:bK ["_law_letters_here","_law_found","_law_at"] ["_law_letters_here"] (aY Dm):=by trivial
def KZ:MS :=
  (aB (aH 1 (bY au))
  (aB (b8 (j5 (aj (mC (.int 1)) (aj (ak bc (aV bC (aj (aa 0) au)) (mC (.int 1))) au))) (mgN 2) (bh (cX (aJ (ak gEq (aa 2) (aV bC (aj (aa 0) au)))) (dC (aJ (ak gEq (ak gIx (ak gIx (aa 0) (ak gw (aa 2) (mC (.int 1)))) (mC (.int 0))) (mC (.str [32])))) (aJ (ak gNe (ak gIx (ak gIx (aa 0) (aa 2)) (mC (.int 0))) (mC (.str [32])))))) (dW 1 (aa 2)) bx))
  (aU (aa 1))))
def vG:List D->aq->Res D:=bH 3 KZ
abbrev K1(Pr:Program)(w:World)(K:Frag)(mg:Str->Option Value)(base:Heap):Prop:=Can Pr w K mg base "_law_breaks" ["_law_letters_here"] 1 (vSp K mg [.s] (rO K) vG)
theorem ZL(Do:Def K mg "_law_breaks" Dm)
  (B:bW mg)
  (NK:bL K=true):
  K1 Pr w K mg base:=by
 refine cP (k:=0) (b:=KZ) Do Dn (λ_ _ _ _ _ _=>aX λ_=>bZ rfl) [.s] [.o,.v] fj (λ_ _ _ _=>.inl ⟨rfl,Rp.non⟩) (body:=λf cdv A outer s H E hr P=>?_);refine aM ?_ ?_;refine jX (i:=1) Dn.nd rfl (.inl rfl) (dB 0 aG);refine aM ?_ (aP (oM 1));refine fM rfl ?_ (di (i:=2) Dn.nd rfl (.inl rfl)) ?_;refine xX B.range_ ?_;refine aC (ao aD) ?_;refine aC ?_ aG;refine aL ?_;refine aR cR ?_ (ao aD);refine aL ?_;refine cJ (ms:=[.s]) (hv:=cZ) cY B.len_ ?_;refine aC (aF 0) aG;refine aP ?_;refine cI ?_ ?_ cO;refine fX ?_;refine iQ ?_ ?_;refine bO (eO hr) (ao (az 2)) ?_ (bG _)
 refine aL ?_;refine cJ (ms:=[.s]) (hv:=cZ) cY B.len_ ?_;refine aC (aF 0) aG;refine mL ?_;refine fX ?_;refine mO ?_ ?_;refine bO (eO hr) ?_ (ao (cC [32])) (bG _);refine ao ?_;refine bj ?_ (ao aD);refine ao ?_;refine bj (aF 0) ?_;refine aL ?_;refine aR oR (ao (az 2)) (ao aD);refine mK ?_;refine bO (jG hr) ?_ (ao (cC [32])) (bG _);refine ao ?_;refine bj ?_ (ao aD);refine ao ?_;refine bj (aF 0) (ao (az 2));refine aP (m6 1 (az 2))
abbrev Dp:Stmt:=top 44
theorem vH:bK ["_law_found","_law_letters_here","_law_wide_here","_law_way","_law_at","_law_one"] ["_law_found","_law_letters_here","_law_wide_here","_law_way"] (aY Dp):=by trivial
def vI:MS :=
  (aB (bh (cX (du (cj (fC "list" (aa 0)))) (aJ (ak gEq (aV bC (aj (aa 0) au)) (mC (.int 0))))) (aU (mC (.bl false))) bx)
  (aB (aH 4 (mC (.int 0)))
  (aB (b8 (cQ (aa 0)) (mgN 5) (aB (bh (cX (du (cj (fC "tuple" (aa 5)))) (cX (aJ (ak gNe (aV bC (aj (aa 5) au)) (mC (.int 2)))) (cX (du (cj (aK nT (aj (ak gIx (aa 5) (mC (.int 0))) au)))) (du (cj (aK nT (aj (ak gIx (aa 5) (mC (.int 1))) au))))))) (aU (mC (.bl false))) bx)
  (aB (bh (cX (aJ (ak gNe (ak gIx (aa 5) (mC (.int 0))) (aa 4))) (cX (aJ (ak gLt (ak gIx (aa 5) (mC (.int 1))) (aa 4))) (cX (aJ (ak gGt (ak gIx (aa 5) (mC (.int 1))) (aV bC (aj (aa 1) au)))) (dC (aJ (ak gEq (ak gIx (aa 5) (mC (.int 1))) (aa 4))) (aJ (ak gNe (aa 1) (bY au))))))) (aU (mC (.bl false))) bx)
  (aB (bh (aJ (ak gGt (aK lR (aj (aa 1) (aj (ak gIx (aa 5) (mC (.int 0))) (aj (ak gIx (aa 5) (mC (.int 1))) au)))) (aa 2))) (aU (mC (.bl false))) bx)
  (aH 4 (ak gIx (aa 5) (mC (.int 1))))))))
  (aB (bh (aJ (ak gEq (aa 3) (mC (.str [99,117,116])))) (aU (ak gEq (aV bC (aj (aa 0) au)) (mC (.int 1)))) bx)
  (aU (ak gEq (aa 4) (aV bC (aj (aa 1) au))))))))
def nW:List D->aq->Res D:=bH 6 vI
abbrev K3(Pr:Program)(w:World)(K:Frag)(mg:Str->Option Value)(base:Heap):Prop:=Can Pr w K mg base "_law_held" ["_law_found","_law_letters_here","_law_wide_here","_law_way"] 2 (vSp K mg [.s,.s,.s,.s] (rV K) nW)
theorem ZM(Dq:Def K mg "_law_held" Dp)
  (B:bW mg)
  (NK:bL K=true)
  (vJ:Ky Pr w K mg base)
  (pY:Dk Pr w K mg base):
  K3 Pr w K mg base:=by
 refine cP (k:=1) (b:=vI) Dq vH (λ_ _ _ _ _ _=>aX λ_=>aX λ_=>aX λ_=>aX λ_=>bZ rfl) [.s,.s,.s,.s] [.v,.v] cB (λ_ _ _ _=>Rp.non) (body:=λf cdv A outer s H E hr P=>?_);refine aM ?_ ?_;refine cI ?_ ?_ cO;refine fX ?_;refine iQ ?_ ?_;refine lB ?_;refine gQ ?_;refine aL (mZ "list" (hb:=qT) B.isinstance_ B.list_ (aF 0));refine mL ?_;refine bO (eO hr) ?_ (ao aD) (bG _);refine aL ?_;refine cJ (ms:=[.s]) (hv:=cZ) cY B.len_ ?_;refine aC (aF 0) aG;refine aP (bT gq);refine aM (bu (i:=4) vH.nd rfl (.inl rfl) aD) ?_;refine aM ?_ ?_;refine fM rfl (qX (V7 0)) (di (i:=5) vH.nd rfl (.inl rfl)) ?_
 refine aM ?_ ?_;refine cI ?_ ?_ cO;refine fX ?_;refine iQ ?_ ?_;refine lB ?_;refine gQ ?_;refine aL ?_;refine mZ "tuple" (hb:=V4) B.isinstance_ B.tuple_ (ao (az 5));refine iQ ?_ ?_;refine bO (jG hr) ?_ (ao aD) (bG _);refine aL ?_;refine cJ (ms:=[.s]) (hv:=cZ) cY B.len_ ?_;refine aC (ao (az 5)) aG;refine iQ ?_ ?_;refine lB ?_;refine gQ ?_;refine ao ?_;refine bR vJ (hr.mono (by decide)) ?_;refine aC ?_ aG;refine ao ?_;refine bj (ao (az 5)) (ao aD);refine mL ?_;refine lB ?_;refine gQ ?_;refine ao ?_;refine bR vJ (hr.mono (by decide)) ?_;refine aC ?_ aG
 refine ao ?_;refine bj (ao (az 5)) (ao aD);refine aP (bT gq);refine aM ?_ ?_;refine cI ?_ ?_ cO;refine fX ?_;refine iQ ?_ ?_;refine bO (jG hr) ?_ (ao (az 4)) (bG _);refine ao ?_;refine bj (ao (az 5)) (ao aD);refine iQ ?_ ?_;refine bO mV ?_ (ao (az 4)) (bG _);refine ao ?_;refine bj (ao (az 5)) (ao aD);refine iQ ?_ ?_;refine bO jY ?_ ?_ (bG _);refine ao ?_;refine bj (ao (az 5)) (ao aD);refine aL ?_;refine cJ (ms:=[.s]) (hv:=cZ) cY B.len_ ?_;refine aC (aF 1) aG;refine mL ?_;refine fX ?_;refine mO ?_ ?_;refine bO (eO hr) ?_ (ao (az 4)) (bG _)
 refine ao ?_;refine bj (ao (az 5)) (ao aD);refine mK ?_;refine bO (jG hr) (aF 1) ?_ (bG _);refine aL (dB 0 aG);refine aP (bT gq);refine aM ?_ ?_;refine cI ?_ ?_ cO;refine bO jY ?_ (aF 2) (bG _);refine ao ?_;refine bR pY (hr.mono (by decide)) ?_;refine aC (aF 1) ?_;refine aC ?_ ?_;refine ao ?_;refine bj (ao (az 5)) (ao aD);refine aZ ?_ aG;refine bj (ao (az 5)) (ao aD);refine aP (bT gq);refine aP ?_;refine bu (i:=4) vH.nd rfl (.inl rfl) ?_;refine bj (ao (az 5)) (ao aD);refine aM ?_ ?_;refine cI ?_ ?_ cO;refine bO (eO hr) (aF 3) (ao (cC [99,117,116])) (bG _)
 refine aP ?_;refine bT ?_;refine bf ?_;refine mH (eO hr) ?_ (ao aD) (bG _);refine aL ?_;refine cJ (ms:=[.s]) (hv:=cZ) cY B.len_ ?_;refine aC (aF 0) aG;refine aP ?_;refine bT ?_;refine bf ?_;refine mH (eO hr) (ao (az 4)) ?_ (bG _);refine aL ?_;refine cJ (ms:=[.s]) (hv:=cZ) cY B.len_ ?_;refine aC (aF 1) aG
abbrev Dr:Stmt:=top 45
theorem sV:bK ["_law_letters_here","_law_wide_here","_law_spots","_law_lines","_law_k","_law_j"] ["_law_letters_here","_law_wide_here"] (aY Dr):=by trivial
def vK:MS :=
  (aB (aH 2 (ak bc (bY (aj (mC (.int 0)) au)) (aK vG (aj (aa 0) au))))
  (aB (aH 3 (yp 0 0))
  (aB (b8 (j5 (aj (mC (.int 1)) (aj (aV bC (aj (aa 2) au)) au))) (mgN 4) (b8 (eQ (aj (aa 4) au)) (mgN 5) (bh (dC (aJ (pB false (ak gIx (aa 2) (aa 5)) (aa 3))) (aJ (ak gLe (aK lR (aj (aa 0) (aj (ak gIx (aa 2) (aa 5)) (aj (ak gIx (aa 2) (aa 4)) au)))) (aa 1)))) (j8 (aa 3) (ak gIx (aa 2) (aa 4)) (aV lE (aj (ak bc (f9 (aa 3) (ak gIx (aa 2) (aa 5))) (mC (.int 1))) (aj (nD (aa 3) (ak gIx (aa 2) (aa 4)) (mC (.int 1000))) au)))) bx)))
  (aU (nD (aa 3) (aV bC (aj (aa 0) au)) (mC (.int 0)))))))
def pZ:List D->aq->Res D:=bH 6 vK
abbrev K4(Pr:Program)(w:World)(K:Frag)(mg:Str->Option Value)(base:Heap):Prop:=Can Pr w K mg base "_law_fewest" ["_law_letters_here","_law_wide_here"] 2 (vSp K mg [.s,.s] (rV K) pZ)
theorem ZP(Ds:Def K mg "_law_fewest" Dr)
  (B:bW mg)
  (NK:bL K=true)
  (Dt:K1 Pr w K mg base)
  (pY:Dk Pr w K mg base):
  K4 Pr w K mg base:=by
 refine cP (k:=1) (b:=vK) Ds sV (λ_ _ _ _ _ _=>aX λ_=>aX λ_=>bZ rfl) [.s,.s] [.v,.v,.v,.v] cB (λ_ _ _ _=>Rp.non) (body:=λf cdv A outer s H E hr P=>?_);refine aM ?_ ?_;refine bu (i:=2) sV.nd rfl (.inl rfl) ?_;refine bf ?_;refine aR cR ?_ ?_;refine aL ?_;refine dB 1 ?_;refine aZ aD aG;refine aL ?_;refine gG Dt (hr.mono (by decide)) ?_;refine aC (aF 0) aG;refine aM (bu (i:=3) sV.nd rfl (.inl rfl) (Xy wK wK)) ?_;refine aM ?_ ?_;refine fM rfl ?_ (di (i:=4) sV.nd rfl (.inl rfl)) ?_;refine xX B.range_ ?_;refine aC (ao aD) ?_;refine aC ?_ aG;refine aL ?_
 refine cJ (ms:=[.s]) (hv:=cZ) cY B.len_ ?_;refine aC (ao (az 2)) aG;refine aP ?_;refine fM rfl ?_ (di (i:=5) sV.nd rfl (.inl rfl)) ?_;refine oX B.range_ ?_;refine aC (ao (az 4)) aG;refine aP ?_;refine cI ?_ ?_ cO;refine fX ?_;refine mO ?_ ?_;refine Xr hr ?_ (az 3);refine bj (ao (az 2)) (ao (az 5));refine mK ?_;refine bO oU ?_ (aF 1) (bG _);refine ao ?_;refine bR pY (hr.mono (by decide)) ?_;refine aC (aF 0) ?_;refine aC ?_ ?_;refine ao ?_;refine bj (ao (az 2)) (ao (az 5));refine aZ ?_ aG;refine bj (ao (az 2)) (ao (az 4));refine aP ?_;refine Jk hr (az 3) ?_ ?_
 refine bj (ao (az 2)) (ao (az 4));refine bf ?_;refine cJ (ms:=[.s,.s]) (hv:=Ig) (Ib rfl) B.min_ ?_;refine aC ?_ ?_;refine aL ?_;refine aR cR ?_ (ao aD);refine ao ?_;refine uB hr (az 3) ?_;refine bj (ao (az 2)) (ao (az 5));refine aC ?_ aG;refine ao ?_;refine Jl hr (az 3) ?_ aD;refine bj (ao (az 2)) (ao (az 4));refine aP ?_;refine bT ?_;refine Jl hr (az 3) ?_ aD;refine bf ?_;refine cJ (ms:=[.s]) (hv:=cZ) cY B.len_ ?_;refine aC (aF 0) aG
abbrev jr:Stmt:=top 46
theorem gj:bK ["_law_script","_law_letters_here","_law_wide_here","_law_size","_law_other","_law_ways","_law_turn","_law_told","_law_way","_law_found","_law_fewest_here","_law_handed"] ["_law_script"] (aY jr):=by trivial
def vL:MS :=
  (aB (aH 1 (aK sU (aj (aa 0) (aj (mC (.int 2)) (aj (mC (.int 44)) au)))))
  (aB (aH 2 (aK vC (aj (aa 0) au)))
  (aB (aH 3 (ak gIx (bY (aj (mC (.int 4)) (aj (mC (.int 3)) (aj (mC (.int 1)) au)))) (ak bD (aK gh (aj (aK eX (aj (aa 0) (aj (mC (.int 1)) au))) (aj (mC (.int 11)) au))) (mC (.int 3)))))
  (aB (aH 4 (dD (cQ (aa 1)) 1 [3] (mgN 0) dN (mSl (dh (aj (ak gIx (aa 0) (mC (.int 0))) (aj (ak gIx (mC (.str [97,98,99,100,101,102,103,104,46])) (ak bD (ak gIx (aa 0) (mC (.int 3))) (mC (.int 9)))) (aj (mC (.str [46])) (aj (ak bc (mC (.int 7)) (ak cz (mC (.int 2)) (ak gIx (aa 0) (mC (.int 3))))) au))))) moN (moS (aa 1)))))
  (aB (aH 5 (bY (aj (mC (.str [99,117,116])) (aj (mC (.str [99,101,108,108,115])) (aj (mC (.str [119,111,114,100,115])) (aj (mC (.str [101,118,101,110])) au))))))
  (aB (aH 6 (ak bD (aK gh (aj (aK eX (aj (aa 0) (aj (mC (.int 1)) au))) (aj (mC (.int 10)) au))) (mC (.int 4))))
  (aB (aH 5 (ak bc (mSl (aa 5) (moS (aa 6)) moN) (mSl (aa 5) moN (moS (aa 6)))))
  (aB (aH 7 yo)
  (aB (b8 (cQ (aa 5)) (mgN 8) (aB (aH 9 (aK dZ (aj (aV gY (aj (aa 1) au)) (aj (aa 2) (aj (aa 8) au)))))
  (aB (bh (cX (du (cj (aK nW (aj (aa 9) (aj (aa 1) (aj (aa 2) (aj (aa 8) au))))))) (aJ (ak gNe (aK dZ (aj (aa 4) (aj (aa 2) (aj (aa 8) au)))) (aa 9)))) (aU (mC (.bl false))) bx)
  (j8 (aa 7) (aa 8) (aa 9)))))
  (aB (aH 10 (aK pZ (aj (aa 1) (aj (aa 2) au))))
  (aB (bh (dC (aJ (ak gGt (aa 10) (mC (.int 0)))) (cX (aJ (ak gNe (aV bC (aj (f9 (aa 7) (mC (.str [119,111,114,100,115]))) au)) (aa 10))) (aJ (ak gLt (aV bC (aj (f9 (aa 7) (mC (.str [101,118,101,110]))) au)) (aa 10))))) (aU (mC (.bl false))) bx)
  (aB (b8 (cQ (bY (aj (mC (.str [101,118,101,110])) (aj (mC (.str [99,117,116])) (aj (mC (.str [119,111,114,100,115])) (aj (mC (.str [99,101,108,108,115])) au)))))) (mgN 8) (aB (aH 11 (aV gY (aj (aa 1) au)))
  (aB (bh (aJ (ak gNe (aK dZ (aj (aa 11) (aj (aa 2) (aj (aa 8) au)))) (f9 (aa 7) (aa 8)))) (aU (mC (.bl false))) bx)
  (aB (rF 11)
  (bh (aJ (ak gNe (aK dZ (aj (aa 11) (aj (aa 2) (aj (aa 8) au)))) (aK dZ (aj (rG (aa 1) (mUn jF (mC (.int 1)))) (aj (aa 2) (aj (aa 8) au)))))) (aU (mC (.bl false))) bx)))))
  (aU (mC (.bl true)))))))))))))))
def vM:List D->aq->Res D:=bH 12 vL
abbrev ZQ(Pr:Program)(w:World)(K:Frag)(mg:Str->Option Value)(base:Heap):Prop:=Can Pr w K mg base "law" ["_law_script"] 10 (vSp K mg [.s] (rV K) vM)
theorem ZR(Du:Def K mg "law" jr)
  (B:bW mg)
  (NK:bL K=true)
  (Dv:KN Pr w K mg base)
  (Dw:KR Pr w K mg base)
  (iy:vz Pr w K mg base)
  (iz:vq Pr w K mg base)
  (nY:Ku Pr w K mg base)
  (Dy:K3 Pr w K mg base)
  (Dz:K4 Pr w K mg base):
  ZQ Pr w K mg base:=by
 refine cP (k:=9) (b:=vL) Du gj (λ_ _ _ _ _ _=>aX λ_=>bZ rfl) [.s] [.v,.v,.v,.v,.v,.v,.v,.v,.v,.v,.o] cB (λ_ _ _ _=>Rp.non) (body:=λf cdv A outer s H E hr P=>?_);refine aM ?_ ?_;refine bu (i:=1) gj.nd rfl (.inl rfl) ?_;refine bf ?_;refine gG Dv (hr.mono (by decide)) ?_;refine aC (aF 0) ?_;refine aC (ao aD) ?_;refine aC (ao aD) aG;refine aM ?_ ?_;refine bu (i:=2) gj.nd rfl (.inl rfl) ?_;refine bR Dw (hr.mono (by decide)) ?_;refine aC (aF 0) aG;refine aM ?_ ?_;refine bu (i:=3) gj.nd rfl (.inr rfl) ?_;refine bj ?_ ?_;refine aL ?_;refine dB 3 ?_;refine aZ aD ?_
 refine aZ aD ?_;refine aZ aD aG;refine aL ?_;refine aR dj ?_ (ao aD);refine ao ?_;refine bR iy (hr.mono (by decide)) ?_;refine aC ?_ ?_;refine ao ?_;refine bR iz (hr.mono (by decide)) ?_;refine aC (aF 0) ?_;refine aC (ao aD) aG;refine aC (ao aD) aG;refine aM ?_ ?_;refine xN (i:=4) (aY jr) ["_law_script","_law_letters_here","_law_wide_here","_law_size","_law_other","_law_ways","_law_turn","_law_told","_law_way","_law_found","_law_fewest_here","_law_handed"] ["_law_one"] [3] gj.nd rfl (.inl rfl) rfl ?_ (λ_ _ _ _ P=>?_) (λ_ _ _ _ P=>?_) (λ_ _ _ _ P=>?_);refine nA (ao (az 1))
 exact di (i:=0) (show(bQ ["_law_script","_law_letters_here","_law_wide_here","_law_size","_law_other","_law_ways","_law_turn","_law_told","_law_way","_law_found","_law_fewest_here","_law_handed"] ["_law_one"] [3]).Nodup by decide +kernel) rfl (.inl rfl)
 exact mR
 refine bf ?_;refine qQ ?_ xQ (mX (az 1));refine ao ?_;refine fW 4 ?_;refine aZ ?_ ?_;refine bj (ao (az 0)) (ao aD);refine aZ ?_ ?_;refine bj (ao (cC [97,98,99,100,101,102,103,104,46])) ?_;refine aL ?_;refine aR dj ?_ (ao aD);refine ao ?_;refine bj (ao (az 0)) (ao aD);refine aZ (cC [46]) ?_;refine aZ ?_ aG;refine bf ?_;refine aR cR (ao aD) ?_;refine aL ?_;refine aR gU (ao aD) ?_;refine ao ?_;refine bj (ao (az 0)) (ao aD);refine aM ?_ ?_;refine bu (i:=5) gj.nd rfl (.inl rfl) ?_;refine bf ?_;refine dB 4 ?_;refine aZ (cC [99,117,116]) ?_;refine aZ (cC [99,101,108,108,115]) ?_
 refine aZ (cC [119,111,114,100,115]) ?_;refine aZ (cC [101,118,101,110]) aG;refine aM ?_ ?_;refine bu (i:=6) gj.nd rfl (.inl rfl) ?_;refine bf ?_;refine aR dj ?_ (ao aD);refine ao ?_;refine bR iy (hr.mono (by decide)) ?_;refine aC ?_ ?_;refine ao ?_;refine bR iz (hr.mono (by decide)) ?_;refine aC (aF 0) ?_;refine aC (ao aD) aG;refine aC (ao aD) aG;refine aM ?_ ?_;refine bu (i:=5) gj.nd rfl (.inl rfl) ?_;refine bf ?_;refine aR cR ?_ ?_;refine aL ?_;refine qQ (ao (az 5)) (mX (az 6)) xQ;refine aL ?_;refine qQ (ao (az 5)) xQ (mX (az 6));refine aM (bu (i:=7) gj.nd rfl (.inl rfl) Xp) ?_
 refine aM ?_ ?_;refine fM rfl ?_ (di (i:=8) gj.nd rfl (.inl rfl)) ?_;refine qX (qU (az 5));refine aM ?_ ?_;refine bu (i:=9) gj.nd rfl (.inl rfl) ?_;refine bf ?_;refine gG nY (hr.mono (by decide)) ?_;refine aC ?_ ?_;refine aL ?_;refine oV (ms:=[.s]) (hv:=qT) xR B.list_ ?_;refine aC (ao (az 1)) aG;refine aC (ao (az 2)) ?_;refine aC (ao (az 8)) aG;refine aM ?_ ?_;refine cI ?_ ?_ cO;refine fX ?_;refine iQ ?_ ?_;refine lB ?_;refine gQ ?_;refine ao ?_;refine bR Dy (hr.mono (by decide)) ?_;refine aC (ao (az 9)) ?_;refine aC (ao (az 1)) ?_;refine aC (ao (az 2)) ?_
 refine aC (ao (az 8)) aG;refine mL ?_;refine bO (jG hr) ?_ (ao (az 9)) (bG _);refine aL ?_;refine gG nY (hr.mono (by decide)) ?_;refine aC (ao (az 4)) ?_;refine aC (ao (az 2)) ?_;refine aC (ao (az 8)) aG;refine aP (bT gq);refine aP ?_;refine Jk hr (az 7) (az 8) (az 9);refine aM ?_ ?_;refine bu (i:=10) gj.nd rfl (.inl rfl) ?_;refine bR Dz (hr.mono (by decide)) ?_;refine aC (ao (az 1)) ?_;refine aC (ao (az 2)) aG;refine aM ?_ ?_;refine cI ?_ ?_ cO;refine fX ?_;refine mO ?_ ?_;refine bO jY (ao (az 10)) (ao aD) (bG _);refine mK ?_;refine fX ?_
 refine iQ ?_ ?_;refine bO (jG hr) ?_ (ao (az 10)) (bG _);refine aL ?_;refine cJ (ms:=[.s]) (hv:=cZ) cY B.len_ ?_;refine aC ?_ aG;refine ao ?_;refine uB hr (az 7) (cC [119,111,114,100,115]);refine mL ?_;refine bO mV ?_ (ao (az 10)) (bG _);refine aL ?_;refine cJ (ms:=[.s]) (hv:=cZ) cY B.len_ ?_;refine aC ?_ aG;refine ao ?_;refine uB hr (az 7) (cC [101,118,101,110]);refine aP (bT gq);refine aM ?_ ?_;refine fM rfl ?_ (di (i:=8) gj.nd rfl (.inl rfl)) ?_;refine qX ?_;refine qU ?_;refine bf ?_;refine dB 4 ?_;refine aZ (cC [101,118,101,110]) ?_;refine aZ (cC [99,117,116]) ?_
 refine aZ (cC [119,111,114,100,115]) ?_;refine aZ (cC [99,101,108,108,115]) aG;refine aM ?_ ?_;refine jX (i:=11) gj.nd rfl (.inl rfl) ?_;refine oV (ms:=[.s]) (hv:=qT) xR B.list_ ?_;refine aC (ao (az 1)) aG;refine aM ?_ ?_;refine cI ?_ ?_ cO;refine bO (jG hr) ?_ ?_ (bG _);refine aL ?_;refine gG nY (hr.mono (by decide)) ?_;refine aC (aF 11) ?_;refine aC (ao (az 2)) ?_;refine aC (ao (az 8)) aG;refine ao ?_;refine uB hr (az 7) (az 8);refine aP (bT gq);refine aM (Xu 11) ?_;refine aP ?_;refine cI ?_ ?_ cO;refine bO (jG hr) ?_ ?_ (bG _);refine aL ?_;refine gG nY (hr.mono (by decide)) ?_
 refine aC (aF 11) ?_;refine aC (ao (az 2)) ?_;refine aC (ao (az 8)) aG;refine aL ?_;refine gG nY (hr.mono (by decide)) ?_;refine aC ?_ ?_;refine aL ?_;refine Xx (ao (az 1)) ?_;refine bf ?_;refine ug (ao aD);refine aC (ao (az 2)) ?_;refine aC (ao (az 8)) aG;refine aP (bT gq);refine aP (bT gq)
end
theorem bJ{g:D->D->Option D}{a b:L2.M D}{ρ:aA}{O:aq}{x y z:D}(ha:a ρ O=.ok x O)(hb:b ρ O=.ok y O)(h:g (bB O x) (bB O y)=some z):ak g a b ρ O=.ok z O:=by
 rw[dO,ha,aQ,hb,aQ,h,dz]
theorem ma1{a:L2.M D}{ρ:aA}{O:aq}{x:D}(h:a ρ O=.ok x O):aj a au ρ O=.ok [x] O:=by
 rw[eV,h,aQ,dX,aQ]
theorem maS{a:L2.M D}{r:L2.M (List D)}{ρ:aA}{O:aq}{x:D}{xs:List D}(h:a ρ O=.ok x O)(h2:r ρ O=.ok xs O):aj a r ρ O=.ok (x::xs) O:=by
 rw[eV,h,aQ,h2,aQ]
theorem p6{m:L2.M (List D)}{ρ:aA}{O:aq}{xs:List D}(h:m ρ O=.ok xs O)(hl:xs.length<=1000000):dh m ρ O=.ok (.tup xs) O:=by
 rw[yx,h,aQ,if_pos hl]
theorem p7{m:L2.M (List D)}{ρ:aA}{O:aq}{xs:List D}(h:m ρ O=.ok xs O)(hl:xs.length<=1000000):bY m ρ O=.ok (.lst xs) O:=by
 rw[rH,h,aQ,if_pos hl]
theorem kY{g:List D->Option D}{m:L2.M (List D)}{ρ:aA}{O:aq}{xs:List D}{z:D}(h:m ρ O=.ok xs O)(hg:g (xs.map (bB O))=some z):aV g m ρ O=.ok z O:=by
 rw[iV,h,aQ,hg,dz]
theorem DG{i:Nat}{m:L2.M D}{ρ:aA}{O:aq}{d:D}{ds:List D}(hm:m ρ O=.ok d O)(h:ρ[i]?=some (some (.lst ds)))(hl:ds.length<1000000):dW i m ρ O=.nx (ρ.set i (some (.lst (ds++[d])))) O:=by
 rw[yI,hm,rP h hl]
theorem cG{i:Nat}{m:L2.M D}{ρ:aA}{O:aq}{d:D}(h:m ρ O=.ok d O):aH i m ρ O=.nx (ρ.set i (some d)) O:=by
 rw[fP,h,fQ]
theorem bV{c:List D->aq->Res D}{ma:L2.M (List D)}{ρ:aA}{O:aq}{ds:List D}(h:ma ρ O=.ok ds O):aK c ma ρ O=c ds O:=by
 rw[iU,h,aQ]
theorem lU{m:L2.M D}{ρ:aA}{O:aq}{b:Bool}(h:m ρ O=.ok (.bl b) O):aJ m ρ O=.ok b O:=by
 rw[gf,h,aQ,gK]
theorem jt{t:L2.M Bool}{a b:MS}{ρ:aA}{O:aq}(h:t ρ O=.ok true O):bh t a b ρ O=a ρ O:=by
 rw[ig,h,iW,if_pos rfl]
theorem if_no{t:L2.M Bool}{a b:MS}{ρ:aA}{O:aq}(h:t ρ O=.ok false O):bh t a b ρ O=b ρ O:=by
 rw[ig,h,iW,if_neg zh]
theorem gk{m:L2.M D}{ρ:aA}{O:aq}{l:List D}(h:m ρ O=.ok (.lst l) O):aV bC (aj m au) ρ O=.ok (.int (l.length:Int)) O:=kY (ma1 h) rfl
theorem ZV{m:L2.M D}{ρ:aA}{O:aq}{n:Nat}(h:m ρ O=.ok (.int (n:Int)) O)(hn:n<=1000000):eQ (aj m au) ρ O=.ok (bI 0 n) O:=by
 rw[JC,ma1 h,aQ];show(if(n:Int)<=1000000000/\-1000000000<=(n:Int) then Res.ok (bI 0 (n:Int).toNat) O else .no)=_;rw[if_pos ⟨by omega,by omega⟩,Int.toNat_natCast]
theorem nZ{a b:L2.M D}{ρ:aA}{O:aq}{i j:Int}(ha:a ρ O=.ok (.int i) O)(hb:b ρ O=.ok (.int j) O)(hj:0<j):ak bD a b ρ O=.ok (.int (i % j)) O:=bJ ha hb (by rw[cT,cT,pH,if_pos hj])
theorem vN{a b:L2.M D}{ρ:aA}{O:aq}{i j:Int}(ha:a ρ O=.ok (.int i) O)(hb:b ρ O=.ok (.int j) O):ak bc a b ρ O=.ok (.int (i+j)) O:=bJ ha hb rfl
theorem K5{a b:L2.M D}{ρ:aA}{O:aq}{i j:Int}(ha:a ρ O=.ok (.int i) O)(hb:b ρ O=.ok (.int j) O):ak gw a b ρ O=.ok (.int (i - j)) O:=bJ ha hb rfl
theorem vO{a b:L2.M D}{ρ:aA}{O:aq}{i j:Int}(ha:a ρ O=.ok (.int i) O)(hb:b ρ O=.ok (.int j) O):aJ (ak gLt a b) ρ O=.ok (decide (i<j)) O:=lU (bJ ha hb rfl)
theorem p8{a b:L2.M D}{ρ:aA}{O:aq}{i j:Int}(ha:a ρ O=.ok (.int i) O)(hb:b ρ O=.ok (.int j) O):aJ (ak gEq a b) ρ O=.ok (decide (i=j)) O:=lU (bJ ha hb rfl)
theorem K6{α:Type}(l:List α)(a b:Nat):eE l (some (a:Int)) (some (b:Int))=(l.drop a).take (b - a):=by
 unfold eE;rw[HT.sIx_nat,HT.sIx_nat]
 by_cases h:a<=l.length
 ·rw[Nat.min_eq_left h]
  by_cases hb:b<=l.length
  ·rw[Nat.min_eq_left hb]
  ·rw[Nat.min_eq_right (by omega),List.take_of_length_le (by rw[List.length_drop];omega),List.take_of_length_le (by rw[List.length_drop];omega)]
 ·rw[Nat.min_eq_right (show l.length<=a by omega),List.drop_eq_nil_of_le (show l.length<=l.length by omega),List.drop_eq_nil_of_le (show l.length<=a by omega)];simp
@[simp] theorem QA3{a:Nat}:eE [a] none (some 2)=[a]:=rfl
@[simp] theorem Qz0{i:Int}:cz (.int i) (.int 48271)=some (.int (i * 48271)):=lK (.inr ⟨by decide,by decide⟩)
@[simp] theorem QAg{i:Int}:cz (.int i) (.int 7919)=some (.int (i * 7919)):=lK (.inr ⟨by decide,by decide⟩)
@[simp] theorem ZW{i:Int}:cz (.int 7) (.int i)=some (.int (7 * i)):=lK (.inl ⟨by decide,by decide⟩)
theorem ZX{l:List Nat}{n:Int}(h:-1000000<n/\n<1000000/\l.length * n.toNat<=16777216):cz (.str l) (.int n)=some (.str (List.replicate n.toNat l).flatten):=by
 show(if -1000000<n/\n<1000000/\l.length * n.toNat<=16777216 then _ else _)=_;rw[if_pos h]
@[simp] theorem vP{a:D}{r:List D}:gIx (.tup (a::r)) (.int 0)=some a:=(Ye (ds:=a::r)).trans (km (xs:=a::r) (j:=0))
theorem sW(n k:Int)(h0:0<=k)(h1:k<=1000000)(O:aq):gh [.int n,.int k] O=.ok (.int (mix n k)) O:=Yq n k h0 h1 O
theorem sX(ns:List Int)(k:Int)(h0:0<=k)(h1:k<=1000)(O:aq):∃v,eX [.lst (ns.map D.int),.int k] O=.ok (.int v) O:=by
 by_cases hk:k<ns.length
 ·obtain⟨x,hx,ex⟩:=rN (xs:=ns.map D.int) h0 (by simpa using hk);obtain⟨n,_,rfl⟩:=zH.mp ex;exact⟨n,by simp[eX,sS,hk,kj,hx]⟩
 ·have hkk:=lK (i:=k) (j:=k) (.inl ⟨by omega,by omega⟩)
  by_cases hn:0<ns.length
  ·have hn':(0:Int)<ns.length:=by omega
   obtain⟨x,hx,ex⟩:=rN (xs:=ns.map D.int) (i:=k % (ns.length:Int)) (zV _ (by omega)) (by simpa using zX k hn');obtain⟨n,_,rfl⟩:=zH.mp ex;exact⟨(k * k * 7919+104729+n % 1000003 * 48271) * 48271 % 2147483647,by simp[eX,sS,hk,hkk,kj,hx,hn]⟩
  ·have:ns=[]:=List.eq_nil_of_length_eq_zero (by omega)
   subst this;exact⟨(k * k * 7919+104729) * 48271 % 2147483647,by simp[eX,sS,hkk];omega⟩
theorem vQ{lo:Int}{n i:Nat}{d:D}(h:(bI lo n)[i]?=some d):i<n/\d=.int (lo+i):=by
 unfold bI at h;rw[zw] at h
 cases q:(List.range n)[i]? with
 |none=>rw[q] at h;cases h
 |some c =>
  rw[q] at h;obtain⟨a,b⟩:=zl.mp q;simp at a b;simp at h;exact⟨a,by rw[<-h,b]⟩
theorem ZZ{m:Int}(h0:0<=m)(h1:m<2147483629):cz (.int m) (.int m)=some (.int (m * m)):=lK (.inl ⟨by omega,by omega⟩)
theorem Z0(n:Int)(O:aq):∃xs:List Int,xs.length=7/\pW [.int n,.int 7] O=.ok (.lst (xs.map D.int)) O:=by
 obtain⟨ρ',O',e,rfl,m,r,ys,o5,rfl,hl⟩:=kE (g:=mgN 5)
  (b:=bh (aJ (ak gGt (aa 0) (ak eG (mC (.int 10)) (mC (.int 18))))) (aB (dW 4 (ak bD (aa 3) (ak eG (mC (.int 10)) (mC (.int 9)))))
  (aH 3 (ak fY (aa 3) (ak eG (mC (.int 10)) (mC (.int 9)))))) (aB (aH 2 (ak bD (ak bc (ak cz (aa 2) (mC (.int 48271))) (mC (.int 104729))) (mC (.int 2147483629))))
  (dW 4 (ak fY (ak bD (ak cz (aa 2) (aa 2)) (mC (.int 998244353))) (mC (.int 11))))))
  (λi ρ O'=>O'=O/\∃m r ys o5,ρ=[some (.int n),some (.int 7),some (.int m),some (.int r),some (.lst (ys.map D.int)),o5]/\ys.length=i) (bI 0 7) 0
  [some (.int n),some (.int 7),some (.int ((n % 2147483647+7919) * 48271+104729)),some (.int n),some (.lst []),none] O ⟨rfl,_,_,[],_,rfl,rfl⟩ (by
   rintro i d ρ O' hi ⟨rfl,m,r,ys,o5,rfl,hl⟩;have hi':=(vQ hi).1;refine⟨_,rfl,?_⟩
   have hz:(ys.map D.int).length<1000000:=by rw[zf];omega
   by_cases hn:n>1000000000000000000
   ·refine⟨_,_,.inl ?_,rfl,m,r / 1000000000,ys++[r % 1000000000],some d,rfl,by simp[hl]⟩;simp[hn];rw[rP (ds:=ys.map D.int) rfl hz];simp
   ·have h0:0<=(m * 48271+104729) % 2147483629:=zV _ (by decide);have h1:=zX (m * 48271+104729) (show(0:Int)<2147483629 by decide);refine⟨_,_,.inl ?_,rfl,(m * 48271+104729) % 2147483629,r,ys++[(m * 48271+104729) % 2147483629 * ((m * 48271+104729) % 2147483629) % 998244353 / 11],some d,rfl,by simp[hl]⟩;simp[hn,ZZ h0 h1];rw[rP (ds:=ys.map D.int) rfl hz]
    simp)
 refine⟨ys,by simpa [bI] using hl,?_⟩;simp[pW,CV,e]
theorem Z1{l:List Nat}{v:Int}(hl:l.length<=1000000)(hn:0<l.length):∃c,c∈l/\gIx (.str l) (.int (v % (l.length:Int)))=some (.str [c]):=by
 obtain⟨c,h1,h2⟩:=rN (xs:=l) (i:=v % (l.length:Int)) (zV _ (by omega)) (zX _ (by omega));exact⟨c,h2,by rw[yG,if_pos hl,h1];rfl⟩
theorem ixS{l:List Nat}{v n:Int}(hl:l.length<=1000000)(h:(l.length:Int)=n)(hn:0<n):∃c,c∈l/\gIx (.str l) (.int (v % n))=some (.str [c]):=by
 obtain⟨c,h1,h2⟩:=rN (xs:=l) (i:=v % n) (zV _ (by omega)) (by rw[h];exact zX _ hn);exact⟨c,h2,by rw[yG,if_pos hl,h1];rfl⟩
theorem ixL{l:List D}{v n:Int}(h:(l.length:Int)=n)(hn:0<n):∃c,c∈l/\gIx (.lst l) (.int (v % n))=some c:=by
 obtain⟨c,h1,h2⟩:=rN (xs:=l) (i:=v % n) (zV _ (by omega)) (by rw[h];exact zX _ hn);exact⟨c,h2,h1⟩
def cU:List Nat:=[97,98,99,100,101,102,103,104,105,106,107,108,109,110,111,112,113,114,115,116,117,118,119,120,121,122]
def cV:List Nat:=[65,66,67,68,69,70,71,72,73,74,75,76,77,78,79,80,81,82,83,84,85,86,87,88,89,90]
def others:List Nat:=[33,34,35,36,38,39,40,41,42,43,44,45,46,47,48,49,50,51,52,53,54,55,56,57,58,59,60,61,62,63,64,91,92,93,94,95,96,123,124,125]
structure Sgn(s:List Nat):Prop where
 pos:0<s.length
 le:s.length<=100
 ok:∀c∈s,32<=c/\c<=125
theorem DK:Sgn cU:=⟨by decide,by decide,by decide⟩
theorem Z2:Sgn cV:=⟨by decide,by decide,by decide⟩
theorem Z3:Sgn others:=⟨by decide,by decide,by decide⟩
theorem Z4:Sgn (cU++cV):=⟨by decide,by decide,by decide⟩
theorem K7:Sgn [32]:=⟨by decide,by decide,by decide⟩
def iB(s:List Nat)(v:Int):Nat:=(s[(v % (s.length:Int)).toNat]?).getD 0
theorem DN{s:List Nat}(h:Sgn s)(v:Int):iB s v∈s/\gIx (.str s) (.int (v % (s.length:Int)))=some (.str [iB s v]):=by
 obtain⟨c,h1,h2⟩:=Z1 (l:=s) (v:=v) (by have:=h.le;omega) h.pos;have h0:0<=v % (s.length:Int):=zV _ (by have:=h.pos;omega);obtain⟨j,hj⟩:=Int.eq_ofNat_of_zero_le h0
 have e:gIx (.str s) (.int (v % (s.length:Int)))=(s[j]?).map (λc=>D.str [c]):=by
  rw[yG,if_pos (by have:=h.le;omega),hj,km]
 rw[h2] at e;unfold iB;rw[hj,Int.toNat_natCast]
 cases q:s[j]? with
 |none=>rw[q] at e;cases e
 |some x =>
  rw[q] at e;cases e;rw[<-hj];exact⟨h1,h2⟩
theorem K8(w:Nat):((List.range w).map λ_=>1).sum=w:=by rw[List.map_const',List.sum_replicate_nat,List.length_range,Nat.mul_one]
def DP:MS:=(aB (aH 7 (uq (dD (eQ (aj (aa 5) au)) 1 [0,6] (mgN 0) dN (ak gIx (aa 2) (ak bD (ak bc (ak gIx (aa 1) (mC (.int 2))) (ak cz (mC (.int 7)) (aa 0))) (aV bC (aj (aa 2) au)))))))
  (aU (ak bc (aa 7) (ak cz (mC (.str [32])) (ak fY (ak bD (ak gIx (aa 0) (mC (.int 3))) (mC (.int 5))) (mC (.int 2)))))))
theorem Z5(X:D)(hX:∀O,bB O X=X){x0 x1 x2 x3:Int}(i0:gIx X (.int 0)=some (.int x0))(i1:gIx X (.int 1)=some (.int x1))(i2:gIx X (.int 2)=some (.int x2))(i3:gIx X (.int 3)=some (.int x3))(O:aq):∃t:List Nat,t.length<=60/\(∀c∈t,32<=c/\c<=125)/\pX [X] O=.ok (.str t) O:=by
 obtain⟨m,hm,em⟩:∃m:Int,(1<=m/\m<=40)/\gIx (.lst [.int 4,.int 6,.int 9,.int 40,.int 4,.int 3,.int 1,.int 2]) (.int (x0 % 8))=some (.int m):=by
  obtain⟨c,hc,ec⟩:=ixL (l:=[.int 4,.int 6,.int 9,.int 40,.int 4,.int 3,.int 1,.int 2]) (v:=x0) (n:=8) rfl (by decide);simp only[zk,List.not_mem_nil,or_false] at hc
  rcases hc with rfl | rfl | rfl | rfl | rfl | rfl | rfl | rfl
  all_goals exact⟨_,by decide,ec⟩
 obtain⟨s,hs,es⟩:∃s:List Nat,Sgn s/\gIx (.lst [.str cU,.str cU,.str (cU++cV),.str cU,.str cV,.str [32],.str [32],.str others]) (.int (x0 % 8))=some (.str s):=by
  obtain⟨c,hc,ec⟩:=ixL (l:=[.str cU,.str cU,.str (cU++cV),.str cU,.str cV,.str [32],.str [32],.str others]) (v:=x0) (n:=8) rfl (by decide);simp only[zk,List.not_mem_nil,or_false] at hc
  rcases hc with rfl | rfl | rfl | rfl | rfl | rfl | rfl | rfl
  ·exact⟨_,DK,ec⟩
  ·exact⟨_,DK,ec⟩
  ·exact⟨_,Z4,ec⟩
  ·exact⟨_,DK,ec⟩
  ·exact⟨_,Z2,ec⟩
  ·exact⟨_,K7,ec⟩
  ·exact⟨_,K7,ec⟩
  ·exact⟨_,Z3,ec⟩
 have hm0:(0:Int)<m:=by omega
 have w0:=zV x1 (show m≠0 by omega);have w1:=zX x1 hm0;obtain⟨w,hw⟩:=Int.eq_ofNat_of_zero_le (show 0<=1+x1 % m by omega)
 have hw40:w<=40:=by omega
 have z1:cU.length+cV.length<=1000000:=by decide
 have pre:pX [X] O=bA (DP [some X,some (.str cU),some (.str cV),some (.str others),some (.int (x0 % 8)),some (.int (w:Int)),some (.str s),none] O):=by
  have s4:=cG (i:=4) (nZ (b:=mC (.int 8)) (bJ (a:=aa 0) (b:=mC (.int 0)) (ρ:=[some X,some (.str cU),some (.str cV),some (.str others),none,none,none,none]) (O:=O) (x:=X) rfl rfl (by rw[hX];exact i0)) rfl (by decide));have s5:=cG (i:=5) (vN (a:=mC (.int 1)) rfl (nZ (bJ (a:=aa 0) (b:=mC (.int 1)) (ρ:=[some X,some (.str cU),some (.str cV),some (.str others),some (.int (x0 % 8)),none,none,none]) (O:=O) (x:=X) rfl rfl (by rw[hX];exact i1)) (bJ (a:=bY (aj (mC (.int 4)) (aj (mC (.int 6)) (aj (mC (.int 9)) (aj (mC (.int 40)) (aj (mC (.int 4)) (aj (mC (.int 3)) (aj (mC (.int 1)) (aj (mC (.int 2)) au))))))))) (b:=aa 4) (y:=.int (x0 % 8)) (p7 rfl (by decide)) rfl em) hm0))
  rw[hw] at s5;have s6:=cG (i:=6) (bJ (g:=gIx) (a:=bY (aj (aa 1) (aj (aa 1) (aj (ak bc (aa 1) (aa 2)) (aj (aa 1) (aj (aa 2) (aj (mC (.str [32])) (aj (mC (.str [32])) (aj (aa 3) au))))))))) (b:=aa 4) (ρ:=[some X,some (.str cU),some (.str cV),some (.str others),some (.int (x0 % 8)),some (.int (w:Int)),none,none]) (O:=O) (y:=.int (x0 % 8)) (p7 (xs:=[.str cU,.str cU,.str (cU++cV),.str cU,.str cV,.str [32],.str [32],.str others]) (maS rfl (maS rfl (maS (bJ (x:=.str cU) (y:=.str cV) rfl rfl (by rw[kh,kh,JD,if_pos z1])) (maS rfl (maS rfl (maS rfl (maS rfl (ma1 rfl)))))))) (show(8:Nat)<=1000000 by decide)) rfl es)
  show bA (aB (aH 1 (mC (.str cU))) (aB (aH 2 (mC (.str cV))) (aB (aH 3 (mC (.str others))) (aB _ (aB _ (aB _ DP))))) [some X,none,none,none,none,none,none,none] O)=_;rw[bz,show aH 1 (mC (.str cU)) [some X,none,none,none,none,none,none,none] O=.nx [some X,some (.str cU),none,none,none,none,none,none] O from rfl,bF,bz,show aH 2 (mC (.str cV)) [some X,some (.str cU),none,none,none,none,none,none] O=.nx [some X,some (.str cU),some (.str cV),none,none,none,none,none] O from rfl,bF,bz,show aH 3 (mC (.str others)) [some X,some (.str cU),some (.str cV),none,none,none,none,none] O=.nx [some X,some (.str cU),some (.str cV),some (.str others),none,none,none,none] O from rfl,bF,bz,s4,bF,bz]
  show bA (g8 (aH 5 _ [some X,some (.str cU),some (.str cV),some (.str others),some (.int (x0 % 8)),none,none,none] O) _)=_;rw[s5,bF,bz];show bA (g8 (aH 6 _ [some X,some (.str cU),some (.str cV),some (.str others),some (.int (x0 % 8)),some (.int (w:Int)),none,none] O) _)=_;rw[s6,bF];rfl
 have ec:dw (mgN 0) dN (ak gIx (aa 2) (ak bD (ak bc (ak gIx (aa 1) (mC (.int 2))) (ak cz (mC (.int 7)) (aa 0))) (aV bC (aj (aa 2) au)))) (bI 0 w) [none,some X,some (.str s)] O []=.ok ((List.range w).map λ(k:Nat)=>.str [iB s (x2+7 * (0+(k:Int)))]) O:=by
  unfold bI
  rw[lL (λρ=>∃a,ρ=[a,some X,some (.str s)]) (λ(k:Nat)=>D.int (0+(k:Int))) (λ(k:Nat)=>D.str [iB s (x2+7 * (0+(k:Int)))]) (List.range w) _ O [] ⟨_,rfl⟩ (by
   rintro k hk ρ ⟨a,rfl⟩;refine⟨_,rfl,⟨_,rfl⟩,rfl,?_⟩;have hp:=(DN hs (x2+7 * (0+(k:Int)))).2
   have hl:s.length<=1000000:=by have:=hs.le;omega
   have hl':(0:Int)<s.length:=by have:=hs.pos;omega
   simp only[dO,c7,zU,zC,zA,m_c,aQ,hX,cT,kh,i2,dz,ZW,iY,iV,eV,dX,zd,zJ,Yg,if_pos hl,pH,if_pos hl',hp])]
  simp
 have e2:=JL (f:=λk:Nat=>[iB s (x2+7 * (0+(k:Int)))]) (List.range w)
 have z0:(bI 0 w).length<=1000000:=by rw[jM];omega
 have z3:((((List.range w).map λk:Nat=>[iB s (x2+7 * (0+(k:Int)))]).map List.length).sum)<=1000000:=by
  rw[zP]
  have:(List.length ∘ λk:Nat=>[iB s (x2+7 * (0+(k:Int)))])=λ_=>1:=rfl
  rw[this,K8];omega
 have y0:=zV x3 (show(5:Int)≠0 by decide);have y1:=zX x3 (show(0:Int)<5 by decide)
 have y2:0<=x3 % 5 / 2:=by omega
 have y3:x3 % 5 / 2<=2:=by omega
 have gm:=ZX (l:=[32]) (n:=x3 % 5 / 2) ⟨by omega,by omega,by simp;omega⟩
 have tl:(((List.range w).map λk:Nat=>[iB s (x2+7 * (0+(k:Int)))]).flatten).length=w:=by
  rw[List.length_flatten,zP]
  have:(List.length ∘ λk:Nat=>[iB s (x2+7 * (0+(k:Int)))])=λ_=>1:=rfl
  rw[this,K8]
 have rl:((List.replicate (x3 % 5 / 2).toNat [32]).flatten).length<=2:=by
  simp
  omega
 refine⟨((List.range w).map λk:Nat=>[iB s (x2+7 * (0+(k:Int)))]).flatten++(List.replicate (x3 % 5 / 2).toNat [32]).flatten,by rw[zz,tl];omega,λc hc=>?_,?_⟩
 ·rcases zE.mp hc with hc | hc
  ·obtain⟨l,hl,hcl⟩:=List.mem_flatten.mp hc;obtain⟨k,_,rfl⟩:=zH.mp hl;rw[zn.mp hcl];exact hs.ok _ (DN hs _).1
  ·obtain⟨l,hl,hcl⟩:=List.mem_flatten.mp hc;rw[(List.mem_replicate.mp hl).2] at hcl;rw[zn.mp hcl];decide
 ·rw[pre]
  have hr:(w:Int)<=1000000000/\-1000000000<=(w:Int):=by omega
  have ec':dw (mgN 0) dN (ak gIx (aa 2) (ak bD (ak bc (ak gIx (aa 1) (mC (.int 2))) (ak cz (mC (.int 7)) (aa 0))) (aV bC (aj (aa 2) au)))) (bI 0 w) (jE 1 [0,6] [some X,some (.str cU),some (.str cV),some (.str others),some (.int (x0 % 8)),some (.int (w:Int)),some (.str s),none]) O []=_:=ec;unfold DP;simp only[bz,fP,Ym,uH,JC,eV,dX,c7,zC,zA,aQ,if_pos hr,Int.toNat_natCast,if_pos z0,ec',hX,eU,Yl,e2,Yk,if_pos z3,fQ,bF,zU,zY,fG,dO,m_c,kh,cT,i3,dz,pH,JG];simp only[show(0:Int)<5 from by decide,if_true,dz,aQ,cT,JG,show(0:Int)<2 from by decide,show(2:Int)<1073741824 from by decide,and_self,gm,kh,JD]
  rw[if_pos (by rw[tl];omega)];rfl
abbrev LT:=Nat×List D
def dL(x:LT):D:=.tup (.str [x.1]::x.2)
def OkL(x:LT):Prop:=∃a b p,x.2=[.str [a],.str [b],.int p]
theorem signs_get{t:List Nat}{d:D}{i:Nat}(h:(fZ t)[i]?=some d):∃c,c∈t/\d=.str [c]:=by
 unfold fZ at h;rw[zw] at h
 cases q:t[i]? with
 |none=>rw[q] at h;cases h
 |some c =>
  rw[q] at h;simp at h;exact⟨c,zM q,h.symm⟩
def iC:List Nat:=[97,98,99,100,101,102,103,104,46]
def sY:MS:=aB (bh (aJ (ak gLt (aV bC (aj (aa 3) au)) (aa 2))) (dW 3 (dh (aj (aa 7) (aj (ak gIx (mC (.str iC)) (ak bD (ak gIx (aa 6) (mC (.int 4))) (mC (.int 9)))) (aj (ak gIx (mC (.str iC)) (ak bD (ak gIx (aa 6) (mC (.int 5))) (mC (.int 9)))) (aj (aa 4) au)))))) bx)
  (aH 4 (ak bc (ak bc (aa 4) (mC (.int 1))) (ak bD (ak gIx (aa 6) (mC (.int 6))) (mC (.int 3)))))
def vR:MS:=aB (aH 6 (aK pW (aj (aK eX (aj (aa 0) (aj (ak bc (aa 1) (aa 5)) au))) (aj (mC (.int 7)) au))))
  (b8 (cQ (aK pX (aj (aa 6) au))) (mgN 7) sY)
theorem Z6(A X T:D)(a5:Option D)(hX:∀O,bB O X=X){x4 x5 x6:Int}(i4:gIx X (.int 4)=some (.int x4))(i5:gIx X (.int 5)=some (.int x5))(i6:gIx X (.int 6)=some (.int x6)){c4 c5:Nat}(e4:gIx (.str iC) (.int (x4 % 9))=some (.str [c4]))(e5:gIx (.str iC) (.int (x5 % 9))=some (.str [c5]))(h4:c4<=125)(h5:c5<=125)
  (most:Nat) (h2:most<=1000) (ls:List LT) (hl:ls.length<=most) (hok:∀x∈ls,OkL x) (p:Int) (c:Nat) (oc:32<=c/\c<=125) (O:aq):
  ∃ls2:List LT,ls2.length<=most/\(∀x∈ls2,OkL x)/\sY [some A,some T,some (.int (most:Int)),some (.lst (ls.map dL)),some (.int p),a5,some X,some (.str [c])] O=.nx [some A,some T,some (.int (most:Int)),some (.lst (ls2.map dL)),some (.int (p+1+x6 % 3)),a5,some X,some (.str [c])] O:=by
 have hlen:=gk (m:=aa 3) (ρ:=[some A,some T,some (.int (most:Int)),some (.lst (ls.map dL)),some (.int p),a5,some X,some (.str [c])]) (O:=O) (l:=ls.map dL) rfl;rw[zf] at hlen;have t:=vO (b:=aa 2) (j:=(most:Int)) hlen rfl
 have s4:∀L:D,aH 4 (ak bc (ak bc (aa 4) (mC (.int 1))) (ak bD (ak gIx (aa 6) (mC (.int 6))) (mC (.int 3)))) [some A,some T,some (.int (most:Int)),some L,some (.int p),a5,some X,some (.str [c])] O=.nx [some A,some T,some (.int (most:Int)),some L,some (.int (p+1+x6 % 3)),a5,some X,some (.str [c])] O:=λL =>
  cG (vN (vN (i:=p) rfl rfl) (nZ (bJ (x:=X) rfl rfl (by rw[hX];exact i6)) rfl (by decide)))
 by_cases hm:ls.length<most
 ·have m4:=bJ (g:=gIx) (a:=mC (.str iC)) rfl (nZ (b:=mC (.int 9)) (bJ (a:=aa 6) (b:=mC (.int 4)) (ρ:=[some A,some T,some (.int (most:Int)),some (.lst (ls.map dL)),some (.int p),a5,some X,some (.str [c])]) (O:=O) (x:=X) rfl rfl (by rw[hX];exact i4)) rfl (by decide)) e4;have m5:=bJ (g:=gIx) (a:=mC (.str iC)) rfl (nZ (b:=mC (.int 9)) (bJ (a:=aa 6) (b:=mC (.int 5)) (ρ:=[some A,some T,some (.int (most:Int)),some (.lst (ls.map dL)),some (.int p),a5,some X,some (.str [c])]) (O:=O) (x:=X) rfl rfl (by rw[hX];exact i5)) rfl (by decide)) e5;have s3:=DG (i:=3) (ds:=ls.map dL) (p6 (maS (a:=aa 7) (x:=.str [c]) rfl (maS m4 (maS m5 (ma1 (a:=aa 4) (x:=.int p) rfl)))) (show(4:Nat)<=1000000 by decide)) rfl (by rw[zf];omega)
  refine⟨ls++[(c,[.str [c4],.str [c5],.int p])],by rw[zz];exact hm,λx hx=>?_,?_⟩
  ·rcases zE.mp hx with hx | hx
   ·exact hok x hx
   ·rw[zn.mp hx];exact⟨c4,c5,p,rfl⟩
  ·unfold sY;rw[bz,jt (by rw[t,zj (by omega)]),s3,bF,zQ];exact s4 _
 ·refine⟨ls,hl,hok,?_⟩;unfold sY;rw[bz,if_no (by rw[t,zg (by omega)]),dY,bF];exact s4 _
theorem ix7{xs:List Int}(h:xs.length=7)(k:Nat)(hk:k<7):∃x:Int,gIx (.lst (xs.map D.int)) (.int (k:Int))=some (.int x):=by
 refine⟨xs[k],?_⟩;rw[kj,km,zw,zp (by omega)];rfl
theorem K9:∀c∈iC,c<=125:=by decide
theorem Z7(ns:List Int)(at_:Nat)(h1:at_<=100)(most:Nat)(h2:most<=1000)(i:Nat)(hi:i<40)(ls:List LT)(hl:ls.length<=most)(hok:∀x∈ls,OkL x)(p:Int)(a6 a7:Option D)(O:aq):
  ∃(ls2:List LT) (p2:Int) (b6 b7:Option D),ls2.length<=most/\(∀x∈ls2,OkL x)/\vR [some (.lst (ns.map D.int)),some (.int (at_:Int)),some (.int (most:Int)),some (.lst (ls.map dL)),some (.int p),some (.int (0+(i:Int))),a6,a7] O=.nx [some (.lst (ns.map D.int)),some (.int (at_:Int)),some (.int (most:Int)),some (.lst (ls2.map dL)),some (.int p2),some (.int (0+(i:Int))),b6,b7] O:=by
 obtain⟨v,ev⟩:=sX ns ((at_:Int)+(0+(i:Int))) (by omega) (by omega) O;obtain⟨xs,hx,ex⟩:=Z0 v O;obtain⟨x0,i0⟩:=ix7 hx 0 (by decide);obtain⟨x1,i1⟩:=ix7 hx 1 (by decide);obtain⟨x2,i2⟩:=ix7 hx 2 (by decide);obtain⟨x3,i3⟩:=ix7 hx 3 (by decide);obtain⟨x4,i4⟩:=ix7 hx 4 (by decide);obtain⟨x5,i5⟩:=ix7 hx 5 (by decide);obtain⟨x6,i6⟩:=ix7 hx 6 (by decide)
 have hX:∀O,bB O (.lst (xs.map D.int))=.lst (xs.map D.int):=λ_=>rfl
 generalize (D.lst (xs.map D.int))=X at ex i0 i1 i2 i3 i4 i5 i6 hX
 obtain⟨t,ht,htok,et⟩:=Z5 X hX i0 i1 i2 i3 O;obtain⟨c4,hc4,e4⟩:=ixS (l:=iC) (v:=x4) (n:=9) (by decide) rfl (by decide);obtain⟨c5,hc5,e5⟩:=ixS (l:=iC) (v:=x5) (n:=9) (by decide) rfl (by decide)
 have asc:ascii t=true:=by
  unfold ascii;rw[jq];intro c hc
  have:=htok c hc
  exact zj (by omega)
 obtain⟨ρ2,O2,e2,hO2,ls2,p2,o7,rfl,hl2,hok2⟩:=kE (g:=mgN 7) (b:=sY)
  (λ_ ρ O2=>O2=O/\∃(ls:List LT) (p:Int) (o7:Option D),ρ=[some (.lst (ns.map D.int)),some (.int (at_:Int)),some (.int (most:Int)),some (.lst (ls.map dL)),some (.int p),some (.int (0+(i:Int))),some X,o7]/\ls.length<=most/\∀x∈ls,OkL x) (fZ t) 0
  [some (.lst (ns.map D.int)),some (.int (at_:Int)),some (.int (most:Int)),some (.lst (ls.map dL)),some (.int p),some (.int (0+(i:Int))),some X,a7] O ⟨rfl,ls,p,a7,rfl,hl,hok⟩ (by
   rintro j d ρ O3 hj ⟨hO3,ls,p,o7,rfl,hl,hok⟩;obtain⟨c,hc,rfl⟩:=signs_get hj;obtain⟨ls2,g1,g2,g3⟩:=Z6 (.lst (ns.map D.int)) X (.int (at_:Int)) (some (.int (0+(i:Int)))) hX i4 i5 i6 e4 e5 (K9 _ hc4) (K9 _ hc5) most h2 ls hl hok p c (htok c hc) O3
   exact⟨_,rfl,_,_,.inl g3,hO3,ls2,p+1+x6 % 3,some (.str [c]),rfl,g1,g2⟩)
 rw[hO2] at e2;refine⟨ls2,p2,some X,o7,hl2,hok2,?_⟩
 have c1:aK pW (aj (aK eX (aj (aa 0) (aj (ak bc (aa 1) (aa 5)) au))) (aj (mC (.int 7)) au)) [some (.lst (ns.map D.int)),some (.int (at_:Int)),some (.int (most:Int)),some (.lst (ls.map dL)),some (.int p),some (.int (0+(i:Int))),a6,a7] O=.ok X O:=by
  rw[bV (maS (x:=.int v) (by rw[bV (maS (x:=.lst (ns.map D.int)) rfl (ma1 (vN (i:=(at_:Int)) rfl rfl))),ev]) (ma1 (x:=.int 7) rfl)),ex]
 have c2:cQ (aK pX (aj (aa 6) au)) [some (.lst (ns.map D.int)),some (.int (at_:Int)),some (.int (most:Int)),some (.lst (ls.map dL)),some (.int p),some (.int (0+(i:Int))),some X,a7] O=.ok (fZ t) O:=by
  rw[uG,bV (ma1 (x:=X) rfl),et,aQ,X7 asc,uF]
 unfold vR;rw[bz,cG c1,bF];show b8 _ _ _ [some (.lst (ns.map D.int)),some (.int (at_:Int)),some (.int (most:Int)),some (.lst (ls.map dL)),some (.int p),some (.int (0+(i:Int))),some X,a7] O=_;rw[il,c2,ir,e2]
theorem few(a b:Int):∃n:Nat,(if(if a - b<40 then a - b else 40)>1 then(if a - b<40 then a - b else 40) else 1)=(n:Int)/\n<=40:=by
 refine⟨(if(if a - b<40 then a - b else 40)>1 then(if a - b<40 then a - b else 40) else 1).toNat,?_,?_⟩<;>(split<;>split<;>omega)
theorem Z8(ns:List Int)(at_ most:Nat)(h1:at_<=100)(h2:most<=1000)(hns:ns.length<=63)(O:aq):∃ls:List LT,ls.length<=most/\(∀x∈ls,OkL x)/\sU [.lst (ns.map D.int),.int (at_:Int),.int (most:Int)] O=.ok (.lst (ls.map dL)) O:=by
 obtain⟨v0,e0⟩:=sX ns (at_:Int) (by omega) (by omega) O;have m0:=sW v0 0 (by decide) (by decide) O;obtain⟨n,hn,hn40⟩:=few (ns.length:Int) (at_:Int);obtain⟨ρ',O',e,hO,ls,p,o5,o6,o7,rfl,hl,hok⟩:=kE (g:=mgN 5) (b:=vR)
  (λi ρ O'=>O'=O/\∃(ls:List LT) (p:Int) (o5 o6 o7:Option D),ρ=[some (.lst (ns.map D.int)),some (.int (at_:Int)),some (.int (most:Int)),some (.lst (ls.map dL)),some (.int p),o5,o6,o7]/\ls.length<=most/\∀x∈ls,OkL x) (bI 0 n) 0
  [some (.lst (ns.map D.int)),some (.int (at_:Int)),some (.int (most:Int)),some (.lst []),some (.int (mix v0 0 % 1000)),none,none,none] O ⟨rfl,[],_,_,_,_,rfl,Nat.zero_le _,λx hx=>(nomatch hx)⟩ (by
   rintro i d ρ O' hi ⟨hO',ls,p,o5,o6,o7,rfl,hl,hok⟩;obtain⟨hi',rfl⟩:=vQ hi;obtain⟨ls2,p2,b6,b7,g1,g2,g3⟩:=Z7 ns at_ h1 most h2 i (by omega) ls hl hok p o6 o7 O'
   exact⟨_,rfl,_,_,.inl g3,hO',ls2,p2,_,b6,b7,rfl,g1,g2⟩)
 rw[hO] at e;obtain⟨v9,e9⟩:=sX ns 0 (by decide) (by decide) O;have m9:=sW v9 9 (by decide) (by decide) O
 have s4:=cG (i:=4) (nZ (b:=mC (.int 1000)) (i:=mix v0 0) (j:=1000) (a:=aK gh (aj (aK eX (aj (aa 0) (aj (aa 1) au))) (aj (mC (.int 0)) au))) (ρ:=[some (.lst (ns.map D.int)),some (.int (at_:Int)),some (.int (most:Int)),some (.lst []),none,none,none,none]) (O:=O) (by
  rw[bV (maS (x:=.int v0) (by rw[bV (maS (x:=.lst (ns.map D.int)) rfl (ma1 (x:=.int (at_:Int)) rfl)),e0]) (ma1 (x:=.int 0) rfl)),m0]) rfl (by decide))
 have hlen:=gk (m:=aa 0) (ρ:=[some (.lst (ns.map D.int)),some (.int (at_:Int)),some (.int (most:Int)),some (.lst []),some (.int (mix v0 0 % 1000)),none,none,none]) (O:=O) (l:=ns.map D.int) rfl;rw[zf] at hlen
 have cM:=kY (g:=qR) (z:=.int (n:Int)) (maS (a:=mC (.int 1)) (x:=.int 1) rfl (ma1 (kY (g:=lE) (z:=.int (if(ns.length:Int) - (at_:Int)<40 then(ns.length:Int) - (at_:Int) else 40)) (maS (a:=mC (.int 40)) (x:=.int 40) rfl (ma1 (K5 (b:=aa 1) (j:=(at_:Int)) hlen rfl))) rfl))) (by
  rw[zd,zd,zJ,cT,cT,Yh,hn])
 have c9:aK gh (aj (aK eX (aj (aa 0) (aj (mC (.int 0)) au))) (aj (mC (.int 9)) au)) [some (.lst (ns.map D.int)),some (.int (at_:Int)),some (.int (most:Int)),some (.lst (ls.map dL)),some (.int p),o5,o6,o7] O=.ok (.int (mix v9 9)) O:=by
  rw[bV (maS (x:=.int v9) (by rw[bV (maS (x:=.lst (ns.map D.int)) rfl (ma1 (x:=.int 0) rfl)),e9]) (ma1 (x:=.int 9) rfl)),m9]
 have t9:=p8 (b:=mC (.int 4)) (j:=4) (nZ (b:=mC (.int 9)) (j:=9) c9 rfl (by decide)) rfl
 have pre:sU [.lst (ns.map D.int),.int (at_:Int),.int (most:Int)] O=bA (aB (bh (aJ (ak gEq (ak bD (aK gh (aj (aK eX (aj (aa 0) (aj (mC (.int 0)) au))) (aj (mC (.int 9)) au))) (mC (.int 9))) (mC (.int 4)))) (aH 3 (bY au)) bx) (aU (aa 3)) [some (.lst (ns.map D.int)),some (.int (at_:Int)),some (.int (most:Int)),some (.lst (ls.map dL)),some (.int p),o5,o6,o7] O):=by
  show bA (aB (aH 3 (bY au)) (aB _ (aB (b8 (eQ (aj _ au)) (mgN 5) vR) _)) [some (.lst (ns.map D.int)),some (.int (at_:Int)),some (.int (most:Int)),none,none,none,none,none] O)=_;rw[bz,show aH 3 (bY au) [some (.lst (ns.map D.int)),some (.int (at_:Int)),some (.int (most:Int)),none,none,none,none,none] O=.nx [some (.lst (ns.map D.int)),some (.int (at_:Int)),some (.int (most:Int)),some (.lst []),none,none,none,none] O from rfl,bF,bz,s4,bF,bz,il];show bA (g8 (yz (eQ (aj _ au) [some (.lst (ns.map D.int)),some (.int (at_:Int)),some (.int (most:Int)),some (.lst []),some (.int (mix v0 0 % 1000)),none,none,none] O) _ _ [some (.lst (ns.map D.int)),some (.int (at_:Int)),some (.int (most:Int)),some (.lst []),some (.int (mix v0 0 % 1000)),none,none,none]) _)=_
  rw[ZV cM (by omega),ir,e,bF]
 by_cases h4:mix v9 9 % 9=4
 ·refine⟨[],Nat.zero_le _,λx hx=>(nomatch hx),?_⟩;rw[pre,bz,jt (by rw[t9,zj h4])];rfl
 ·refine⟨ls,hl,hok,?_⟩;rw[pre,bz,if_no (by rw[t9,zg h4]),dY,bF];rfl
def wid(c:Nat):Int:=if 65<=c/\c<=90 then 2 else 1
def trn(l:List LT):Nat->Nat
 | 0=>0
 |n+1=>if(l[n]?).map (λx=>x.1)=some 32 then trn l n else n+1
theorem sZ(l:List LT):∀n,trn l n<=n
 | 0=>zc _
 |n+1=>by
  unfold trn
  split
  ·exact Nat.le_succ_of_le (sZ l n)
  ·exact zc _
def wsum(l:List LT):Int:=(l.map λx=>wid x.1).sum
theorem La{α:Type}(f:α->Int):∀l:List α,gD (l.map λx=>.int (f x))=some (l.map f)
 | []=>rfl
 |x::l=>by
  show(gD (l.map λx=>D.int (f x))).map _=_;rw[La f l];rfl
theorem Lb{α:Type}(f:α->Int)(l:List α)(h:∀x∈l,0<=f x/\f x<=1000000)(hl:l.length<=1000000):oW [.lst (l.map λx=>.int (f x))]=some (.int (l.map f).sum):=by
 unfold oW;dsimp only;rw[La];show(if _ then _ else _)=_;rw[if_pos];rw[zo,jq];refine⟨λn hn=>?_,zj (by rw[zf];exact hl)⟩;obtain⟨x,hx,rfl⟩:=zH.mp hn
 have:=h x hx
 simp[this]
theorem Ld(c:Nat):0<=wid c/\wid c<=1000000:=by
 unfold wid
 split<;>decide
theorem qb(c:Nat)(O:aq):iZ [.str [c]] O=.ok (.int (wid c)) O:=by
 simp[iZ,yM,wid]
 by_cases h1:65<=c<;>by_cases h2:c<=90<;>simp[h1,h2]
theorem ixs{l:List LT}{i:Nat}{x:LT}(e:l[i]?=some x):gIx (.lst (l.map dL)) (.int (i:Int))=some (dL x):=by
 rw[kj,km,zw,e];rfl
def d7:List LT->Int->Nat
 | [],_=>0
 |x::xs,w=>if wid x.1<=w then d7 xs (w - wid x.1)+1 else 0
theorem DQ:∀(l:List LT) (w:Int),d7 l w<=l.length
 | [],_=>zc _
 |x::xs,w=>by
  unfold d7
  split
  ·have:=DQ xs (w - wid x.1)
   simp only[zv];omega
  ·exact Nat.zero_le _
theorem DR(c:Nat):1<=wid c/\wid c<=2:=by
 unfold wid
 split<;>decide
theorem Z9{l:List LT}{w:Int}(h:l≠[])(hw:2<=w):1<=d7 l w:=by
 cases l with
 |nil=>exact absurd rfl h
 |cons x xs =>
  have:=DR x.1
  unfold d7;rw[if_pos (by omega)];omega
def rch(l:List LT)(lo:Nat)(w:Int):Nat:=lo+d7 (l.drop lo) w
theorem DW(l:List LT)(lo:Nat)(w:Int)(h:lo<=l.length):rch l lo w<=l.length:=by
 have:=DQ (l.drop lo) w
 rw[List.length_drop] at this;unfold rch;omega
theorem Le(l:List LT)(lo:Nat)(w:Int)(h:lo<l.length)(hw:2<=w):lo<rch l lo w:=by
 have hd:l.drop lo≠[]:=λz=>by
  have:=congrArg List.length z
  simp at this
  omega
 have:=Z9 hd hw
 unfold rch;omega
theorem Qsw{l:List LT}{i k:Nat}{w:Int}(h:d7 (l.drop i) w=k+1):∃x,l[i]?=some x/\i<l.length/\wid x.1<=w/\d7 (l.drop (i+1)) (w - wid x.1)=k:=by
 by_cases hi:i<l.length
 ·rw[List.drop_eq_getElem_cons hi] at h;unfold d7 at h;split at h
  ·rename_i hw;exact⟨l[i],zp hi,hi,hw,by omega⟩
  ·omega
 ·rw[List.drop_eq_nil_of_le (by omega)] at h;cases h
theorem QtI{l:List LT}{i:Nat}{w:Int}(h:d7 (l.drop i) w=0):¬i<l.length\/∃x,l[i]?=some x/\i<l.length/\¬wid x.1<=w:=by
 by_cases hi:i<l.length
 ·rw[List.drop_eq_getElem_cons hi] at h;unfold d7 at h;split at h
  ·omega
  ·rename_i hw;exact .inr ⟨l[i],zp hi,hi,hw⟩
 ·exact .inl hi
theorem DX(l:List LT)(lo:Nat)(w:Int)(hl:l.length<=1000)(hlo:lo<=l.length)(O:aq):pJ [.lst (l.map dL),.int (lo:Int),.int w] O=.ok (.int (rch l lo w:Nat)) O:=by
 have fl:=DQ (l.drop lo) w;rw[List.length_drop] at fl;obtain⟨ρ',O',e,rfl,j,c,rfl,h1,h2,h3⟩:=yJ (t:=dC (aJ (ak gLt (aa 3) (aV bC (aj (aa 0) au)))) (aJ (ak gLe (ak bc (aa 4) (aK iZ (aj (ak gIx (ak gIx (aa 0) (aa 3)) (mC (.int 0))) au))) (aa 2))))
  (b:=aB (aH 4 (ak bc (aa 4) (aK iZ (aj (ak gIx (ak gIx (aa 0) (aa 3)) (mC (.int 0))) au)))) (aH 3 (ak bc (aa 3) (mC (.int 1)))))
  (λk ρ O'=>O'=O/\∃(j:Nat) (c:Int),ρ=[some (.lst (l.map dL)),some (.int (lo:Int)),some (.int w),some (.int ((lo+j:Nat):Int)),some (.int c)]/\lo+j<=l.length/\j+k=d7 (l.drop lo) w/\k=d7 (l.drop (lo+j)) (w - c)) wF (d7 (l.drop lo) w) [some (.lst (l.map dL)),some (.int (lo:Int)),some (.int w),some (.int ((lo+0:Nat):Int)),some (.int 0)] O (by unfold wF;omega) ⟨rfl,0,0,rfl,hlo,by omega,by simp⟩
  (by
   rintro k ρ O' ⟨rfl,j,c,rfl,h1,h2,h3⟩;obtain⟨x,hx,hi,hw,hk⟩:=Qsw h3.symm;have ix:=ixs hx
   have hlt:((lo+j:Nat):Int)<(l.length:Int):=by omega
   have hle:c+wid x.1<=w:=by omega
   have i0:gIx (dL x) (.int 0)=some (.str [x.1]):=vP;have dd:bB O' (dL x)=dL x:=rfl;refine⟨?_,k,_,_,zc _,?_,rfl,j+1,c+wid x.1,rfl,by omega,by omega,?_⟩
   ·simp only[jL,gf,dO,iV,iU,eV,dX,c7,m_c,zC,zA,aQ,eU,cT,zd,zJ,uI,zf,dz,yE,zj hlt,gK,if_true,ix,dd,i0,qb,iY,yF,zj hle]
   ·simp only[bz,fP,dO,iU,eV,dX,c7,m_c,zC,zA,aQ,eU,cT,ix,dd,i0,dz,qb,iY,fQ,bF,zY,zU];rfl
   ·rw[<-hk,show lo+(j+1)=lo+j+1 by omega,show w - (c+wid x.1)=w - c - wid x.1 by omega])
  (by
   rintro ρ O' ⟨rfl,j,c,rfl,h1,h2,h3⟩
   rcases QtI h3.symm with hi | ⟨x,hx,hi,hw⟩
   ·have hlt:¬((lo+j:Nat):Int)<(l.length:Int):=by omega
    simp only[jL,gf,dO,iV,eV,dX,c7,zC,zA,aQ,eU,cT,zd,zJ,uI,zf,dz,yE,zg hlt,gK,Bool.false_eq_true,if_false]
   ·have ix:=ixs hx
    have hlt:((lo+j:Nat):Int)<(l.length:Int):=by omega
    have hle:¬c+wid x.1<=w:=by omega
    have i0:gIx (dL x) (.int 0)=some (.str [x.1]):=vP;have dd:bB O' (dL x)=dL x:=rfl
    simp only[jL,gf,dO,iV,iU,eV,dX,c7,m_c,zC,zA,aQ,eU,cT,zd,zJ,uI,zf,dz,yE,zj hlt,gK,if_true,ix,dd,i0,qb,iY,yF,zg hle])
 have hj:lo+j=rch l lo w:=by unfold rch;omega
 rw[hj] at e;show bA (uM [some (.lst (l.map dL)),some (.int (lo:Int)),some (.int w),none,none] O')=_;unfold uM;simp only[bz,fP,m_g,c7,m_c,zC,zA,yu,fQ,bF,zY,zU,yK];have e':dM _ _ wF [some (.lst (l.map dL)),some (.int (lo:Int)),some (.int w),some (.int (lo:Int)),some (.int 0)] O'=_:=e;rw[e'];rfl
theorem Lf(c:Nat):c∈cV↔65<=c/\c<=90:=by
 have e:cV=(List.range 26).map (· + 65):=rfl;rw[e,zH];constructor
 ·rintro⟨a,h,rfl⟩
  have:=List.mem_range.mp h
  exact⟨Nat.le_add_left ..,Nat.add_le_add_right (Nat.le_of_lt_succ this) 65⟩
 ·intro h;exact⟨c - 65,List.mem_range.mpr (by omega),Nat.sub_add_cancel h.1⟩
theorem QvQ(c:Nat):(1:Int)+(if decide (c∈cV)=true then 1 else 0)=wid c:=by
 unfold wid
 by_cases h:65<=c/\c<=90
 ·rw[if_pos (zj ((Lf c).mpr h)),if_pos h];rfl
 ·rw[if_neg (λz=>h ((Lf c).mp (jh z))),if_neg h];rfl
theorem Qu4(l:List LT)(hl:l.length<=1000)(O:aq):uL [.lst (l.map dL)] O=.ok (.int (wsum l)) O:=by
 have ec:=lL (g:=mgN 0) (t:=dN) (m:=aK iZ (aj (ak gIx (aa 0) (mC (.int 0))) au)) (λρ=>∃a,ρ=[a]) dL (λx=>D.int (wid x.1)) l [none] O [] ⟨_,rfl⟩ (by
  rintro x hx ρ ⟨a,rfl⟩;refine⟨_,rfl,⟨_,rfl⟩,rfl,?_⟩
  simp[dL,qb])
 have z:(l.map dL).length<=1000000:=by rw[zf];omega
 have gs:=Lb (λx:LT=>wid x.1) l (λx _=>Ld _) (by omega);simp only[uL,yO,rM,zd,zJ,zv,zN,List.replicate,List.cons_append,zK,fG,iV,eV,dX,uH,uG,c7,zC,aQ,yC,uF,if_pos z,Yn,ec,eU,zZ];rw[show(λx:LT=>D.int (wid x.1))=(λx:LT=>D.int ((λx:LT=>wid x.1) x)) from rfl,gs];rfl
theorem lV(l:List LT)(m:Nat):trn l (m+1)=if(l[m]?).map (λx=>x.1)=some 32 then trn l m else m+1:=rfl
theorem QsU{l:List LT}{m:Nat}(h:trn l (m+1)≠m+1):∃x,l[m]?=some x/\x.1=32/\trn l (m+1)=trn l m:=by
 rw[lV] at h ⊢;split at h
 ·rename_i q;rw[if_pos q]
  cases e:l[m]? with
  |none=>rw[e] at q;cases q
  |some x =>
   rw[e] at q;simp at q;exact⟨x,rfl,q,rfl⟩
 ·exact absurd rfl h
theorem QuY{l:List LT}{m:Nat}{x:LT}(h:trn l (m+1)=m+1)(e:l[m]?=some x):x.1≠32:=by
 intro q;unfold trn at h;rw[if_pos (by rw[e];simp[q])] at h
 have:=sZ l m
 omega
theorem Lg(l:List LT)(lo k:Nat)(hl:l.length<=1000)(hk:lo+k<=l.length)(O:aq):lR [.lst (l.map dL),.int (lo:Int),.int ((lo+k:Nat):Int)] O=.ok (.int (wsum ((l.drop lo).take (trn (l.drop lo) k)))) O:=by
 have tl:=sZ (l.drop lo) k;obtain⟨ρ',O',e,rfl,m,rfl,h1,h2,h3⟩:=yJ (t:=dC (aJ (ak gGt (aa 2) (aa 1))) (aJ (ak gEq (ak gIx (ak gIx (aa 0) (ak gw (aa 2) (mC (.int 1)))) (mC (.int 0))) (mC (.str [32])))))
  (b:=aH 2 (ak gw (aa 2) (mC (.int 1))))
  (λj ρ O'=>O'=O/\∃m:Nat,ρ=[some (.lst (l.map dL)),some (.int (lo:Int)),some (.int ((lo+m:Nat):Int)),none]/\m<=k/\trn (l.drop lo) m=trn (l.drop lo) k/\m=trn (l.drop lo) k+j) wF (k - trn (l.drop lo) k) [some (.lst (l.map dL)),some (.int (lo:Int)),some (.int ((lo+k:Nat):Int)),none] O (by unfold wF;omega) ⟨rfl,k,rfl,zc _,rfl,by omega⟩
  (by
   rintro j ρ O' ⟨rfl,m,rfl,h1,h2,h3⟩;obtain⟨m',rfl⟩:∃m',m=m'+1:=⟨m - 1,by omega⟩;obtain⟨x,hx,hx1,hx2⟩:=QsU (l:=l.drop lo) (m:=m') (by omega);rw[List.getElem?_drop] at hx
   have ei:((lo+(m'+1):Nat):Int) - 1=((lo+m':Nat):Int):=by omega
   have hp:(lo:Int)<((lo+(m'+1):Nat):Int):=by omega
   have ix:gIx (.lst (l.map dL)) (.int ((lo+m':Nat):Int))=some (dL x):=by rw[kj,km,zw,hx];rfl
   refine⟨?_,j,_,_,zc _,?_,rfl,m',rfl,by omega,by omega,by omega⟩
   ·simp only[jL,gf,dO,c7,m_c,zC,zA,aQ,cT,eU,pI,zj hp,dz,gK,if_true,yD,ei,ix];simp[dL,hx1]
   ·simp only[fP,dO,c7,m_c,zC,zA,aQ,cT,yD,ei,dz,fQ]
    rfl)
  (by
   rintro ρ O' ⟨rfl,m,rfl,h1,h2,h3⟩
   cases m with
   |zero=>simp
   |succ m' =>
    have hlt:m'<(l.drop lo).length:=by rw[List.length_drop];omega
    have ex:=zp hlt;have hne:=QuY (l:=l.drop lo) (m:=m') (x:=(l.drop lo)[m']) (by omega) ex;obtain⟨y,hy⟩:∃y,(l.drop lo)[m']=y:=⟨_,rfl⟩;rw[hy] at ex hne;rw[List.getElem?_drop] at ex
    have ei:((lo+(m'+1):Nat):Int) - 1=((lo+m':Nat):Int):=by omega
    have hp:(lo:Int)<((lo+(m'+1):Nat):Int):=by omega
    have ix:gIx (.lst (l.map dL)) (.int ((lo+m':Nat):Int))=some (dL y):=by rw[kj,km,zw,ex];rfl
    simp only[jL,gf,dO,c7,m_c,zC,zA,aQ,cT,eU,pI,zj hp,dz,gK,if_true,yD,ei,ix]
    simp[dL,hne])
 have hm:m=trn (l.drop lo) k:=by omega
 subst hm
 have ec:=lL (g:=mgN 0) (t:=dN) (m:=ak bc (mC (.int 1)) (aV mY (aj (ak (gIn false) (ak gIx (aa 0) (mC (.int 0))) (aa 1)) au))) (λρ=>∃a,ρ=[a,some (.str cV)]) dL (λx=>D.int (wid x.1)) ((l.drop lo).take (trn (l.drop lo) k)) [none,some (.str cV)] O' [] ⟨_,rfl⟩ (by
  rintro x hx ρ ⟨a,rfl⟩;refine⟨_,rfl,⟨_,rfl⟩,rfl,?_⟩;have hw:=QvQ x.1;simp only[dL,dO,m_c,iV,eV,dX,c7,zU,zC,zA,aQ,Js,cT,kh,vP,dz,Yd,zd,zJ,lJ,Yi,iY,Bool.false_bne]
  rw[<-hw])
 have z:(((l.drop lo).take (trn (l.drop lo) k)).map dL).length<=1000000:=by rw[zf,List.length_take,List.length_drop];omega
 have gs:=Lb (λx:LT=>wid x.1) ((l.drop lo).take (trn (l.drop lo) k)) (λx _=>Ld _) (by rw[List.length_take,List.length_drop];omega)
 have ecut:eE (l.map dL) (some (lo:Int)) (some ((lo+trn (l.drop lo) k:Nat):Int))=((l.drop lo).take (trn (l.drop lo) k)).map dL:=by
  rw[K6,List.map_take,List.map_drop,Nat.add_sub_cancel_left]
 have ec':dw (mgN 0) dN (ak bc (mC (.int 1)) (aV mY (aj (ak (gIn false) (ak gIx (aa 0) (mC (.int 0))) (aa 1)) au))) (((l.drop lo).take (trn (l.drop lo) k)).map dL) (jE 1 [3] [some (.lst (l.map dL)),some (.int (lo:Int)),some (.int ((lo+trn (l.drop lo) k:Nat):Int)),some (.str cV)]) O' []=_:=ec;show bA (aB _ (aB (aH 3 (mC (.str cV))) _) [some (.lst (l.map dL)),some (.int (lo:Int)),some (.int ((lo+k:Nat):Int)),none] O')=_;simp only[bz,yK,e,bF,fP,m_c,fQ,zY,zU,fG,iV,eV,dX,uH,uG,rJ,c7,Jy,m_g,zC,zA,aQ,yu,Jx,eU,Jz,ecut,dz,yC,uF,if_pos z,ec',zK,zd,zJ];rw[show(λx:LT=>D.int (wid x.1))=(λx:LT=>D.int ((λx:LT=>wid x.1) x)) from rfl,gs]
 rfl
theorem DY{m:M (List D)}{ρ:aA}{O O1:aq}{i j:Int}(e:m ρ O=.ok [.int i,.int j] O1)(h:(i<=1000000000/\-1000000000<=i)/\j<=1000000000/\-1000000000<=j):j5 m ρ O=.ok (bI i (j - i).toNat) O1:=by
 unfold j5;rw[e];show(if _ then _ else _)=_;rw[if_pos h]
theorem Qzm{l:List LT}{ρ:aA}{O:aq}(hl:l.length<=1000)(h:ρ[0]?=some (some (.lst (l.map dL)))):j5 (aj (mC (.int 1)) (aj (ak bc (aV bC (aj (aa 0) au)) (mC (.int 1))) au)) ρ O=.ok (bI 1 l.length) O:=by
 have e:(aj (mC (.int 1)) (aj (ak bc (aV bC (aj (aa 0) au)) (mC (.int 1))) au)) ρ O=.ok [.int 1,.int ((l.length:Int)+1)] O:=by
  simp[h]
 rw[DY e (by omega),show((l.length:Int)+1 - 1).toNat=l.length by omega]
def isB(l:List LT)(d:D):Bool:=match d with
 | .int i=>decide (i=(l.length:Int)) || (decide ((l[(i - 1).toNat]?).map (λx=>x.1)=some 32) && !decide ((l[i.toNat]?).map (λx=>x.1)=some 32))
 | _=>false
def brk(l:List LT):List D:=(bI 1 l.length).filter (isB l)
theorem Ea{l:List LT}{i:Nat}(h:i+1<l.length):∃x y,l[i]?=some x/\l[i+1]?=some y/\isB l (.int (1+(i:Int)))=(decide (x.1=32) && !decide (y.1=32)):=by
 have e1:=zp (show i<l.length by omega);have e2:=zp h;obtain⟨x,hx⟩:∃x,l[i]=x:=⟨_,rfl⟩;obtain⟨y,hy⟩:∃y,l[i+1]=y:=⟨_,rfl⟩;rw[hx] at e1;rw[hy] at e2;refine⟨x,y,e1,e2,?_⟩
 have n1:((1:Int)+(i:Int) - 1).toNat=i:=by omega
 have n2:((1:Int)+(i:Int)).toNat=i+1:=by omega
 have n3:¬(1:Int)+(i:Int)=(l.length:Int):=by omega
 unfold isB;dsimp only;rw[n1,n2,e1,e2];simp[n3]
theorem Eb{l:List LT}{i:Nat}(h:i+1=l.length):isB l (.int (1+(i:Int)))=true:=by
 have n3:(1:Int)+(i:Int)=(l.length:Int):=by omega
 unfold isB;simp[n3]
theorem Qo1(l:List LT)(i:Nat)(hi:i<l.length)(O:aq):lM [.lst (l.map dL),.int (1+(i:Int))] O=.ok (.bl (isB l (.int (1+(i:Int))))) O:=by
 by_cases h:i+1=l.length
 ·have n3:(1:Int)+(i:Int)=(l.length:Int):=by omega
  rw[Eb h];simp[lM,rQ,n3]
 ·obtain⟨x,y,e1,e2,e3⟩:=Ea (show i+1<l.length by omega)
  have n3:¬(1:Int)+(i:Int)=(l.length:Int):=by omega
  have n1:(1:Int)+(i:Int) - 1=(i:Int):=by omega
  have n2:(1:Int)+(i:Int)=((i+1:Nat):Int):=by omega
  have i1:=ixs e1;have i2:=ixs e2;rw[e3];rw[<-n2] at i2
  by_cases hx:x.1=32
  ·simp[lM,rQ,n3,n1,i1,i2,dL,hx]
  ·simp[lM,rQ,n3,n1,i1,dL,hx]
def Lh:MS:=bh (cX (aJ (ak gEq (aa 2) (aV bC (aj (aa 0) au)))) (dC (aJ (ak gEq (ak gIx (ak gIx (aa 0) (ak gw (aa 2) (mC (.int 1)))) (mC (.int 0))) (mC (.str [32])))) (aJ (ak gNe (ak gIx (ak gIx (aa 0) (aa 2)) (mC (.int 0))) (mC (.str [32])))))) (dW 1 (aa 2)) bx
theorem Qk4{mi:M (List D)}(l:List LT)(hl:l.length<=1000)(O:aq)(r:mi [some (.lst (l.map dL)),some (.lst []),none] O=.ok (bI 1 l.length) O):bH 3 (aB (aH 1 (bY au)) (aB (b8 mi (mgN 2) Lh) (aU (aa 1)))) [.lst (l.map dL)] O=.ok (.lst (brk l)) O:=by
 obtain⟨ρ',O',e,rfl,o2,rfl⟩:=kE (g:=mgN 2) (b:=Lh)
  (λi ρ O'=>O'=O/\∃o2,ρ=[some (.lst (l.map dL)),some (.lst (((bI 1 l.length).take i).filter (isB l))),o2]) (bI 1 l.length) 0 [some (.lst (l.map dL)),some (.lst []),none] O ⟨rfl,none,by simp⟩ (by
   rintro i d ρ O' hi ⟨rfl,o2,rfl⟩;have hd:=hi;obtain⟨hi',rfl⟩:=vQ hi;refine⟨_,rfl,?_⟩
   have et:(bI 1 l.length).take (0+i+1)=(bI 1 l.length).take (0+i)++[.int (1+(i:Int))]:=by
    rw[zW,List.take_succ,hd];rfl
   have hz:(((bI 1 l.length).take (0+i)).filter (isB l)).length<1000000:=by
    refine Nat.lt_of_le_of_lt (List.length_filter_le _ _) ?_;rw[List.length_take,jM];omega
   have test:(cX (aJ (ak gEq (aa 2) (aV bC (aj (aa 0) au)))) (dC (aJ (ak gEq (ak gIx (ak gIx (aa 0) (ak gw (aa 2) (mC (.int 1)))) (mC (.int 0))) (mC (.str [32])))) (aJ (ak gNe (ak gIx (ak gIx (aa 0) (aa 2)) (mC (.int 0))) (mC (.str [32])))))) [some (.lst (l.map dL)),some (.lst (((bI 1 l.length).take (0+i)).filter (isB l))),some (.int (1+(i:Int)))] O'=.ok (isB l (.int (1+(i:Int)))) O':=by
    by_cases h:i+1=l.length
    ·have n3:(1:Int)+(i:Int)=(l.length:Int):=by omega
     rw[Eb h];simp[n3]
    ·obtain⟨x,y,e1,e2,e3⟩:=Ea (show i+1<l.length by omega)
     have n3:¬(1:Int)+(i:Int)=(l.length:Int):=by omega
     have n1:(1:Int)+(i:Int) - 1=(i:Int):=by omega
     have n2:(1:Int)+(i:Int)=((i+1:Nat):Int):=by omega
     have i1:=ixs e1;have i2:=ixs e2;rw[e3];rw[<-n2] at i2
     by_cases hx:x.1=32
     ·simp[n3,n1,i1,i2,dL,hx]
     ·simp[n3,n1,i1,dL,hx]
   cases hb:isB l (.int (1+(i:Int))) with
   |true =>
    refine⟨_,_,.inl ?_,rfl,some (.int (1+(i:Int))),rfl⟩;show bh _ _ _ [some (.lst (l.map dL)),some (.lst (((bI 1 l.length).take (0+i)).filter (isB l))),some (.int (1+(i:Int)))] O'=_;rw[ig,test,hb,et,List.filter_append];simp only[iW,if_true,yI,c7,zC,zA];rw[rP (ds:=((bI 1 l.length).take (0+i)).filter (isB l)) rfl hz];simp[hb]
   |false =>
    refine⟨_,_,.inl ?_,rfl,some (.int (1+(i:Int))),rfl⟩;show bh _ _ _ [some (.lst (l.map dL)),some (.lst (((bI 1 l.length).take (0+i)).filter (isB l))),some (.int (1+(i:Int)))] O'=_;rw[ig,test,hb,et,List.filter_append]
    simp[hb])
 rw[jM,zW,List.take_of_length_le (by rw[jM];omega)] at e;simp only[rM,zd,zJ,zv,zN,List.replicate,List.cons_append,zK,bz,fP,rH,dX,aQ,Nat.zero_le,if_true,fQ,bF,zY,zU,il,r,ir,e,fG,c7,zA,zC,pF,pG];rfl
theorem Qnl(l:List LT)(hl:l.length<=1000)(O:aq):vG [.lst (l.map dL)] O=.ok (.lst (brk l)) O:=Qk4 l hl O (Qzm hl rfl)
theorem QuA(l:List LT):(brk l).length<=l.length:=by
 refine zG (List.length_filter_le _ _) ?_;rw[jM];exact zc _
theorem tE(x:LT)(l:List LT):wsum (x::l)=wid x.1+wsum l:=by
 simp[wsum]
theorem tG:∀l:List LT,0<=wsum l
 | []=>by simp[wsum]
 |x::l=>by
  have:=tG l
  have:=DR x.1
  rw[tE];omega
theorem Li(l:List LT):∀(a b:Nat),a<=b->wsum (l.take a)<=wsum (l.take b):=by
 induction l with
 |nil=>intro a b _;simp
 |cons x l ih =>
  intro a b h
  cases a with
  |zero=>exact tG _
  |succ a =>
   cases b with
   |zero=>omega
   |succ b =>
    rw[List.take_succ_cons,List.take_succ_cons,tE,tE]
    have:=ih a b (by omega)
    omega
theorem Qk3{l:List LT}{k:Nat}{x:LT}(h:l[k]?=some x):wsum (l.take (k+1))=wsum (l.take k)+wid x.1:=by
 rw[List.take_succ,h];simp[wsum]
theorem Ec:∀(l:List LT) (w:Int) (k:Nat),0<=w->k<=d7 l w->wsum (l.take k)<=w
 | [],w,k,hw,_=>by simpa [wsum] using hw
 |x::l,w,0,hw,_=>by simpa [wsum] using hw
 |x::l,w,k+1,hw,h=>by
  unfold d7 at h;split at h
  ·rename_i hx
   have:=Ec l (w - wid x.1) k (by omega) (by omega)
   rw[List.take_succ_cons,tE];omega
  ·omega
def tw(l:List LT)(lo k:Nat):Int:=wsum ((l.drop lo).take (trn (l.drop lo) k))
theorem Lj{l:List LT}{lo k:Nat}{x:LT}(h:l[lo+k]?=some x)(hx:x.1=32):tw l lo (k+1)=tw l lo k:=by
 unfold tw;rw[lV,if_pos (by rw[List.getElem?_drop,h];simp[hx])]
theorem Ln{l:List LT}{lo k:Nat}{x:LT}(h:l[lo+k]?=some x)(hx:x.1≠32):tw l lo (k+1)=wsum ((l.drop lo).take (k+1)):=by
 unfold tw;rw[lV,if_neg (by rw[List.getElem?_drop,h];simp[hx])]
theorem Lp(l:List LT)(lo k:Nat):tw l lo k<=wsum ((l.drop lo).take k):=Li _ _ _ (sZ _ _)
theorem QtO(l:List LT)(lo k:Nat):tw l lo k<=tw l lo (k+1):=by
 unfold tw;refine Li _ _ _ ?_;rw[lV]
 split
 ·exact zc _
 ·have:=sZ (l.drop lo) k
  omega
theorem Qup(l:List LT)(lo:Nat){a b:Nat}(h:a<=b):tw l lo a<=tw l lo b:=by
 obtain⟨c,rfl⟩:∃c,b=a+c:=⟨b - a,by omega⟩
 induction c with
 |zero=>exact Int.le_refl _
 |succ c ih=>exact Int.le_trans (ih (by omega)) (QtO l lo (a+c))
def gd(l:List LT)(lo:Nat)(w:Int)(k:Nat):Bool:=isB l (.int (1+((lo+k:Nat):Int)))&&decide (tw l lo (k+1)<=w)
def fes(l:List LT)(lo:Nat)(w:Int)(i:Nat):List Nat:=(List.range i).filter (gd l lo w)
def fD(l:List LT)(lo:Nat)(k:Nat):D:=.tup [.int (1+((lo+k:Nat):Int)),.int (tw l lo (k+1))]
theorem Lq(l:List LT)(lo:Nat)(w:Int)(i:Nat):fes l lo w (i+1)=fes l lo w i++(if gd l lo w i=true then[i] else[]):=by
 unfold fes;rw[List.range_succ,List.filter_append];congr 1
 by_cases h:gd l lo w i=true<;>simp[h]
theorem QsO{l:List LT}{lo:Nat}{w:Int}{i:Nat}(h:w<tw l lo (i+1)):∀n,i<=n->fes l lo w n=fes l lo w i:=by
 intro n hn;obtain⟨c,rfl⟩:∃c,n=i+c:=⟨n - i,by omega⟩
 induction c with
 |zero=>rfl
 |succ c ih =>
  have m:=Qup l lo (show i+1<=i+c+1 by omega)
  have hg:gd l lo w (i+c)=false:=by
   unfold gd;rw[zg (by omega),Bool.and_false]
  rw[show i+(c+1)=i+c+1 by omega,Lq,hg,ih (by omega)];simp
def qd:MS:=(aB (aH 4 (ak bc (aa 4) (aK iZ (aj (ak gIx (ak gIx (aa 0) (aa 6)) (mC (.int 0))) au))))
  (aB (bh (aJ (ak gNe (ak gIx (ak gIx (aa 0) (aa 6)) (mC (.int 0))) (mC (.str [32])))) (aH 5 (aa 4)) bx)
  (aB (bh (aJ (ak gGt (aa 5) (aa 2))) ud bx)
  (bh (cj (aK lM (aj (aa 0) (aj (ak bc (aa 6) (mC (.int 1))) au)))) (dW 3 (dh (aj (ak bc (aa 6) (mC (.int 1))) (aj (aa 5) au)))) bx))))
theorem Qr4(l:List LT)(lo k:Nat)(w:Int)(x:LT)(hx:l[lo+k]?=some x)(acc:List D)(ha:acc.length<=100000)(O:aq)(o6:Option D):
  qd [some (.lst (l.map dL)),some (.int (lo:Int)),some (.int w),some (.lst acc),some (.int (wsum ((l.drop lo).take k))),some (.int (tw l lo k)),some (.int ((lo+k:Nat):Int))] O =
   if w<tw l lo (k+1) then .bk [some (.lst (l.map dL)),some (.int (lo:Int)),some (.int w),some (.lst acc),some (.int (wsum ((l.drop lo).take (k+1)))),some (.int (tw l lo (k+1))),some (.int ((lo+k:Nat):Int))] O
   else .nx [some (.lst (l.map dL)),some (.int (lo:Int)),some (.int w),some (.lst (acc++if gd l lo w k=true then[fD l lo k] else[])),some (.int (wsum ((l.drop lo).take (k+1)))),some (.int (tw l lo (k+1))),some (.int ((lo+k:Nat):Int))] O:=by
 have hi:lo+k<l.length:=(zl.mp hx).1;have ix:=ixs hx;have i0:gIx (dL x) (.int 0)=some (.str [x.1]):=vP;have dd:bB O (dL x)=dL x:=rfl;have hs:wsum ((l.drop lo).take k)+wid x.1=wsum ((l.drop lo).take (k+1)):=(Qk3 (by rw[List.getElem?_drop];exact hx)).symm;have eb:=Qo1 l (lo+k) hi O
 have hp:((lo+k:Nat):Int)+1=1+((lo+k:Nat):Int):=by omega
 obtain⟨R,hR⟩:∃R:MS,R=(aB (bh (aJ (ak gGt (aa 5) (aa 2))) ud bx)
  (bh (cj (aK lM (aj (aa 0) (aj (ak bc (aa 6) (mC (.int 1))) au)))) (dW 3 (dh (aj (ak bc (aa 6) (mC (.int 1))) (aj (aa 5) au)))) bx)):=⟨_,rfl⟩
 have pre:qd [some (.lst (l.map dL)),some (.int (lo:Int)),some (.int w),some (.lst acc),some (.int (wsum ((l.drop lo).take k))),some (.int (tw l lo k)),some (.int ((lo+k:Nat):Int))] O=R [some (.lst (l.map dL)),some (.int (lo:Int)),some (.int w),some (.lst acc),some (.int (wsum ((l.drop lo).take (k+1)))),some (.int (tw l lo (k+1))),some (.int ((lo+k:Nat):Int))] O:=by
  unfold qd;rw[<-hR]
  by_cases hb:x.1=32
  ·have q:gNe (.str [x.1]) (.str [32])=some (.bl false):=by rw[hb];rfl
   rw[Lj hx hb];simp only[bz,fP,dO,iU,eV,dX,c7,m_c,zC,zA,aQ,eU,cT,kh,ix,dd,i0,dz,qb,iY,hs,fQ,bF,zY,zU,ig,gf,q,gK,iW,Bool.false_eq_true,if_false,dY]
  ·have q:gNe (.str [x.1]) (.str [32])=some (.bl true):=by simp[hb]
   rw[Ln hx hb];simp only[bz,fP,dO,iU,eV,dX,c7,m_c,zC,zA,aQ,eU,cT,kh,ix,dd,i0,dz,qb,iY,hs,fQ,bF,zY,zU,ig,gf,q,gK,iW,if_true]
 rw[pre,hR]
 by_cases hlt:w<tw l lo (k+1)
 ·rw[if_pos hlt];have hg:tw l lo (k+1)>w:=hlt;simp only[bz,ig,gf,dO,c7,zC,zA,aQ,cT,pI,zj hg,dz,gK,iW,if_true];rfl
 ·rw[if_neg hlt];have hg:¬tw l lo (k+1)>w:=hlt
  have hd:gd l lo w k=isB l (.int (1+((lo+k:Nat):Int))):=by
   unfold gd;rw[zj (by omega),Bool.and_true]
  rw[hd];simp only[bz,ig,gf,dO,c7,m_c,zC,zA,aQ,cT,pI,zg hg,dz,gK,iW,Bool.false_eq_true,if_false,dY,bF,nG,iU,eV,dX,iY,hp,eb,lJ,nH,nF]
  cases hb:isB l (.int (1+((lo+k:Nat):Int))) with
  |false=>simp
  |true =>
   simp only[if_true,yI,yx,eV,dX,dO,c7,m_c,zC,zA,aQ,cT,iY,hp,dz,zv,zN,Nat.reduceAdd,Nat.reduceLeDiff];rw[rP (ds:=acc) rfl (by omega)];rfl
theorem Lr(l:List LT)(lo:Nat)(w:Int)(hl:l.length<=1000)(O:aq):∀(m k:Nat) (o6:Option D),lo+k+m=l.length ->
  ∃o4 o5 o6',cD (mgN 6) qd (bI ((lo+k:Nat):Int) m) [some (.lst (l.map dL)),some (.int (lo:Int)),some (.int w),some (.lst ((fes l lo w k).map (fD l lo))),some (.int (wsum ((l.drop lo).take k))),some (.int (tw l lo k)),o6] O=.nx [some (.lst (l.map dL)),some (.int (lo:Int)),some (.int w),some (.lst ((fes l lo w (l.length - lo)).map (fD l lo))),o4,o5,o6'] O
 | 0,k,o6,h=>by
  rw[show l.length - lo=k by omega];exact⟨_,_,_,rfl⟩
 |m+1,k,o6,h=>by
  have hx:=zp (show lo+k<l.length by omega)
  have fl:(fes l lo w k).length<=k:=by
   have:=List.length_filter_le (gd l lo w) (List.range k)
   rw[List.length_range] at this;exact this
  have t:=Qr4 l lo k w _ hx ((fes l lo w k).map (fD l lo)) (by rw[zf];omega) O o6
  have er:bI ((lo+k:Nat):Int) (m+1)=.int ((lo+k:Nat):Int)::bI ((lo+(k+1):Nat):Int) m:=by
   unfold bI;rw[List.range_succ_eq_map,zd,zP,List.cons.injEq];refine⟨by simp,jb λi _=>?_⟩;show D.int (((lo+k:Nat):Int)+((i+1:Nat):Int))=D.int (((lo+(k+1):Nat):Int)+(i:Int));congr 1;omega
  rw[er];unfold cD;rw[mg_n];dsimp only;rw[show([some (.lst (l.map dL)),some (.int (lo:Int)),some (.int w),some (.lst ((fes l lo w k).map (fD l lo))),some (.int (wsum ((l.drop lo).take k))),some (.int (tw l lo k)),o6]:aA).set 6 (some (.int ((lo+k:Nat):Int)))=[some (.lst (l.map dL)),some (.int (lo:Int)),some (.int w),some (.lst ((fes l lo w k).map (fD l lo))),some (.int (wsum ((l.drop lo).take k))),some (.int (tw l lo k)),some (.int ((lo+k:Nat):Int))] from rfl,t]
  by_cases hlt:w<tw l lo (k+1)
  ·rw[if_pos hlt,QsO hlt (l.length - lo) (by omega)];exact⟨_,_,_,rfl⟩
  ·rw[if_neg hlt];obtain⟨o4,o5,o6',q⟩:=Lr l lo w hl O m (k+1) (some (.int ((lo+k:Nat):Int))) (by omega);refine⟨o4,o5,o6',?_⟩;dsimp only;rw[Lq,zQ] at q;rw[<-q]
   by_cases hg:gd l lo w k=true<;>simp[hg]
theorem Qxm(ns:List Int)(O:aq):∃w:Int,(2<=w/\w<=40)/\vC [.lst (ns.map D.int)] O=.ok (.int w) O:=by
 obtain⟨v,ev⟩:=sX ns 1 (by decide) (by decide) O;have m7:=sW v 7 (by decide) (by decide) O;have m8:=sW v 8 (by decide) (by decide) O;have y0:=zV (mix v 8) (show(4:Int)≠0 by decide);have y1:=zX (mix v 8) (show(0:Int)<4 by decide)
 obtain⟨k,hk,hk0,hk1⟩:∃k:Int,gIx (.lst [.int 4,.int 9,.int 9,.int 39]) (.int (mix v 8 % 4))=some (.int k)/\0<k/\k<=39:=by
  have h:mix v 8 % 4=0\/mix v 8 % 4=1\/mix v 8 % 4=2\/mix v 8 % 4=3:=by omega
  rcases h with h | h | h | h<;>rw[h]
  ·exact⟨4,rfl,by decide,by decide⟩
  ·exact⟨9,rfl,by decide,by decide⟩
  ·exact⟨9,rfl,by decide,by decide⟩
  ·exact⟨39,rfl,by decide,by decide⟩
 have z0:=zV (mix v 7) (show k≠0 by omega);have z1:=zX (mix v 7) hk0;refine⟨2+mix v 7 % k,by omega,?_⟩;show bA (vB [some (.lst (ns.map D.int)),none] O)=_;unfold vB;simp only[bz,fP,fG,iU,eV,dX,c7,m_c,zC,zA,aQ,ev,fQ,bF,zY,zU,dO,m7,m8,rH,zv,zN,Nat.reduceAdd,Nat.reduceLeDiff,if_true,cT,eU,pH,show(0:Int)<4 from by decide,dz,hk,if_pos hk0,iY,pF,pG]
theorem QpO(l:List LT)(lo:Nat)(w:Int)(hl:l.length<=1000)(hlo:lo<=l.length)(O:aq):yW [.lst (l.map dL),.int (lo:Int),.int w] O=.ok (.lst ((fes l lo w (l.length - lo)).map (fD l lo))) O:=by
 obtain⟨o4,o5,o6,e⟩:=Lr l lo w hl O (l.length - lo) 0 none (by omega)
 have r:j5 (aj (aa 1) (aj (aV bC (aj (aa 0) au)) au)) [some (.lst (l.map dL)),some (.int (lo:Int)),some (.int w),some (.lst []),some (.int 0),some (.int 0),none] O=.ok (bI (lo:Int) (l.length - lo)) O:=by
  have e:(aj (aa 1) (aj (aV bC (aj (aa 0) au)) au)) [some (.lst (l.map dL)),some (.int (lo:Int)),some (.int w),some (.lst []),some (.int 0),some (.int 0),none] O=.ok [.int (lo:Int),.int (l.length:Int)] O:=by
   simp
  rw[DY e (by omega),show((l.length:Int) - (lo:Int)).toNat=l.length - lo by omega]
 have e':cD (mgN 6) qd (bI (lo:Int) (l.length - lo)) [some (.lst (l.map dL)),some (.int (lo:Int)),some (.int w),some (.lst []),some (.int 0),some (.int 0),none] O=_:=e;show bA (aB _ (aB _ (aB _ (aB (b8 _ (mgN 6) qd) _))) [some (.lst (l.map dL)),some (.int (lo:Int)),some (.int w),none,none,none,none] O)=_;simp only[bz,fP,rH,dX,m_c,aQ,zN,Nat.zero_le,if_true,fQ,bF,zY,zU,il,r,ir,e',fG,c7,zA,zC,pF,pG]
theorem ju{m:L2.M D}{ρ:aA}{O O1:aq}{d:D}(h:m ρ O=.ok d O1):aU m ρ O=.rt d O1:=by rw[fG,h];rfl
def ends(l:List LT)(lo:Nat)(w:Int):List (Nat×Int):=match fes l lo w (l.length - lo) with
 | []=>[(rch l lo w,wsum ((l.drop lo).take (rch l lo w - lo)))]
 |k::ks=>(k::ks).map λk=>(lo+k+1,tw l lo (k+1))
def dE(p:Nat×Int):D:=.tup [.int (p.1:Int),.int p.2]
theorem QxU(l:List LT)(lo:Nat)(ks:List Nat):ks.map (fD l lo)=(ks.map λk=>(lo+k+1,tw l lo (k+1))).map dE:=by
 rw[zP]
 refine jb λk _=>?_
 show D.tup [.int (1+((lo+k:Nat):Int)),.int (tw l lo (k+1))]=D.tup [.int ((lo+k+1:Nat):Int),.int (tw l lo (k+1))];rw[show 1+((lo+k:Nat):Int)=((lo+k+1:Nat):Int) by omega]
theorem Ls(l:List LT)(lo:Nat)(w:Int)(hl:l.length<=1000)(hlo:lo<=l.length)(O:aq):rY [.lst (l.map dL),.int (lo:Int),.int w] O=.ok (.lst ((ends l lo w).map dE)) O:=by
 have ef:=QpO l lo w hl hlo O;unfold ends
 cases hf:fes l lo w (l.length - lo) with
 |nil =>
  rw[hf] at ef;have er:=DX l lo w hl hlo O;have rl:=DW l lo w hlo
  have ecut:eE (l.map dL) (some (lo:Int)) (some (rch l lo w:Nat))=((l.drop lo).take (rch l lo w - lo)).map dL:=by
   rw[K6,List.map_take,List.map_drop]
  have ec:=Qu4 ((l.drop lo).take (rch l lo w - lo)) (by rw[List.length_take,List.length_drop];omega) O;show bA (pK [some (.lst (l.map dL)),some (.int (lo:Int)),some (.int w),none,none] O)=_;unfold pK
  have gz:¬(0:Int)>0:=by decide
  have l0:bC [.lst []]=some (.int 0):=rfl;simp only[bz,fP,iU,eV,dX,c7,zC,zA,aQ,ef,zJ,fQ,bF,zY,zU,ig,gf,dO,iV,m_c,zd,eU,l0,dz,cT,pI,zg gz,gK,iW,Bool.false_eq_true,if_false,dY,er,fG,rH,yx,rJ,Jy,m_g,yu,Jx,Jz,ecut,ec,zv,zN,Nat.reduceAdd,Nat.reduceLeDiff,if_true,pF,pG,zK];rfl
 |cons k ks =>
  rw[hf,QxU] at ef
  generalize hds:List.map dE ((k::ks).map λk=>(lo+k+1,tw l lo (k+1)))=ds at ef
  have hn:0<ds.length:=by rw[<-hds,zf,zf,zv];omega
  have gz:(ds.length:Int)>0:=by omega
  show bA (pK [some (.lst (l.map dL)),some (.int (lo:Int)),some (.int w),none,none] O)=_;unfold pK;simp only[bz,fP,iU,eV,dX,c7,zC,zA,aQ,ef,zJ,fQ,bF,zY,zU,ig,gf,dO,iV,m_c,zd,eU,uI,dz,cT,pI,zj gz,gK,iW,if_true,fG,pF,X4,pG]
def bN(l:List LT):List Nat:=(List.range l.length).filter λk=>isB l (.int (1+(k:Int)))
theorem Qwl(l:List LT):brk l=(bN l).map λk:Nat=>D.int (1+(k:Int)):=by
 unfold brk bN bI;rw[List.filter_map];rfl
theorem Lw{l:List LT}{p:Nat}:p∈bN l↔p<l.length/\isB l (.int (1+(p:Int)))=true:=by
 unfold bN;rw[List.mem_filter,List.mem_range]
theorem Qx1(l:List LT):(bN l).Pairwise (· < ·):=List.Pairwise.filter _ List.pairwise_lt_range
def cst(l:List LT)(w:Int)(p:Nat×Int):Int:=if p.1=l.length then 0 else(w - p.2) * (w - p.2)
def strN(n:Nat):List Nat:=(Nat.toDigits 10 n).map Char.toNat
def mvE(l:List LT)(w:Int)(p:Nat×Int):D:=.tup [.int (cst l w p),.str (strN p.1),.tup [.int (p.1:Int),.int 0]]
theorem Qwx(n:Nat)(h:n<1000000000):ph [.int (n:Int)]=some (.str (strN n)):=by
 unfold ph;dsimp only;rw[if_pos ⟨by omega,by omega⟩,Int.toNat_natCast];rfl
theorem Lx{l:List LT}{lo:Nat}{w:Int}(hn:∀j,lo+j+1<=l.length->gd l lo w j=false):∀(n m:Nat),lo+m+1+n=l.length->(∃x,l[lo+m]?=some x/\x.1=32)->tw l lo (m+1)<=w->False
 | 0,m,h,_,ht=>by
  have g:=hn m (by omega);unfold gd at g;rw[Eb (l:=l) (i:=lo+m) (by omega),zj ht] at g;cases g
 |n+1,m,h,⟨x,hx,hx2⟩,ht=>by
  obtain⟨x',y,e1,e2,e3⟩:=Ea (l:=l) (i:=lo+m) (by omega);rw[hx] at e1;cases e1
  by_cases hy:y.1=32
  ·refine Lx hn n (m+1) (by omega) ⟨y,by rw[<-Nat.add_assoc];exact e2,hy⟩ ?_;rw[Lj (l:=l) (lo:=lo) (k:=m+1) (x:=y) (by rw[<-Nat.add_assoc];exact e2) hy];exact ht
  ·have g:=hn m (by omega);unfold gd at g;rw[e3,zj hx2,zg hy,zj ht] at g;cases g
theorem vU{l:List LT}{lo:Nat}{w:Int}{n k:Nat}:k∈fes l lo w n↔k<n/\gd l lo w k=true:=by
 unfold fes;rw[List.mem_filter,List.mem_range]
theorem lW{l:List LT}{lo:Nat}{w:Int}(hlo:lo<l.length)(hw:2<=w):∀p∈ends l lo w,lo<p.1/\p.1<=l.length/\0<=p.2/\p.2<=w/\p.2=tw l lo (p.1 - lo):=by
 intro p hp;unfold ends at hp
 cases hf:fes l lo w (l.length - lo) with
 |nil =>
  rw[hf] at hp;rw[zn.mp hp]
  have hn:∀j,lo+j+1<=l.length->gd l lo w j=false:=λj hj=>by
   cases hg:gd l lo w j with
   |false=>rfl
   |true =>
    have:j∈fes l lo w (l.length - lo):=vU.mpr ⟨by omega,hg⟩
    rw[hf] at this;exact nomatch this
  have r1:=Le l lo w hlo hw;have r2:=DW l lo w (by omega)
  have hfit:rch l lo w - lo=d7 (l.drop lo) w:=by unfold rch;omega
  have s1:=Ec (l.drop lo) w (rch l lo w - lo) (by omega) (by omega);refine⟨r1,r2,tG _,s1,?_⟩;obtain⟨m,hm⟩:∃m,rch l lo w - lo=m+1:=⟨rch l lo w - lo - 1,by omega⟩
  have hlt:lo+m<l.length:=by omega
  have ex:=zp hlt;show wsum ((l.drop lo).take (rch l lo w - lo))=tw l lo (rch l lo w - lo);rw[hm] at s1 ⊢
  generalize l[lo+m]=x at ex
  by_cases hx:x.1=32
  ·exfalso
   exact Lx hn (l.length - (lo+m+1)) m (by omega) ⟨x,ex,hx⟩ (Int.le_trans (Lp l lo (m+1)) s1)
  ·exact(Ln ex hx).symm
 |cons k ks =>
  rw[hf] at hp;obtain⟨j,hj,rfl⟩:=zH.mp hp;rw[<-hf] at hj;obtain⟨h1,h2⟩:=vU.mp hj;unfold gd at h2;rw[zo] at h2;have h3:=jh h2.2;refine⟨by show lo<lo+j+1;omega,by show lo+j+1<=_;omega,tG _,h3,?_⟩;show tw l lo (j+1)=tw l lo (lo+j+1 - lo);rw[show lo+j+1 - lo=j+1 by omega]
theorem Ly(l:List LT)(lo:Nat)(w:Int):(ends l lo w).length<=l.length+1:=by
 unfold ends
 have h:(fes l lo w (l.length - lo)).length<=l.length - lo:=by
  unfold fes
  have:=List.length_filter_le (gd l lo w) (List.range (l.length - lo))
  rwa [List.length_range] at this
 cases hf:fes l lo w (l.length - lo) with
 |nil=>exact Nat.le_add_left _ _
 |cons k ks =>
  rw[hf] at h;dsimp only;rw[zf];omega
theorem Lz{cs:List Str}{f c:Str}{m:L2.M D}{ρ:aA}{O:aq}{n:Nat}{y:D}{fs:List (Str×D)}(ho:m ρ O=.ok (.ob n) O)(hO:O[n]?=some (.ins c fs))(hc:c∈cs)(hy:fs.lookup f=some y):
  fO cs f m ρ O=.ok y O:=by
 rw[Yr,ho,aQ];unfold JQ;dsimp only;rw[hO];dsimp only;rw[if_pos hc,hy]
theorem kZ{c m:Str}{cf:List D->aq->Res D}{mo:L2.M D}{ma:L2.M (List D)}{ρ:aA}{O:aq}{n:Nat}{ds:List D}{fs:List (Str×D)}(ho:mo ρ O=.ok (.ob n) O)(hO:O[n]?=some (.ins c fs))(hm:(fs.lookup m).isNone=true)(ha:ma ρ O=.ok ds O):
  cF c m cf mo ma ρ O=cf (.ob n::ds) O:=by
 rw[Yu,ho,aQ];unfold meF;dsimp only;rw[hO];dsimp only;rw[if_pos ⟨rfl,hm⟩,ha,aQ]
theorem qe{m:L2.M (List D)}{own:Nat}{cap:List Nat}{g:MG}{t:L2.M Bool}{e:L2.M D}{ρ ρ0:aA}{O:aq}{ds ys:List D}(h:m ρ O=.ok ds O)(hl:ds.length<=1000000)(h0:jE own cap ρ=ρ0)(hc:dw g t e ds ρ0 O []=.ok ys O):dD m own cap g t e ρ O=.ok (.lst ys) O:=by
 rw[uH,h,aQ,if_pos hl,h0,hc,aQ]
theorem lg{m:L2.M D}{ρ:aA}{O:aq}{l:List D}(h:m ρ O=.ok (.lst l) O):cQ m ρ O=.ok l O:=by
 rw[uG,h,aQ,yC,uF]
theorem sq{a b:MS}{ρ ρ':aA}{O O':aq}(h:a ρ O=.nx ρ' O'):aB a b ρ O=b ρ' O':=by
 rw[bz,h,bF]
theorem vV{i:Nat}{m:L2.M D}{ρ:aA}{O O':aq}{d:D}(h:m ρ O=.ok d O'):aH i m ρ O=.nx (ρ.set i (some d)) O':=by
 rw[fP,h,fQ]
abbrev Nd:=Int×Int
def nN(n:Nd):D:=.tup [.int n.1,.int n.2]
def key(n:Nd):List Key:=[.inl n.1,.inl n.2]
structure M3 where
 cost:Int
 name:List Nat
 other:Nd
def d3(m:M3):D:=.tup [.int m.cost,.str m.name,nN m.other]
def oD:Option Int->D
 |none=>.non
 |some i=>.int i
abbrev Tb:=List (Nd×Option Int)
def tab(ps:Tb):List (List Key×D):=ps.map λx=>(key x.1,oD x.2)
def lk(ps:Tb)(n:Nd):Option (Option Int):=(ps.find? λx=>decide (x.1=n)).map (·.2)
def pu(ps:Tb)(n:Nd)(v:Option Int):Tb:=if(ps.any λx=>decide (x.1=n))=true then ps.map (λx=>if x.1=n then(x.1,v) else x) else ps++[(n,v)]
theorem tH(n:Nd):qZ (nN n)=some (key n):=rfl
theorem tK{a b:Nd}:key a=key b↔a=b:=by
 obtain⟨a1,a2⟩:=a;obtain⟨b1,b2⟩:=b;unfold key;simp
theorem LC(n:Nd):∀ps:Tb,gH (tab ps) (key n)=(lk ps n).map oD
 | []=>rfl
 |x::ps=>by
  have ih:=LC n ps;unfold gH lk tab at *;rw[zd,List.find?_cons,List.find?_cons]
  by_cases h:x.1=n
  ·simp[h]
  ·have h':¬key x.1=key n:=λz=>h (tK.mp z)
   simp only[h,h',decide_false];exact ih
theorem LK(n:Nd):∀ps:Tb,((tab ps).any λp=>decide (p.1=key n))=ps.any λx=>decide (x.1=n)
 | []=>rfl
 |x::ps=>by
  have ih:=LK n ps;unfold tab at *;rw[zd,List.any_cons,List.any_cons,ih];congr 1;exact decide_eq_decide.mpr tK
theorem Quh(ps:Tb)(n:Nd)(v:Option Int):nC (tab ps) (key n) (oD v)=tab (pu ps n v):=by
 unfold nC pu;rw[LK]
 split
 ·unfold tab;rw[zP,zP]
  refine jb λx _=>?_
  by_cases h:x.1=n
  ·simp[h]
  ·have h':¬key x.1=key n:=λz=>h (tK.mp z)
   simp[h,h']
 ·unfold tab;rw[zQ];rfl
theorem Ed{n:Nd}:∀{ps:Tb},(ps.any λx=>decide (x.1=n))=false->lk ps n=none
 | [],_=>rfl
 |x::ps,h=>by
  rw[List.any_cons,Bool.or_eq_false_iff] at h
  have:=Ed h.2
  unfold lk at *;rw[List.find?_cons,h.1];exact this
theorem qg(x:Nd×Option Int)(ps:Tb)(n:Nd):lk (x::ps) n=if x.1=n then some x.2 else lk ps n:=by
 unfold lk;rw[List.find?_cons]
 by_cases h:x.1=n
 ·simp[h]
 ·simp[h]
theorem LQ(n:Nd)(y:Nd×Option Int):∀ps:Tb,lk (ps++[y]) n=if(lk ps n).isSome=true then lk ps n else if y.1=n then some y.2 else none
 | []=>by
  rw[zK,qg];rfl
 |x::ps=>by
  rw[List.cons_append,qg,qg,LQ n y ps]
  by_cases h:x.1=n
  ·simp[h]
  ·simp[h]
theorem LR(n m:Nd)(v:Option Int):∀ps:Tb,lk (ps.map λx=>if x.1=n then(x.1,v) else x) m=if m=n then(lk ps m).map λ_=>v else lk ps m
 | []=>by simp[lk]
 |x::ps=>by
  rw[zd,qg,qg,LR n m v ps]
  by_cases h:x.1=n
  ·by_cases hm:m=n
   ·subst hm;simp[h]
   ·have:¬n=m:=λz=>hm z.symm
    simp[h,hm,this]
  ·by_cases hx:x.1=m
   ·have:¬m=n:=λz=>h (hx.trans z)
    simp[h,hx,this]
   ·simp[h,hx]
theorem Ma{n:Nd}:∀{ps:Tb},(ps.any λx=>decide (x.1=n))=true->(lk ps n).isSome=true
 |x::ps,h=>by
  rw[qg]
  by_cases hx:x.1=n
  ·simp[hx]
  ·rw[if_neg hx];rw[List.any_cons,zg hx,Bool.false_or] at h;exact Ma h
theorem Mf(ps:Tb)(n m:Nd)(v:Option Int):lk (pu ps n v) m=if m=n then some v else lk ps m:=by
 unfold pu
 split
 ·rename_i h;rw[LR]
  split
  ·rename_i hm;subst hm
   have:=Ma h
   cases e:lk ps m with
   |none=>rw[e] at this;cases this
   |some w=>rfl
  ·rfl
 ·rename_i h;have h0:=Ed (Bool.eq_false_iff.mpr h);rw[LQ]
  by_cases hm:m=n
  ·subst hm;simp[h0]
  ·have:¬n=m:=λz=>hm z.symm
   simp[hm,this]
   cases lk ps m<;>simp
theorem QtT(ps:Tb)(n:Nd)(v:Option Int):(pu ps n v).length<=ps.length+1:=by
 unfold pu
 split
 ·rw[zf];omega
 ·rw[zz];exact zc _
theorem Qvd{ps:Tb}{n:Nd}{v:Option Int}(h:(lk ps n).isSome=true):(pu ps n v).length=ps.length:=by
 unfold pu
 split
 ·rw[zf]
 ·rename_i h';rw[Ed (Bool.eq_false_iff.mpr h')] at h;cases h
theorem Ef{mo my:L2.M D}{ρ:aA}{O:aq}{p:Nat}{ps:Tb}{n:Nd}{v:Option Int}(h1:mo ρ O=.ok (.ob p) O)(h2:O[p]?=some (.dt (tab ps)))(h3:my ρ O=.ok (nN n) O)(h4:lk ps n=some v):dG mo my ρ O=.ok (oD v) O:=by
 unfold dG;rw[h1];dsimp only[aQ];rw[h3];dsimp only[aQ];unfold tsG;rw[tH,h2];dsimp only;unfold tsF;rw[tH,h2];dsimp only;rw[LC,h4];rfl
theorem Mg{mo my mv:L2.M D}{ρ:aA}{O:aq}{p:Nat}{ps:Tb}{n:Nd}{v:Option Int}(h0:mv ρ O=.ok (oD v) O)(h1:mo ρ O=.ok (.ob p) O)(h2:O[p]?=some (.dt (tab ps)))(h3:my ρ O=.ok (nN n) O)(hl:ps.length<1000000):gJ mo my mv ρ O=.nx ρ (O.set p (.dt (tab (pu ps n v)))):=by
 unfold gJ;rw[h0];dsimp only;rw[h1];dsimp only;rw[h3];dsimp only;rw[tH,h2];dsimp only;rw[if_pos (by unfold tab;rw[zf];exact hl),Quh]
def co(ps:Tb)(m:M3):Option Int:=match lk ps m.other with
 |some (some b)=>some (m.cost+b)
 | _=>none
def lc(ps:Tb)(ms:List M3):Option Int:=mdI none (ms.filterMap (co ps))
theorem Mh{O:aq}{p:Nat}{ps:Tb}{m:M3}(hp:O[p]?=some (.dt (tab ps)))(hm:(lk ps m.other).isSome=true):kJ [d3 m,.ob p] O=.ok (oD (co ps m)) O:=by
 obtain⟨v,hv⟩:=Option.isSome_iff_exists.mp hm;have s1:dG (mG (aa 1)) (ak gIx (aa 0) (mC (.int 2))) [some (d3 m),some (.ob p),none] O=.ok (oD v) O:=Ef rfl hp (bJ rfl rfl rfl) hv;show bA (uP [some (d3 m),some (.ob p),none] O)=_;unfold uP;rw[sq (cG s1),fG];unfold co;rw[hv]
 cases v with
 |none=>rfl
 |some b=>rfl
theorem ints_map:∀is:List Int,gD (is.map D.int)=some is
 | []=>rfl
 |i::is=>by
  show(gD (is.map D.int)).map (i :: ·)=_;rw[ints_map is];rfl
theorem Mi(ps:Tb):∀ms:List M3,(ms.map λm=>oD (co ps m)).filter (λd=>!isNon d)=(ms.filterMap (co ps)).map D.int
 | []=>rfl
 |m::ms=>by
  rw[zd,List.filter_cons,List.filterMap_cons,Mi ps ms]
  cases co ps m<;>rfl
theorem Mj{O:aq}{p:Nat}{ps:Tb}{ms:List M3}(hp:O[p]?=some (.dt (tab ps)))(hm:∀m∈ms,(lk ps m.other).isSome=true)(hl:ms.length<=1000):nP [.lst (ms.map d3),.ob p] O=.ok (oD (lc ps ms)) O:=by
 have c1:dw (mgN 0) dN (aK kJ (aj (aa 0) (aj (aa 1) au))) (ms.map d3) [none,some (.ob p)] O []=.ok (ms.map λm=>oD (co ps m)) O:=by
  rw[lL (λρ=>∃a,ρ=[a,some (.ob p)]) d3 (λm=>oD (co ps m)) ms _ _ _ ⟨none,rfl⟩ (by
   rintro m hm' ρ ⟨a,rfl⟩
   exact⟨_,rfl,⟨_,rfl⟩,rfl,(bV (maS rfl (ma1 rfl))).trans (Mh hp (hm m hm'))⟩)]
  rw[zK]
 have s1:dD (cQ (aa 0)) 1 [1] (mgN 0) dN (aK kJ (aj (aa 0) (aj (aa 1) au))) [some (.lst (ms.map d3)),some (.ob p),none] O=.ok (.lst (ms.map λm=>oD (co ps m))) O:=qe (lg rfl) (by rw[zf];omega) rfl c1
 have c2:dw (mgN 0) (aJ (iM (aa 0))) (aa 0) (ms.map λm=>oD (co ps m)) [none] O []=.ok ((ms.filterMap (co ps)).map D.int) O:=by
  rw[JK (λρ=>∃a,ρ=[a]) (λd=>!isNon d) _ _ _ _ ⟨none,rfl⟩ (by
   rintro d hd ρ ⟨a,rfl⟩
   exact⟨_,rfl,⟨_,rfl⟩,rfl,rfl⟩)]
  rw[zK,Mi]
 have s2:dD (cQ (aa 2)) 1 [] (mgN 0) (aJ (iM (aa 0))) (aa 0) [some (.lst (ms.map d3)),some (.ob p),some (.lst (ms.map λm=>oD (co ps m)))] O=.ok (.lst ((ms.filterMap (co ps)).map D.int)) O:=qe (lg rfl) (by rw[zf];omega) rfl c2
 have s3:aV uz (aj (dD (cQ (aa 2)) 1 [] (mgN 0) (aJ (iM (aa 0))) (aa 0)) au) [some (.lst (ms.map d3)),some (.ob p),some (.lst (ms.map λm=>oD (co ps m)))] O=.ok (oD (lc ps ms)) O:=kY (ma1 s2) (by
  show(gD ((ms.filterMap (co ps)).map D.int)).map _=_;rw[ints_map];show some (match mdI none (ms.filterMap (co ps)) with | some m=>D.int m | none=>D.non)=some (oD (mdI none (ms.filterMap (co ps))))
  cases mdI none (ms.filterMap (co ps))<;>rfl)
 show bA (uQ [some (.lst (ms.map d3)),some (.ob p),none] O)=_;unfold uQ;rw[sq (cG s1),fG];exact congrArg (λr=>bA (nJ r)) s3
theorem Ml{ps ps':Tb}:∀{ms:List M3},(∀m∈ms,lk ps' m.other=lk ps m.other)->ms.filterMap (co ps')=ms.filterMap (co ps)
 | [],_=>rfl
 |m::ms,h=>by
  have e:co ps' m=co ps m:=by
   unfold co;rw[h m zx]
  rw[List.filterMap_cons,List.filterMap_cons,e,Ml λx hx=>h x (zB _ hx)]
theorem vW{ps ps':Tb}{ms:List M3}(h:∀m∈ms,lk ps' m.other=lk ps m.other):lc ps' ms=lc ps ms:=by
 unfold lc;rw[Ml h]
structure Trl(t:Nat)(fs:List (Str×D))(N:Nat)(nodes:Nat->List Nd)(mv:Nd->List M3)(fin:Nd->Bool):Prop where
 na:∀(O:aq) (a:Nat),O[t]?=some (.ins "Even" fs)->a<=N->pM [.ob t,.int a] O=.ok (.lst ((nodes a).map nN)) O
 mf:∀(O:aq) (a:Nat) (n:Nd),O[t]?=some (.ins "Even" fs)->a<=N->n∈nodes a->jO [.ob t,nN n] O=.ok (.lst ((mv n).map d3)) O
 ie:∀(O:aq) (a:Nat) (n:Nd),O[t]?=some (.ins "Even" fs)->a<=N->n∈nodes a->iw [.ob t,nN n] O=.ok (.bl (fin n)) O
 la:∀O:aq,O[t]?=some (.ins "Even" fs)->su [.ob t] O=.ok (.int N) O
 fi:∀O:aq,O[t]?=some (.ins "Even" fs)->sE [.ob t] O=.ok (nN (0,0)) O
 f0:((0,0):Nd)∈nodes 0
 nd:∀a,(nodes a).Nodup
 ln:∀a,(nodes a).length<=1
 fw:∀(a:Nat) (n:Nd),a<=N->n∈nodes a->∀m∈mv n,∃b,a<b/\b<=N/\m.other∈nodes b
 sp:∀(a b:Nat) (n:Nd),n∈nodes a->n∈nodes b->a=b
 ml:∀n,(mv n).length<=1000
 fe:∀n,fin n=true->mv n=[]
 u1:(fs.lookup ("nodes_at":Str)).isNone=true
 u2:(fs.lookup ("moves_from":Str)).isNone=true
 u3:(fs.lookup ("is_end":Str)).isNone=true
 u4:(fs.lookup ("last_at":Str)).isNone=true
 u5:(fs.lookup ("first_node":Str)).isNone=true
 hN:N<=1000
def cA(mv:Nd->List M3)(ns:List Nd):List (List Key×D):=ns.map λn=>(key n,D.lst ((mv n).map d3))
theorem Mm(mv:Nd->List M3)(n:Nd):∀ns:List Nd,((cA mv ns).any λp=>decide (p.1=key n))=decide (n∈ns)
 | []=>rfl
 |x::ns=>by
  have ih:=Mm mv n ns;unfold cA at *;rw[zd,List.any_cons,ih]
  by_cases h:x=n
  ·subst h;simp
  ·have h1:¬key x=key n:=λz=>h (tK.mp z)
   have h2:¬n=x:=λz=>h z.symm
   simp[h1,h2]
theorem QsQ{mv:Nd->List M3}{ns:List Nd}{n:Nd}(h:n∉ns):nC (cA mv ns) (key n) (.lst ((mv n).map d3))=cA mv (ns++[n]):=by
 unfold nC;rw[Mm,zg h,if_neg zh];unfold cA;rw[zQ];rfl
theorem Mp(mv:Nd->List M3)(n:Nd):∀ns:List Nd,n∈ns->gH (cA mv ns) (key n)=some (.lst ((mv n).map d3))
 |x::ns,h=>by
  unfold gH cA;rw[zd,List.find?_cons]
  by_cases hx:x=n
  ·subst hx;simp
  ·have h1:¬key x=key n:=λz=>hx (tK.mp z)
   simp only[h1,decide_false]
   rcases zk.mp h with rfl | h
   ·exact absurd rfl hx
   ·exact Mp mv n ns h
theorem QqA(mv:Nd->List M3)(ns:List Nd):(cA mv ns).map ym=ns.map nN:=by
 unfold cA;rw[zP];rfl
def B_1:MS:=(aB (gJ (aa 3) (aa 4) (cF "Even" "moves_from" jO (mG (aa 0)) (aj (aa 4) au)))
  (gJ (mG (aa 2)) (aa 4) (mIf (cj (cF "Even" "is_end" iw (mG (aa 0)) (aj (aa 4) au))) (mC (.int 0)) (mC .non))))
def ini(fin:Nd->Bool)(n:Nd):Option Int:=if fin n=true then some 0 else none
theorem tL{O:aq}{i j:Nat}{x y:Ob}(h1:O[i]?=some x)(h2:O[j]?=some y)(h:x≠y):i≠j:=λz=>by
 rw[z,h2] at h1;exact h (zt h1).symm
theorem tO{O:aq}{i:Nat}{x y:Ob}(e:O[i]?=some x):(O.set i y)[i]?=some y:=by
 obtain⟨h,_⟩:=zl.mp e;simp[h]
section
variable {t:Nat}{fs:List (Str×D)}{N:Nat}{nodes:Nat->List Nd}{mv:Nd->List M3}{fin:Nd->Bool}{p q:Nat}
theorem QsW(T:Trl t fs N nodes mv fin){a:Nat}(ha:a<=N){n:Nd}(hn:n∈nodes a){pre:List Nd}(hp':n∉pre){O:aq}{cur:Tb}(ht:O[t]?=some (.ins "Even" fs))(hp:O[p]?=some (.dt (tab cur)))(hq:O[q]?=some (.dt (cA mv pre)))(hpq:p≠q)(hl:cur.length<1000000)(hl2:pre.length<1000000)(o5 o6:Option D):
  B_1 [some (.ob t),some (.int a),some (.ob p),some (.ob q),some (nN n),o5,o6] O=.nx [some (.ob t),some (.int a),some (.ob p),some (.ob q),some (nN n),o5,o6] ((O.set q (.dt (cA mv (pre++[n])))).set p (.dt (tab (pu cur n (ini fin n))))):=by
 have tq:t≠q:=tL ht hq (λz=>nomatch z);have tp:t≠p:=tL ht hp (λz=>nomatch z);have e1:cF "Even" "moves_from" jO (mG (aa 0)) (aj (aa 4) au) [some (.ob t),some (.int a),some (.ob p),some (.ob q),some (nN n),o5,o6] O=.ok (.lst ((mv n).map d3)) O:=(kZ rfl ht T.u2 (ma1 rfl)).trans (T.mf O a n ht ha hn)
 have s1:gJ (aa 3) (aa 4) (cF "Even" "moves_from" jO (mG (aa 0)) (aj (aa 4) au)) [some (.ob t),some (.int a),some (.ob p),some (.ob q),some (nN n),o5,o6] O=.nx [some (.ob t),some (.int a),some (.ob p),some (.ob q),some (nN n),o5,o6] (O.set q (.dt (cA mv (pre++[n])))):=by
  unfold gJ;rw[e1];dsimp only;rw[show(aa 3) [some (.ob t),some (.int a),some (.ob p),some (.ob q),some (nN n),o5,o6] O=.ok (.ob q) O from rfl];dsimp only;rw[show(aa 4) [some (.ob t),some (.int a),some (.ob p),some (.ob q),some (nN n),o5,o6] O=.ok (nN n) O from rfl];dsimp only;rw[tH,hq];dsimp only;rw[if_pos (by unfold cA;rw[zf];exact hl2),QsQ hp']
 have ht':(O.set q (.dt (cA mv (pre++[n]))))[t]?=some (.ins "Even" fs):=by rw[zr (Ne.symm tq)];exact ht
 have hp2:(O.set q (.dt (cA mv (pre++[n]))))[p]?=some (.dt (tab cur)):=by rw[zr (Ne.symm hpq)];exact hp
 have e2:cF "Even" "is_end" iw (mG (aa 0)) (aj (aa 4) au) [some (.ob t),some (.int a),some (.ob p),some (.ob q),some (nN n),o5,o6] (O.set q (.dt (cA mv (pre++[n]))))=.ok (.bl (fin n)) (O.set q (.dt (cA mv (pre++[n])))):=(kZ rfl ht' T.u3 (ma1 rfl)).trans (T.ie _ a n ht' ha hn)
 have e3:mIf (cj (cF "Even" "is_end" iw (mG (aa 0)) (aj (aa 4) au))) (mC (.int 0)) (mC .non) [some (.ob t),some (.int a),some (.ob p),some (.ob q),some (nN n),o5,o6] (O.set q (.dt (cA mv (pre++[n]))))=.ok (oD (ini fin n)) (O.set q (.dt (cA mv (pre++[n])))):=by
  rw[yw,nG,e2,aQ,lJ,nH,nF,aQ];unfold ini
  cases fin n<;>rfl
 unfold B_1;rw[sq s1];exact Mg e3 rfl hp2 rfl hl
theorem Mq(T:Trl t fs N nodes mv fin){a:Nat}(ha:a<=N)(hpq:p≠q)(o5 o6:Option D):∀(rest pre:List Nd) (O:aq) (cur:Tb) (o4:Option D),(∀n∈rest,n∈nodes a)->(pre++rest).Nodup->O[t]?=some (.ins "Even" fs)->O[p]?=some (.dt (tab cur))->O[q]?=some (.dt (cA mv pre))->cur.length+rest.length<1000000->pre.length+rest.length<1000000 ->
  ∃O' cur' o4',cD (mgN 4) B_1 (rest.map nN) [some (.ob t),some (.int a),some (.ob p),some (.ob q),o4,o5,o6] O=.nx [some (.ob t),some (.int a),some (.ob p),some (.ob q),o4',o5,o6] O'/\O'[p]?=some (.dt (tab cur'))/\O'[q]?=some (.dt (cA mv (pre++rest)))/\(∀j,j≠p->j≠q->O'[j]?=O[j]?)/\(∀n,lk cur' n=if n∈rest then some (ini fin n) else lk cur n)/\cur'.length<=cur.length+rest.length
 | [],pre,O,cur,o4,_,_,_,hp,hq,_,_=>⟨O,cur,o4,rfl,hp,by rw[zZ];exact hq,λ_ _ _=>rfl,λn=>by simp,zc _⟩
 |n::rest,pre,O,cur,o4,hr,hd,ht,hp,hq,hl,hl2=>by
  rw[zv] at hl hl2;have hn:=hr n zx
  have hnp:n∉pre:=λz=>(jo.mp hd).2.2 n z n zx rfl
  have hnr:n∉rest:=λz=>(List.nodup_cons.mp (jo.mp hd).2.1).1 z
  have eb:=QsW T ha hn hnp ht hp hq hpq (by omega) (by omega) o5 o6;have tq:t≠q:=tL ht hq (λz=>nomatch z);have tp:t≠p:=tL ht hp (λz=>nomatch z);have hpl:=QtT cur n (ini fin n);obtain⟨O',cur',o4',e,h1,h2,h3,h4,h5⟩:=Mq T ha hpq o5 o6 rest (pre++[n]) ((O.set q (.dt (cA mv (pre++[n])))).set p (.dt (tab (pu cur n (ini fin n))))) (pu cur n (ini fin n)) (some (nN n)) (λm hm=>hr m (zB _ hm)) (by rw[jc];exact hd)
   (by rw[zr (Ne.symm tp),zr (Ne.symm tq)];exact ht) (tO (by rw[zr (Ne.symm hpq)];exact hp)) (by rw[zr hpq];exact tO hq) (by omega) (by rw[zz,ja];omega)
  refine⟨O',cur',o4',?_,h1,by rw[jc] at h2;exact h2,λj j1 j2=>?_,λm=>?_,by rw[zv];omega⟩
  ·rw[zd];unfold cD;rw[mg_n];dsimp only
   show(match B_1 [some (.ob t),some (.int a),some (.ob p),some (.ob q),some (nN n),o5,o6] O with
    | .nx ρ' O'=>cD _ _ (rest.map nN) ρ' O' | .ct ρ' O'=>cD _ _ (rest.map nN) ρ' O' | .bk ρ' O'=>Fl.nx ρ' O' | r=>r)=_
   rw[eb];exact e
  ·rw[h3 j j1 j2,zr (Ne.symm j1),zr (Ne.symm j2)]
  ·rw[h4 m,Mf]
   by_cases hm:m=n
   ·subst hm;simp[hnr]
   ·simp[hm]
end
theorem QwT{mo my:L2.M D}{ρ:aA}{O:aq}{q:Nat}{kvs:List (List Key×D)}{n:Nd}{d:D}(h1:mo ρ O=.ok (.ob q) O)(h2:O[q]?=some (.df kvs))(h3:my ρ O=.ok (nN n) O)(h4:gH kvs (key n)=some d):dG mo my ρ O=.ok d O:=by
 unfold dG;rw[h1];dsimp only[aQ];rw[h3];dsimp only[aQ];unfold tsG;rw[tH,h2];dsimp only;rw[h4]
def B_r:MS:=(aB (aH 6 (aK nP (aj (dG (aa 3) (aa 4)) (aj (aa 2) au))))
  (bh (dC (aJ (iM (aa 6))) (cX (aJ (jB (dG (mG (aa 2)) (aa 4)))) (aJ (ak gLt (aa 6) (dG (mG (aa 2)) (aa 4)))))) (aB (gJ (mG (aa 2)) (aa 4) (aa 6))
  (aH 5 (mC (.bl true)))) bx))
def better(v L:Option Int):Bool:=match L with
 |none=>false
 |some c=>match v with
  |none=>true
  |some w=>decide (c<w)
section
variable {t:Nat}{fs:List (Str×D)}{N:Nat}{nodes:Nat->List Nd}{mv:Nd->List M3}{fin:Nd->Bool}{p q:Nat}
theorem QxC{ns:List Nd}{n:Nd}(hn:n∈ns){O:aq}{cur:Tb}{v:Option Int}(hp:O[p]?=some (.dt (tab cur)))(hq:O[q]?=some (.df (cA mv ns)))(hv:lk cur n=some v)(hm:∀m∈mv n,(lk cur m.other).isSome=true)(hml:(mv n).length<=1000)(hl:cur.length<1000000)(b:Bool)(a0 a1 o6:Option D):
  B_r [a0,a1,some (.ob p),some (.ob q),some (nN n),some (.bl b),o6] O=.nx [a0,a1,some (.ob p),some (.ob q),some (nN n),some (.bl (b || better v (lc cur (mv n)))),some (oD (lc cur (mv n)))] (if better v (lc cur (mv n))=true then O.set p (.dt (tab (pu cur n (lc cur (mv n))))) else O):=by
 have s1:dG (aa 3) (aa 4) [a0,a1,some (.ob p),some (.ob q),some (nN n),some (.bl b),o6] O=.ok (.lst ((mv n).map d3)) O:=QwT rfl hq rfl (Mp mv n ns hn);have s2:aK nP (aj (dG (aa 3) (aa 4)) (aj (aa 2) au)) [a0,a1,some (.ob p),some (.ob q),some (nN n),some (.bl b),o6] O=.ok (oD (lc cur (mv n))) O:=(bV (maS s1 (ma1 rfl))).trans (Mj hp hm hml)
 have e2:∀o6':Option D,dG (mG (aa 2)) (aa 4) [a0,a1,some (.ob p),some (.ob q),some (nN n),some (.bl b),o6'] O=.ok (oD v) O:=λo6'=>Ef rfl hp rfl hv
 unfold B_r;rw[sq (cG s2)];show bh _ _ _ [a0,a1,some (.ob p),some (.ob q),some (nN n),some (.bl b),some (oD (lc cur (mv n)))] O=_
 cases hL:lc cur (mv n) with
 |none =>
  refine(if_no ?_).trans ?_
  ·rw[jL];rfl
  ·show Fl.nx _ O=_;simp[better]
 |some c =>
  have hput:(aB (gJ (mG (aa 2)) (aa 4) (aa 6)) (aH 5 (mC (.bl true)))) [a0,a1,some (.ob p),some (.ob q),some (nN n),some (.bl b),some (oD (some c))] O=.nx [a0,a1,some (.ob p),some (.ob q),some (nN n),some (.bl true),some (oD (some c))] (O.set p (.dt (tab (pu cur n (some c))))):=by
   rw[sq (Mg (v:=some c) rfl rfl hp rfl hl)];rfl
  have tA:aJ (iM (aa 6)) [a0,a1,some (.ob p),some (.ob q),some (nN n),some (.bl b),some (oD (some c))] O=.ok true O:=rfl
  have tB:aJ (jB (dG (mG (aa 2)) (aa 4))) [a0,a1,some (.ob p),some (.ob q),some (nN n),some (.bl b),some (oD (some c))] O=.ok (isNon (oD v)) O:=by
   rw[gf,XS,e2,aQ,aQ,gK]
  cases v with
  |none =>
   refine(jt ?_).trans ?_
   ·rw[jL,tA,aQ,if_pos rfl,uD,tB,aQ];rfl
   ·rw[hput];simp[better]
  |some w =>
   have tC:aJ (ak gLt (aa 6) (dG (mG (aa 2)) (aa 4))) [a0,a1,some (.ob p),some (.ob q),some (nN n),some (.bl b),some (oD (some c))] O=.ok (decide (c<w)) O:=lU (bJ (x:=.int c) rfl (e2 _) rfl)
   have tD:dC (aJ (iM (aa 6))) (cX (aJ (jB (dG (mG (aa 2)) (aa 4)))) (aJ (ak gLt (aa 6) (dG (mG (aa 2)) (aa 4))))) [a0,a1,some (.ob p),some (.ob q),some (nN n),some (.bl b),some (oD (some c))] O=.ok (decide (c<w)) O:=by
    rw[jL,tA,aQ,if_pos rfl,uD,tB,aQ];exact tC
   by_cases hw:c<w
   ·rw[zj hw] at tD;rw[jt tD,hput];simp[better,hw]
   ·rw[zg hw] at tD;rw[if_no tD];show Fl.nx _ O=_;simp[better,hw]
def fnl(fin:Nd->Bool)(L:Nd->Option Int)(n:Nd):Option Int:=if fin n=true then some 0 else L n
theorem Qpm{fin:Nd->Bool}{L:Nd->Option Int}{n:Nd}{v:Option Int}(hf:fin n=true->L n=none)(hv:v=ini fin n\/v=fnl fin L n):(if better v (L n)=true then L n else v)=fnl fin L n:=by
 unfold fnl ini at *
 cases h:fin n with
 |true =>
  have:=hf h
  rw[this];rw[h] at hv
  rcases hv with rfl | rfl<;>rfl
 |false =>
  rw[h] at hv
  rcases hv with rfl | rfl
  ·cases L n<;>rfl
  ·simp only[Bool.false_eq_true,if_false]
   split<;>rfl
theorem Qn2{fin:Nd->Bool}{L:Nd->Option Int}{n:Nd}(hf:fin n=true->L n=none):better (fnl fin L n) (L n)=false:=by
 unfold fnl
 cases h:fin n with
 |true =>
  rw[hf h];rfl
 |false =>
  simp only[Bool.false_eq_true,if_false]
  cases L n with
  |none=>rfl
  |some c=>simp[better]
theorem Mr(T:Trl t fs N nodes mv fin){a:Nat}(ha:a<=N){base:Tb}(hb:∀n∈nodes a,∀m∈mv n,(lk base m.other).isSome=true)(st:Nd->Option Int)(hst:∀n∈nodes a,st n=ini fin n\/st n=fnl fin (λn=>lc base (mv n)) n)(a0 a1:Option D):
  ∀(rest:List Nd) (O:aq) (cur:Tb) (b:Bool) (o4 o6:Option D),(∀n∈rest,n∈nodes a)->rest.Nodup->O[p]?=some (.dt (tab cur))->O[q]?=some (.df (cA mv (nodes a)))->p≠q->(∀m,m∉nodes a->lk cur m=lk base m)->(∀n∈rest,lk cur n=some (st n))->cur.length<1000000 ->
  ∃O' cur' o4' o6',cD (mgN 4) B_r (rest.map nN) [a0,a1,some (.ob p),some (.ob q),o4,some (.bl b),o6] O=.nx [a0,a1,some (.ob p),some (.ob q),o4',some (.bl (b || rest.any λn=>better (st n) (lc base (mv n)))),o6'] O'/\O'[p]?=some (.dt (tab cur'))/\(∀j,j≠p->O'[j]?=O[j]?)/\(∀m,lk cur' m=if m∈rest then some (fnl fin (λn=>lc base (mv n)) m) else lk cur m)/\cur'.length<=cur.length
 | [],O,cur,b,o4,o6,_,_,hp,_,_,_,_,_=>⟨O,cur,o4,o6,by simp[cD],hp,λ_ _=>rfl,λm=>by simp,zc _⟩
 |n::rest,O,cur,b,o4,o6,hr,hd,hp,hq,hpq,hc,hs,hl=>by
  have hn:=hr n zx;have hd':=List.nodup_cons.mp hd
  have far:∀m∈mv n,m.other∉nodes a:=λm hm z=>by
   obtain⟨b,b1,b2,b3⟩:=T.fw a n ha hn m hm
   have:=T.sp a b _ z b3
   omega
  have eL:lc cur (mv n)=lc base (mv n):=vW λm hm=>hc _ (far m hm)
  have hm:∀m∈mv n,(lk cur m.other).isSome=true:=λm hm=>by rw[hc _ (far m hm)];exact hb n hn m hm
  have eb:=QxC hn hp hq (hs n zx) hm (T.ml n) hl b a0 a1 o6;rw[eL] at eb;have fx:=Qpm (L:=λn=>lc base (mv n)) (λh=>by show lc base (mv n)=none;rw[T.fe n h];rfl) (hst n hn)
  have hsome:(lk cur n).isSome=true:=by rw[hs n zx];rfl
  have go:∀(O1:aq) (cur1:Tb),O1[p]?=some (.dt (tab cur1))->(∀j,j≠p->O1[j]?=O[j]?)->(∀m,lk cur1 m=if m=n then some (fnl fin (λn=>lc base (mv n)) n) else lk cur m)->cur1.length<=cur.length->(if better (st n) (lc base (mv n))=true then O.set p (.dt (tab (pu cur n (lc base (mv n))))) else O)=O1 ->
    ∃O' cur' o4' o6',cD (mgN 4) B_r ((n::rest).map nN) [a0,a1,some (.ob p),some (.ob q),o4,some (.bl b),o6] O=.nx [a0,a1,some (.ob p),some (.ob q),o4',some (.bl (b || (n::rest).any λn=>better (st n) (lc base (mv n)))),o6'] O'/\O'[p]?=some (.dt (tab cur'))/\(∀j,j≠p->O'[j]?=O[j]?)/\(∀m,lk cur' m=if m∈n::rest then some (fnl fin (λn=>lc base (mv n)) m) else lk cur m)/\cur'.length<=cur.length:=λO1 cur1 k1 k2 k3 k4 k5=>by
   obtain⟨O',cur',o4',o6',e,g1,g2,g3,g4⟩:=Mr T ha hb st hst a0 a1 rest O1 cur1 (b || better (st n) (lc base (mv n))) (some (nN n)) (some (oD (lc base (mv n)))) (λm hm=>hr m (zB _ hm)) hd'.2 k1 ((k2 q (Ne.symm hpq)).trans hq) hpq (λm hm=>by
     rw[k3 m,if_neg (λz:m=n=>hm (by rw[z];exact hn))]
     exact hc m hm) (λm hm=>by
     rw[k3 m,if_neg (λz:m=n=>hd'.1 (by rw[<-z];exact hm))]
     exact hs m (zB _ hm)) (by omega)
   refine⟨O',cur',o4',o6',?_,g1,λj hj=>(g2 j hj).trans (k2 j hj),λm=>?_,by omega⟩
   ·rw[zd];unfold cD;rw[mg_n];dsimp only
    show(match B_r [a0,a1,some (.ob p),some (.ob q),some (nN n),some (.bl b),o6] O with
     | .nx ρ' O'=>cD _ _ (rest.map nN) ρ' O' | .ct ρ' O'=>cD _ _ (rest.map nN) ρ' O' | .bk ρ' O'=>Fl.nx ρ' O' | r=>r)=_
    rw[eb,k5];rw[List.any_cons,<-Bool.or_assoc];exact e
   ·rw[g3 m,k3 m]
    by_cases hmn:m=n
    ·subst hmn;simp[hd'.1]
    ·simp[hmn]
  cases hbt:better (st n) (lc base (mv n)) with
  |true =>
   rw[hbt] at fx;refine go (O.set p (.dt (tab (pu cur n (lc base (mv n)))))) (pu cur n (lc base (mv n))) (tO hp) (λj hj=>by rw[zr (Ne.symm hj)]) (λm=>?_) (Nat.le_of_eq (Qvd hsome)) (by rw[hbt];rfl);rw[Mf,<-fx];rfl
  |false =>
   rw[hbt] at fx;refine go O cur hp (λ_ _=>rfl) (λm=>?_) (zc _) (by rw[hbt];rfl)
   split
   ·rename_i hmn;rw[hmn,<-fx];exact hs n zx
   ·rfl
end
def B_n:MS:=(aB (aH 5 (mC (.bl false)))
  (pA 3 (b8 (pq (aa 3)) (mgN 4) B_r)))
section
variable {t:Nat}{fs:List (Str×D)}{N:Nat}{nodes:Nat->List Nd}{mv:Nd->List M3}{fin:Nd->Bool}{p q:Nat}
theorem Ms(T:Trl t fs N nodes mv fin){a:Nat}(ha:a<=N){base:Tb}(hb:∀n∈nodes a,∀m∈mv n,(lk base m.other).isSome=true)(st:Nd->Option Int)(hst:∀n∈nodes a,st n=ini fin n\/st n=fnl fin (λn=>lc base (mv n)) n)(a0 a1 o4 o5 o6:Option D){O:aq}{cur:Tb}
  (hp:O[p]?=some (.dt (tab cur))) (hq:O[q]?=some (.dt (cA mv (nodes a)))) (hpq:p≠q) (hc:∀m,m∉nodes a->lk cur m=lk base m) (hs:∀n∈nodes a,lk cur n=some (st n)) (hl:cur.length<1000000):
  ∃O' cur' o4' o6',B_n [a0,a1,some (.ob p),some (.ob q),o4,o5,o6] O=.nx [a0,a1,some (.ob p),some (.ob q),o4',some (.bl ((nodes a).any λn=>better (st n) (lc base (mv n)))),o6'] O'/\O'[p]?=some (.dt (tab cur'))/\O'[q]?=some (.dt (cA mv (nodes a)))/\(∀j,j≠p->j≠q->O'[j]?=O[j]?)/\(∀m,m∉nodes a->lk cur' m=lk base m)/\(∀n∈nodes a,lk cur' n=some (fnl fin (λn=>lc base (mv n)) n))/\cur'.length<=cur.length:=by
 have hq1:(O.set q (.df (cA mv (nodes a))))[q]?=some (.df (cA mv (nodes a))):=tO hq
 have hp1:(O.set q (.df (cA mv (nodes a))))[p]?=some (.dt (tab cur)):=by rw[zr (Ne.symm hpq)];exact hp
 obtain⟨O',cur',o4',o6',e,g1,g2,g3,g4⟩:=Mr T ha hb st hst a0 a1 (nodes a) (O.set q (.df (cA mv (nodes a)))) cur false o4 o6 (λn h=>h) (T.nd a) hp1 hq1 hpq hc hs hl;rw[Bool.false_or] at e;have hq2:O'[q]?=some (.df (cA mv (nodes a))):=(g2 q (Ne.symm hpq)).trans hq1;refine⟨O'.set q (.dt (cA mv (nodes a))),cur',o4',o6',?_,?_,tO hq2,λj j1 j2=>?_,λm hm=>?_,λn hn=>?_,g4⟩
 ·have ek:pq (aa 3) [a0,a1,some (.ob p),some (.ob q),o4,some (.bl false),o6] O=.ok ((nodes a).map nN) (O.set q (.df (cA mv (nodes a)))):=by
   unfold pq;rw[show(aa 3) [a0,a1,some (.ob p),some (.ob q),o4,some (.bl false),o6] O=.ok (.ob q) O from rfl];dsimp only[aQ];rw[hq];dsimp only;rw[QqA]
  have ef:b8 (pq (aa 3)) (mgN 4) B_r [a0,a1,some (.ob p),some (.ob q),o4,some (.bl false),o6] O=.nx [a0,a1,some (.ob p),some (.ob q),o4',some (.bl ((nodes a).any λn=>better (st n) (lc base (mv n)))),o6'] O':=by
   rw[il,ek,ir,e]
  unfold B_n;rw[sq (cG (m_c (d:=.bl false)))];show pA 3 _ [a0,a1,some (.ob p),some (.ob q),o4,some (.bl false),o6] O=_;unfold pA;show(match O[q]? with | some (.dt _)=>_ | _=>Fl.no)=_;rw[hq];dsimp only;rw[ef];dsimp only;rw[hq2]
 ·rw[zr (Ne.symm hpq)];exact g1
 ·rw[zr (Ne.symm j2),g2 j j1,zr (Ne.symm j2)]
 ·rw[g3 m,if_neg hm];exact hc m hm
 ·rw[g3 n,if_pos hn]
theorem tQ{t:L2.M Bool}{b:MS}{k:Nat}{ρ ρ2:aA}{O O2:aq}(h:t ρ O=.ok true O)(hb:b ρ O=.nx ρ2 O2):dM t b (k+1) ρ O=dM t b k ρ2 O2:=by
 show(match t ρ O with | .ok true O1=>(match b ρ O1 with | .nx ρ2 O2=>dM t b k ρ2 O2 | .ct ρ2 O2=>dM t b k ρ2 O2 | .bk ρ2 O2=>Fl.nx ρ2 O2 | r=>r) | .ok false O1=>.nx ρ O1 | .ex x O'=>.ex x O' | .no=>.no)=_;rw[h];dsimp only;rw[hb]
theorem vX{t:L2.M Bool}{b:MS}{k:Nat}{ρ:aA}{O:aq}(h:t ρ O=.ok false O):dM t b (k+1) ρ O=.nx ρ O:=by
 show(match t ρ O with | .ok true O1=>(match b ρ O1 with | .nx ρ2 O2=>dM t b k ρ2 O2 | .ct ρ2 O2=>dM t b k ρ2 O2 | .bk ρ2 O2=>Fl.nx ρ2 O2 | r=>r) | .ok false O1=>.nx ρ O1 | .ex x O'=>.ex x O' | .no=>.no)=_;rw[h]
theorem Quz(T:Trl t fs N nodes mv fin){a:Nat}(ha:a<=N){O:aq}{cur:Tb}(ht:O[t]?=some (.ins "Even" fs))(hp:O[p]?=some (.dt (tab cur)))(hb:∀n∈nodes a,∀m∈mv n,(lk cur m.other).isSome=true)(hl:cur.length<900000):
  ∃O' cur',sr [.ob t,.int a,.ob p] O=.ok .non O'/\O'[p]?=some (.dt (tab cur'))/\(∀(j:Nat) (x:Ob),j≠p->O[j]?=some x->O'[j]?=some x)/\(∀m,m∉nodes a->lk cur' m=lk cur m)/\(∀n∈nodes a,lk cur' n=some (fnl fin (λn=>lc cur (mv n)) n))/\cur'.length<=cur.length+1:=by
 have hln:=T.ln a;have hpl:=(zl.mp hp).1;have htl:=(zl.mp ht).1;have hpq:p≠O.length:=zu hpl
 have ht1:(O++[Ob.dt []])[t]?=some (.ins "Even" fs):=by rw[zD htl];exact ht
 have hp1:(O++[Ob.dt []])[p]?=some (.dt (tab cur)):=by rw[zD hpl];exact hp
 have hq1:(O++[Ob.dt []])[O.length]?=some (.dt (cA mv [])):=by simp[cA]
 obtain⟨O1,cur1,o4,e1,f1,f2,f3,f4,f5⟩:=Mq T ha hpq none none (nodes a) [] (O++[Ob.dt []]) cur none (λn h=>h) (T.nd a) ht1 hp1 hq1 (by omega) (by simp;omega);rw[zK] at f2
 have far:∀n∈nodes a,∀m∈mv n,m.other∉nodes a:=λn hn m hm z=>by
  obtain⟨b,b1,b2,b3⟩:=T.fw a n ha hn m hm
  have:=T.sp a b _ z b3
  omega
 have hf:∀n,fin n=true->lc cur (mv n)=none:=λn h=>by rw[T.fe n h];rfl
 obtain⟨O2,cur2,o4',o6',e2,g1,g2,g3,g4,g5,g6⟩:=Ms (base:=cur) T ha hb (ini fin) (λn _=>.inl rfl) (some (.ob t)) (some (.int a)) o4 (some (.bl true)) none f1 f2 hpq (λm hm=>by rw[f4 m,if_neg hm]) (λn hn=>by rw[f4 n,if_pos hn]) (by omega);obtain⟨O3,cur3,o4'',o6'',e3,k1,k2,k3,k4,k5,k6⟩:=Ms (base:=cur) T ha hb (fnl fin λn=>lc cur (mv n)) (λn _=>.inr rfl) (some (.ob t)) (some (.int a)) o4' (some (.bl true)) o6' g1 g2 hpq g4 g5 (by omega)
 have z3:((nodes a).any λn=>better (fnl fin (λn=>lc cur (mv n)) n) (lc cur (mv n)))=false:=by
  rw[List.any_eq_false];intro n _;rw[Qn2 (L:=λn=>lc cur (mv n)) (hf n)];exact zh
 rw[z3] at e3;have hnew:rn [some (.ob t),some (.int a),some (.ob p),none,none,none,none] O=.ok (.ob O.length) (O++[Ob.dt []]):=rfl;have s2:(cQ (cF "Even" "nodes_at" pM (mG (aa 0)) (aj (aa 1) au))) [some (.ob t),some (.int a),some (.ob p),some (.ob O.length),none,none,none] (O++[Ob.dt []])=.ok ((nodes a).map nN) (O++[Ob.dt []]):=lg ((kZ rfl ht1 T.u1 (ma1 rfl)).trans (T.na _ a ht1 ha))
 have s3:b8 (cQ (cF "Even" "nodes_at" pM (mG (aa 0)) (aj (aa 1) au))) (mgN 4) B_1 [some (.ob t),some (.int a),some (.ob p),some (.ob O.length),none,none,none] (O++[Ob.dt []])=.nx [some (.ob t),some (.int a),some (.ob p),some (.ob O.length),o4,none,none] O1:=by
  rw[il,s2,ir,e1]
 have old:∀(j:Nat) (x:Ob),j≠p->O[j]?=some x->O1[j]?=some x:=λj x hj hx=>by
  have:=(zl.mp hx).1
  rw[f3 j hj (by omega),zD this];exact hx
 have nq:∀(j:Nat) (x:Ob),O[j]?=some x->j≠O.length:=λj x hx=>zu (zl.mp hx).1
 have fin':∀(O':aq) (cur':Tb) (x4 x6:Option D),dM (cj (aa 5)) B_n 10 [some (.ob t),some (.int a),some (.ob p),some (.ob O.length),o4,some (.bl true),none] O1=.nx [some (.ob t),some (.int a),some (.ob p),some (.ob O.length),x4,some (.bl false),x6] O'->O'[p]?=some (.dt (tab cur'))->(∀(j:Nat) (x:Ob),j≠p->O[j]?=some x->O'[j]?=some x)->(∀m,m∉nodes a->lk cur' m=lk cur m)->(∀n∈nodes a,lk cur' n=some (fnl fin (λn=>lc cur (mv n)) n))->cur'.length<=cur.length+1 ->
   ∃O' cur',sr [.ob t,.int a,.ob p] O=.ok .non O'/\O'[p]?=some (.dt (tab cur'))/\(∀(j:Nat) (x:Ob),j≠p->O[j]?=some x->O'[j]?=some x)/\(∀m,m∉nodes a->lk cur' m=lk cur m)/\(∀n∈nodes a,lk cur' n=some (fnl fin (λn=>lc cur (mv n)) n))/\cur'.length<=cur.length+1:=λO' cur' x4 x6 hw h1 h2 h3 h4 h5=>by
  refine⟨O',cur',?_,h1,h2,h3,h4,h5⟩;unfold B_1 at s3;unfold B_n B_r at hw;show bA (uY [some (.ob t),some (.int a),some (.ob p),none,none,none,none] O)=_;unfold uY;rw[sq (vV hnew)];show bA (aB _ _ [some (.ob t),some (.int a),some (.ob p),some (.ob O.length),none,none,none] (O++[Ob.dt []]))=_;rw[sq s3,sq (cG (m_c (d:=.bl true)))];show bA (gR 10 _ _ [some (.ob t),some (.int a),some (.ob p),some (.ob O.length),o4,some (.bl true),none] O1)=_;unfold gR;rw[hw];rfl
 cases hb1:(nodes a).any λn=>better (ini fin n) (lc cur (mv n)) with
 |true =>
  rw[hb1] at e2;refine fin' O3 cur3 o4'' o6'' ?_ k1 (λj x hj hx=>by rw[k3 j hj (nq j x hx),g3 j hj (nq j x hx)];exact old j x hj hx) k4 k5 (by omega);rw[tQ rfl e2,tQ rfl e3,vX rfl]
 |false =>
  rw[hb1] at e2;refine fin' O2 cur2 o4' o6' ?_ g1 (λj x hj hx=>by rw[g3 j hj (nq j x hx)];exact old j x hj hx) g4 g5 (by omega);rw[tQ rfl e2,vX rfl]
end
theorem Mt{α:Type}{g:MG}{t:L2.M Bool}{m:L2.M D}(Pv:aA->Prop)(p:α->Bool)(f:α->D):∀(xs:List α) (ρ:aA) (O:aq) (acc:List D),Pv ρ->(∀x∈xs,∀ρ,Pv ρ->∃ρ1,g (f x) ρ=some ρ1/\Pv ρ1/\t ρ1 O=.ok (p x) O/\m ρ1 O=.ok (f x) O)->dw g t m (xs.map f) ρ O acc=.ok (acc++(xs.filter p).map f) O
 | [],ρ,O,acc,_,_=>by simp[dw]
 |x::xs,ρ,O,acc,h,hs=>by
  obtain⟨ρ1,e1,h1,e2,e3⟩:=hs x zx ρ h
  have ih:=λacc=>Mt (g:=g) (t:=t) (m:=m) Pv p f xs ρ1 O acc h1 λd' hd'=>hs d' (zB _ hd')
  rw[zd];unfold dw;rw[e1];dsimp only;rw[e2]
  cases q:p x with
  |true =>
   dsimp only;rw[e3];dsimp only;rw[ih,List.filter_cons,q];simp
  |false =>
   dsimp only;rw[ih,List.filter_cons,q];simp
theorem QrH(b:Nat):iT (((b+1:Nat):Int) - 1) (b+1)=.int (b:Int)::iT ((b:Int) - 1) b:=by
 unfold iT;rw[List.range_succ_eq_map,zd,zP];congr 1
 ·show D.int _=_;congr 1;omega
 ·refine jb λi _=>?_
  show D.int _=D.int _;congr 1;omega
def Pri(N:Nat)(nodes:Nat->List Nd)(mv:Nd->List M3)(fin:Nd->Bool)(b:Nat)(cur:Tb):Prop:=∀c,b<=c->c<=N->∀n∈nodes c,lk cur n=some (fnl fin (λn=>lc cur (mv n)) n)
def B_p:MS:=(qM (aK sr (aj (aa 0) (aj (aa 2) (aj (aa 1) au)))))
section
variable {t:Nat}{fs:List (Str×D)}{N:Nat}{nodes:Nat->List Nd}{mv:Nd->List M3}{fin:Nd->Bool}{p q:Nat}
theorem Mu(T:Trl t fs N nodes mv fin):∀(b:Nat) (O:aq) (cur:Tb) (o2:Option D),b<=N+1->O[t]?=some (.ins "Even" fs)->O[p]?=some (.dt (tab cur))->Pri N nodes mv fin b cur->cur.length+10 * b<=800000 ->
  ∃O' cur' o2',cD (mgN 2) B_p (iT ((b:Int) - 1) b) [some (.ob t),some (.ob p),o2] O=.nx [some (.ob t),some (.ob p),o2'] O'/\O'[p]?=some (.dt (tab cur'))/\(∀(j:Nat) (x:Ob),j≠p->O[j]?=some x->O'[j]?=some x)/\Pri N nodes mv fin 0 cur'/\cur'.length<=cur.length+b
 | 0,O,cur,o2,_,_,hp,hP,_=>⟨O,cur,o2,rfl,hp,λ_ _ _ h=>h,hP,by omega⟩
 |a+1,O,cur,o2,hb,ht,hp,hP,hl=>by
  have ha:a<=N:=by omega
  have hbs:∀n∈nodes a,∀m∈mv n,(lk cur m.other).isSome=true:=λn hn m hm=>by
   obtain⟨c,c1,c2,c3⟩:=T.fw a n ha hn m hm;rw[hP c (by omega) c2 _ c3];rfl
  obtain⟨O1,cur1,e,g1,g2,g3,g4,g5⟩:=Quz T ha ht hp hbs (by omega);have tp:t≠p:=tL ht hp (λz=>nomatch z)
  have hP1:Pri N nodes mv fin a cur1:=λc c1 c2 n hn=>by
   have far:∀m∈mv n,lk cur1 m.other=lk cur m.other:=λm hm=>g3 _ λz=>by
    obtain⟨d,d1,d2,d3⟩:=T.fw c n c2 hn m hm
    have:=T.sp a d _ z d3
    omega
   have eL:lc cur1 (mv n)=lc cur (mv n):=vW far
   have eF:fnl fin (λn=>lc cur1 (mv n)) n=fnl fin (λn=>lc cur (mv n)) n:=by
    show(if fin n=true then some 0 else lc cur1 (mv n))=_;rw[eL];rfl
   rw[eF]
   by_cases hc:c=a
   ·subst hc;exact g4 n hn
   ·rw[g3 n λz=>hc (T.sp c a n hn z)];exact hP c (by omega) c2 n hn
  obtain⟨O',cur',o2',e2,k1,k2,k3,k4⟩:=Mu T a O1 cur1 (some (.int (a:Int))) (by omega) (g2 t _ tp ht) g1 hP1 (by omega);refine⟨O',cur',o2',?_,k1,λj x hj hx=>k2 j x hj (g2 j x hj hx),k3,by omega⟩;rw[QrH];unfold cD;rw[mg_n];dsimp only
  have eb:B_p [some (.ob t),some (.ob p),some (.int (a:Int))] O=.nx [some (.ob t),some (.ob p),some (.int (a:Int))] O1:=by
   unfold B_p;rw[X5,bV (maS rfl (maS rfl (ma1 rfl))),e,X6]
  show(match B_p [some (.ob t),some (.ob p),some (.int (a:Int))] O with
   | .nx ρ' O'=>cD _ _ (iT ((a:Int) - 1) a) ρ' O' | .ct ρ' O'=>cD _ _ (iT ((a:Int) - 1) a) ρ' O' | .bk ρ' O'=>Fl.nx ρ' O' | r=>r)=_
  rw[eb];exact e2
theorem QrU(T:Trl t fs N nodes mv fin){O:aq}(ht:O[t]?=some (.ins "Even" fs)):∃O' cur,u6 [.ob t] O=.ok (.ob O.length) O'/\O'[O.length]?=some (.dt (tab cur))/\(∀(j:Nat) (x:Ob),O[j]?=some x->O'[j]?=some x)/\Pri N nodes mv fin 0 cur/\cur.length<=N+1:=by
 have hN:=T.hN;have htl:=(zl.mp ht).1
 have ht1:(O++[Ob.dt []])[t]?=some (.ins "Even" fs):=by rw[zD htl];exact ht
 obtain⟨O',cur,o2,e,g1,g2,g3,g4⟩:=Mu (p:=O.length) T (N+1) (O++[Ob.dt []]) [] none (zc _) ht1 (by simp[tab]) (λc c1 c2=>absurd c1 (by omega)) (by simp;omega);refine⟨O',cur,?_,g1,λj x hx=>?_,g3,by rw[zN] at g4;omega⟩
 ·have er:uA (aj (cF "Even" "last_at" su (mG (aa 0)) au) (aj (mUn jF (mC (.int 1))) (aj (mUn jF (mC (.int 1))) au))) [some (.ob t),some (.ob O.length),none] (O++[Ob.dt []])=.ok (iT (((N+1:Nat):Int) - 1) (N+1)) (O++[Ob.dt []]):=by
   unfold uA;rw[maS ((kZ rfl ht1 T.u4 rfl).trans (T.la _ ht1)) (maS (x:=.int (-1)) rfl (ma1 (x:=.int (-1)) rfl))];dsimp only[aQ];rw[if_pos ⟨rfl,by omega,by omega,by decide,by decide⟩];congr 1;rw[show((N:Int) - -1).toNat=N+1 by omega,show(((N+1:Nat):Int) - 1)=(N:Int) by omega]
  unfold B_p at e;show bA (u0 [some (.ob t),none,none] O)=_;unfold u0;rw[sq (vV (show rn [some (.ob t),none,none] O=.ok (.ob O.length) (O++[Ob.dt []]) from rfl))];show bA (aB _ _ [some (.ob t),some (.ob O.length),none] (O++[Ob.dt []]))=_;rw[bz,il,er,ir,e,bF];rfl
 ·have:=(zl.mp hx).1
  exact g2 j x (by omega) (by rw[zD this];exact hx)
theorem Eg:∀(l:List Int) (b:Option Int) (c:Int),mdI b l=some c->b=some c\/c∈l
 | [],b,c,h=>.inl (by cases b<;>exact h)
 |n::r,none,c,h=>by
  rcases Eg r (some n) c h with h | h
  ·exact .inr (by rw[zt h];exact zx)
  ·exact .inr (zB _ h)
 |n::r,some m,c,h=>by
  rcases Eg r (some (if n<m then n else m)) c h with h | h
  ·split at h
   ·exact .inr (by rw[zt h];exact zx)
   ·exact .inl h
  ·exact .inr (zB _ h)
theorem Mv:∀(l:List Int) (b:Int),∃c,mdI (some b) l=some c
 | [],b=>⟨b,rfl⟩
 |n::r,b=>Mv r (if n<b then n else b)
theorem QwG{l:List Int}(h:l≠[]):∃c,mdI none l=some c:=by
 cases l with
 |nil=>exact absurd rfl h
 |cons n r=>exact Mv r n
theorem QwI(x y:Option Int):gEq (oD x) (oD y)=some (.bl (decide (x=y))):=by
 cases x with
 |none=>cases y<;>rfl
 |some i =>
  cases y with
  |none=>rfl
  |some j =>
   show some (D.bl (decide (i=j)))=_;congr 2;exact decide_eq_decide.mpr ⟨λh=>by rw[h],λh=>zt h⟩
theorem Mw{α:Type}(f:α->Bool)(g:α->D)(h:α->Bool):∀(ms:List α) (m:α),ms.find? f=some m->((ms.filter f).map g)[0]?=some (g m)
 |x::ms,m,e=>by
  rw[List.find?_cons] at e
  cases hx:f x with
  |true =>
   rw[hx] at e;cases e;simp[hx]
  |false =>
   rw[hx] at e;rw[List.filter_cons,hx];exact Mw f g h ms m e
theorem QyG{O:aq}{ps:Tb}{ms:List M3}{c:Int}(hp:O[p]?=some (.dt (tab ps)))(hm:∀m∈ms,(lk ps m.other).isSome=true)(hl:ms.length<=1000)(hc:lc ps ms=some c):
  ∃m,ms.find? (λm=>decide (co ps m=lc ps ms))=some m/\m∈ms/\co ps m=some c/\sy [.lst (ms.map d3),.ob p] O=.ok (d3 m) O:=by
 obtain⟨x,hx,hxc⟩:∃x∈ms,co ps x=some c:=by
  rcases Eg _ _ _ hc with h | h
  ·cases h
  ·exact List.mem_filterMap.mp h
 obtain⟨m,em⟩:∃m,ms.find? (λm=>decide (co ps m=lc ps ms))=some m:=by
  cases e:ms.find? (λm=>decide (co ps m=lc ps ms)) with
  |some m=>exact⟨m,rfl⟩
  |none =>
   have:=List.find?_eq_none.mp e x hx
   rw[hxc,hc] at this;simp at this
 have hmm:=List.mem_of_find?_eq_some em
 have hmc:co ps m=some c:=by
  have:=List.find?_some em
  rw[<-hc];exact jh this
 refine⟨m,em,hmm,hmc,?_⟩;have s1:aK nP (aj (aa 0) (aj (aa 1) au)) [some (.lst (ms.map d3)),some (.ob p),none] O=.ok (oD (lc ps ms)) O:=(bV (maS rfl (ma1 rfl))).trans (Mj hp hm hl)
 have c1:dw (mgN 0) (aJ (ak gEq (aK kJ (aj (aa 0) (aj (aa 1) au))) (aa 2))) (aa 0) (ms.map d3) [none,some (.ob p),some (oD (lc ps ms))] O []=.ok ((ms.filter λm=>decide (co ps m=lc ps ms)).map d3) O:=by
  rw[Mt (λρ=>∃a,ρ=[a,some (.ob p),some (oD (lc ps ms))]) (λm=>decide (co ps m=lc ps ms)) d3 ms _ _ _ ⟨none,rfl⟩ (by
   rintro m' hm' ρ ⟨a,rfl⟩
   exact⟨_,rfl,⟨_,rfl⟩,lU (bJ ((bV (maS rfl (ma1 rfl))).trans (Mh hp (hm m' hm'))) (y:=oD (lc ps ms)) rfl (by
    rw[show bB O (oD (co ps m'))=oD (co ps m') by cases co ps m'<;>rfl,show bB O (oD (lc ps ms))=oD (lc ps ms) by cases lc ps ms<;>rfl,QwI])),rfl⟩)]
  rw[zK]
 have s2:dD (cQ (aa 0)) 1 [1,2] (mgN 0) (aJ (ak gEq (aK kJ (aj (aa 0) (aj (aa 1) au))) (aa 2))) (aa 0) [some (.lst (ms.map d3)),some (.ob p),some (oD (lc ps ms))] O=.ok (.lst ((ms.filter λm=>decide (co ps m=lc ps ms)).map d3)) O:=qe (lg rfl) (by rw[zf];omega) rfl c1
 have s3:ak gIx (dD (cQ (aa 0)) 1 [1,2] (mgN 0) (aJ (ak gEq (aK kJ (aj (aa 0) (aj (aa 1) au))) (aa 2))) (aa 0)) (mC (.int 0)) [some (.lst (ms.map d3)),some (.ob p),some (oD (lc ps ms))] O=.ok (d3 m) O:=bJ s2 m_c (by
  rw[eU,cT,kj]
  exact(km (j:=0)).trans (Mw _ d3 (λ_=>true) ms m em))
 show bA (vd [some (.lst (ms.map d3)),some (.ob p),none] O)=_;unfold vd;rw[sq (cG s1),fG];exact congrArg (λr=>bA (nJ r)) s3
end
def Wy(ps:Tb)(mv:Nd->List M3)(fin:Nd->Bool):Nd->List M3->Prop
 |n,[]=>fin n=true
 |n,m::ms=>fin n=false/\(mv n).find? (λm=>decide (co ps m=lc ps (mv n)))=some m/\Wy ps mv fin m.other ms
def B_y:MS:=(aB (aH 5 (aK sy (aj (cF "Even" "moves_from" jO (mG (aa 0)) (aj (aa 2) au)) (aj (aa 1) au))))
  (aB (dW 4 (ak gIx (aa 5) (mC (.int 1))))
  (aH 2 (ak gIx (aa 5) (mC (.int 2))))))
section
variable {t:Nat}{fs:List (Str×D)}{N:Nat}{nodes:Nat->List Nd}{mv:Nd->List M3}{fin:Nd->Bool}{p q:Nat}
theorem QwC(T:Trl t fs N nodes mv fin){ps:Tb}(hP:Pri N nodes mv fin 0 ps){O:aq}(ht:O[t]?=some (.ins "Even" fs))(hp:O[p]?=some (.dt (tab ps)))(a3:Option D):∀(k a:Nat) (n:Nd) (c:Int) (nm:List D) (f:Nat) (o5:Option D),a+k=N->n∈nodes a->lk ps n=some (some c)->k<f->nm.length+k<1000000 ->
  ∃ms n' o5',dM (du (cj (cF "Even" "is_end" iw (mG (aa 0)) (aj (aa 2) au)))) B_y f [some (.ob t),some (.ob p),some (nN n),a3,some (.lst nm),o5] O=.nx [some (.ob t),some (.ob p),some (nN n'),a3,some (.lst (nm++ms.map λm=>.str m.name)),o5'] O/\Wy ps mv fin n ms/\ms.length<=k:=by
 intro k
 induction k using Nat.strongRecOn with
 | _ k ih =>
  intro a n c nm f o5 hak hn hc hf hl;obtain⟨f',rfl⟩:∃f',f=f'+1:=⟨f - 1,by omega⟩
  have te:du (cj (cF "Even" "is_end" iw (mG (aa 0)) (aj (aa 2) au))) [some (.ob t),some (.ob p),some (nN n),a3,some (.lst nm),o5] O=.ok (!fin n) O:=by
   rw[uE,nG,(kZ rfl ht T.u3 (ma1 rfl)).trans (T.ie O a n ht (by omega) hn),aQ,lJ,nH,nF,aQ]
  cases hfin:fin n with
  |true =>
   rw[hfin] at te;exact⟨[],n,o5,by rw[vX te];simp,hfin,Nat.zero_le _⟩
  |false =>
   rw[hfin] at te
   have hL:lc ps (mv n)=some c:=by
    have:=hP a (Nat.zero_le _) (by omega) n hn
    rw[hc] at this;have h2:some c=fnl fin (λn=>lc ps (mv n)) n:=zt this;unfold fnl at h2;rw[hfin,if_neg zh] at h2;exact h2.symm
   have hm:∀m∈mv n,(lk ps m.other).isSome=true:=λm hm=>by
    obtain⟨b,b1,b2,b3⟩:=T.fw a n (by omega) hn m hm;rw[hP b (Nat.zero_le _) b2 _ b3];rfl
   obtain⟨m,e1,hmm,hmc,e2⟩:=QyG hp hm (T.ml n) hL;obtain⟨b,b1,b2,b3⟩:=T.fw a n (by omega) hn m hmm
   obtain⟨c',hc'⟩:∃c',lk ps m.other=some (some c'):=by
    unfold co at hmc;split at hmc
    ·rename_i c' e;exact⟨c',e⟩
    ·cases hmc
   have s1:aK sy (aj (cF "Even" "moves_from" jO (mG (aa 0)) (aj (aa 2) au)) (aj (aa 1) au)) [some (.ob t),some (.ob p),some (nN n),a3,some (.lst nm),o5] O=.ok (d3 m) O:=(bV (maS ((kZ rfl ht T.u2 (ma1 rfl)).trans (T.mf O a n ht (by omega) hn)) (ma1 rfl))).trans e2
   have eb:B_y [some (.ob t),some (.ob p),some (nN n),a3,some (.lst nm),o5] O=.nx [some (.ob t),some (.ob p),some (nN m.other),a3,some (.lst (nm++[.str m.name])),some (d3 m)] O:=by
    unfold B_y;rw[sq (cG s1)];show aB _ _ [some (.ob t),some (.ob p),some (nN n),a3,some (.lst nm),some (d3 m)] O=_;rw[sq (DG (d:=.str m.name) (ds:=nm) (bJ rfl rfl rfl) rfl (by omega))];rfl
   obtain⟨ms,n',o5',e3,w3,l3⟩:=ih (N - b) (by omega) b m.other c' (nm++[.str m.name]) f' (some (d3 m)) (by omega) b3 hc' (by omega) (by rw[zz,ja];omega);refine⟨m::ms,n',o5',?_,⟨hfin,e1,w3⟩,by rw[zv];omega⟩;rw[tQ te eb,e3,jc];rfl
theorem Mx(T:Trl t fs N nodes mv fin)(hne:∀(a:Nat) (n:Nd),a<=N->n∈nodes a->fin n=false->mv n≠[]){ps:Tb}(hP:Pri N nodes mv fin 0 ps):∀(k a:Nat) (n:Nd),a+k=N->n∈nodes a->∃c,lk ps n=some (some c):=by
 intro k
 induction k using Nat.strongRecOn with
 | _ k ih =>
  intro a n hak hn;have h1:=hP a (Nat.zero_le _) (by omega) n hn
  cases hfin:fin n with
  |true =>
   refine⟨0,?_⟩;rw[h1];unfold fnl;rw[hfin,if_pos rfl]
  |false =>
   have h2:lk ps n=some (lc ps (mv n)):=by
    rw[h1];unfold fnl;rw[hfin,if_neg zh]
   obtain⟨m,hm⟩:=List.exists_mem_of_ne_nil _ (hne a n (by omega) hn hfin);obtain⟨b,b1,b2,b3⟩:=T.fw a n (by omega) hn m hm;obtain⟨c,hc⟩:=ih (N - b) (by omega) b m.other (by omega) b3
   have hco:co ps m=some (m.cost+c):=by
    unfold co;rw[hc]
   obtain⟨c',hc'⟩:=QwG (l:=(mv n).filterMap (co ps)) (λz=>by
    have:=List.mem_filterMap.mpr ⟨m,hm,hco⟩
    rw[z] at this
    cases this)
   exact⟨c',by rw[h2];exact congrArg some hc'⟩
theorem Mz(T:Trl t fs N nodes mv fin)(hne:∀(a:Nat) (n:Nd),a<=N->n∈nodes a->fin n=false->mv n≠[])(hF:N<250){O:aq}(ht:O[t]?=some (.ins "Even" fs)):
  ∃O' ps c ms,sG [.ob t] O=.ok (.tup [.int c,.lst (ms.map λm=>.str m.name)]) O'/\(∀(j:Nat) (x:Ob),O[j]?=some x->O'[j]?=some x)/\Pri N nodes mv fin 0 ps/\lk ps (0,0)=some (some c)/\Wy ps mv fin (0,0) ms:=by
 obtain⟨O',ps,e1,g1,g2,hP,_⟩:=QrU T ht;obtain⟨c,hc⟩:=Mx T hne hP N 0 (0,0) (zW _) T.f0;have ht':=g2 t _ ht;obtain⟨ms,n',o5,e2,w2,l2⟩:=QwC T hP ht' g1 (some (.int c)) N 0 (0,0) c [] 250 none (zW _) T.f0 hc (by omega) (by simp;omega);refine⟨O',ps,c,ms,?_,g2,hP,hc,w2⟩;have s1:aK u6 (aj (aa 0) au) [some (.ob t),none,none,none,none,none] O=.ok (.ob O.length) O':=(bV (ma1 rfl)).trans e1;have s2:cF "Even" "first_node" sE (mG (aa 0)) au [some (.ob t),some (.ob O.length),none,none,none,none] O'=.ok (nN (0,0)) O':=(kZ rfl ht' T.u5 rfl).trans (T.fi O' ht');have s3:dG (aa 1) (aa 2) [some (.ob t),some (.ob O.length),some (nN (0,0)),none,none,none] O'=.ok (.int c) O':=Ef rfl g1 rfl hc
 unfold B_y at e2;rw[zK] at e2;show bA (vf [some (.ob t),none,none,none,none,none] O)=_;unfold vf;rw[sq (vV s1)];show bA (aB _ _ [some (.ob t),some (.ob O.length),none,none,none,none] O')=_;rw[sq (cG s2)];show bA (aB _ _ [some (.ob t),some (.ob O.length),some (nN (0,0)),none,none,none] O')=_;rw[sq (cG s3)];show bA (aB _ _ [some (.ob t),some (.ob O.length),some (nN (0,0)),some (.int c),none,none] O')=_;rw[sq (show bh (aJ (jB (aa 3))) (aU (mC .non)) bx [some (.ob t),some (.ob O.length),some (nN (0,0)),some (.int c),none,none] O'=.nx [some (.ob t),some (.ob O.length),some (nN (0,0)),some (.int c),none,none] O' from rfl)]
 rw[sq (cG (d:=.lst []) (p7 rfl (Nat.zero_le _)))];show bA (aB (gR 250 _ _) _ [some (.ob t),some (.ob O.length),some (nN (0,0)),some (.int c),some (.lst []),none] O')=_;unfold gR;rw[sq e2];rfl
end
theorem MF{cs:List Str}{f c:Str}{mo mv:L2.M D}{ρ:aA}{O O1:aq}{n:Nat}{d:D}{fs:List (Str×D)}(hv:mv ρ O=.ok d O1)(ho:mo ρ O1=.ok (.ob n) O1)(hO:O1[n]?=some (.ins c fs))(hc:c∈cs)(hl:fs.length<900):
  j6 cs f mo mv ρ O=.nx ρ (O1.set n (.ins c (putD f d fs))):=by
 rw[Ys,hv,Yt,ho];unfold puF;dsimp only;rw[hO];dsimp only;rw[if_pos ⟨hc,hl⟩]
theorem lX{O:aq}{o:Ob}:(O++[o])[O.length]?=some o:=by
 rw[zI (zc _),Nat.sub_self];rfl
theorem Eh{O:aq}{o o':Ob}:(O++[o]).set O.length o'=O++[o']:=by
 rw[List.set_append_right _ _ (zc _),Nat.sub_self];rfl
theorem Ei{m:L2.M D}{ρ:aA}{O:aq}{d:D}{l:List D}(h:m ρ O=.ok d O)(hd:bB O d=.lst l):aV gY (aj m au) ρ O=.ok (.lst l) O:=by
 rw[iV,ma1 h,aQ,zd,zJ,hd,YD,dz]
theorem not_no{m:L2.M D}{s:MS}{ρ:aA}{O:aq}(h:m ρ O=.ok (.bl true) O):bh (du (cj m)) s bx ρ O=.nx ρ O:=by
 rw[ig,uE,nG,h,aQ,lJ,nH,nF,aQ,iW,if_neg (by decide)];rfl
theorem Ej{m:L2.M D}{ρ:aA}{O:aq}(h:m ρ O=.ok (.bl true) O):du (cj m) ρ O=.ok false O:=by
 rw[uE,nG,h,aQ,lJ,nH,nF,aQ];rfl
theorem or_f{t1 t2:L2.M Bool}{ρ:aA}{O:aq}(h1:t1 ρ O=.ok false O)(h2:t2 ρ O=.ok false O):cX t1 t2 ρ O=.ok false O:=by
 rw[uD,h1,aQ,if_neg zh,h2]
theorem vY{i:Nat}{m:L2.M D}{ρ:aA}{O O1:aq}{d:D}(h:m ρ O=.ok d O1):aH i m ρ O=.nx (ρ.set i (some d)) O1:=by
 rw[fP,h,fQ]
theorem Qzw{n i:Nat}{d:D}(h:(bI 0 n)[i]?=some d):i<n/\d=.int (i:Int):=by
 have hi:i<n:=by
  have:=(zl.mp h).1
  rwa [jM] at this
 have e:bI 0 n=(List.range n).map λi:Nat=>D.int ((i:Nat):Int):=by unfold bI;simp
 rw[e,zw,List.getElem?_range hi] at h;cases h;exact⟨hi,rfl⟩
theorem QxV{m:L2.M D}{ρ:aA}{O:aq}{b:Bool}(h:m ρ O=.ok (.bl b) O):cj m ρ O=.ok b O:=by
 rw[nG,h,aQ,lJ,nH,nF]
theorem vZ{m:L2.M D}{ρ:aA}{O:aq}{d:D}{n t:String}(h:m ρ O=.ok d O)(ht:tyD (bB O d)=some t):fC n m ρ O=.ok (.bl (dF t n)) O:=by
 rw[Jw,h,aQ,ht,Jv]
def dK(k:Nat):D:=.tup [.int (k:Int),.int 0]
theorem Qyh(a b:Nat):gEq (dK a) (dK b)=some (.bl (decide ((a:Int)=(b:Int)))):=by
 show(if(okE (dK a)&&okE (dK b))=true then some (D.bl (j0 (dK a) (dK b))) else none)=_
 have e:j0 (dK a) (dK b)=decide ((a:Int)=(b:Int)):=by
  show((a:Int) == (b:Int)&&((0:Int) == 0&&true))=_
  by_cases h:(a:Int)=(b:Int)
  ·rw[zj h,beq_iff_eq.mpr h];rfl
  ·rw[zg h,beq_eq_false_iff_ne.mpr h];rfl
 rw[show okE (dK a)=true from rfl,show okE (dK b)=true from rfl,Bool.and_self,if_pos rfl,e]
def fsE(l:List LT)(w:Int):List (Str×D):=[("letters",.lst (l.map dL)),("wide",.int w)]
def fs1(l:List LT):List (Str×D):=[("letters",.lst (l.map dL))]
theorem pf1(l:List LT):putD "letters" (.lst (l.map dL)) []=fs1 l:=rfl
theorem pf2(l:List LT)(w:Int):putD "wide" (.int w) (fs1 l)=fsE l w:=rfl
theorem lkL(l:List LT)(w:Int):(fsE l w).lookup ("letters":Str)=some (.lst (l.map dL)):=rfl
theorem lkW(l:List LT)(w:Int):(fsE l w).lookup ("wide":Str)=some (.int w):=rfl
theorem QvU(O:aq)(l:List LT)(w:Int):sH [.ob O.length,.lst (l.map dL),.int w] (O++[.ins "Even" []])=.ok .non (O++[.ins "Even" (fsE l w)]):=by
 have s1:j6 ["Even"] "letters" (aa 0) (aV gY (aj (aa 1) au)) [some (.ob O.length),some (.lst (l.map dL)),some (.int w)] (O++[.ins "Even" []])=.nx [some (.ob O.length),some (.lst (l.map dL)),some (.int w)] (O++[.ins "Even" (fs1 l)]):=by
  rw[MF (d:=.lst (l.map dL)) (n:=O.length) (c:="Even") (fs:=[]) (Ei (d:=.lst (l.map dL)) rfl rfl) rfl lX zx (by decide),Eh,pf1]
 have s2:j6 ["Even"] "wide" (aa 0) (mG (aa 2)) [some (.ob O.length),some (.lst (l.map dL)),some (.int w)] (O++[.ins "Even" (fs1 l)])=.nx [some (.ob O.length),some (.lst (l.map dL)),some (.int w)] (O++[.ins "Even" (fsE l w)]):=by
  rw[MF (d:=.int w) (n:=O.length) (c:="Even") (fs:=fs1 l) rfl rfl lX zx (show(1:Nat)<900 by decide),Eh,pf2]
 show bA (vg [some (.ob O.length),some (.lst (l.map dL)),some (.int w)] (O++[.ins "Even" []]))=_;unfold vg;rw[bz,s1,bF];exact congrArg bA s2
structure Tr(O:aq)(n:Nat)(l:List LT)(w:Int):Prop where
 ob:O[n]?=some (.ins "Even" (fsE l w))
 le:l.length<=200
 w2:2<=w
 w40:w<=40
theorem QwJ{x:Int}(h0:-100000<=x)(h1:x<=100000):eG (.int x) (.int 2)=some (.int (x * x)):=by
 unfold eG gI;dsimp only
 have s:lD x=true:=by
  unfold lD;rw[zj (by omega),zj (by omega)];rfl
 rw[if_pos (by rw[s];rfl)];show some (D.int (x ^ 2))=_;rw[Int.pow_succ,Int.pow_succ,Int.pow_zero,Int.one_mul]
section
variable {O:aq}{n:Nat}{l:List LT}{w:Int}
theorem f_l(T:Tr O n l w){i:Nat}{ρ:aA}(h:aa i ρ O=.ok (.ob n) O):fO ["Even"] "letters" (aa i) ρ O=.ok (.lst (l.map dL)) O:=Lz (n:=n) h T.ob zx (lkL _ _)
theorem f_w(T:Tr O n l w){i:Nat}{ρ:aA}(h:aa i ρ O=.ok (.ob n) O):fO ["Even"] "wide" (aa i) ρ O=.ok (.int w) O:=Lz (n:=n) h T.ob zx (lkW _ _)
theorem l_l(T:Tr O n l w){i:Nat}{ρ:aA}(h:aa i ρ O=.ok (.ob n) O):aV bC (aj (fO ["Even"] "letters" (aa i)) au) ρ O=.ok (.int (l.length:Int)) O:=by
 have:=gk (f_l T h)
 rwa [zf] at this
theorem Qsm:sE [.ob n] O=.ok (dK 0) O:=rfl
theorem QrN(k:Nat):pM [.ob n,.int (k:Int)] O=.ok (.lst [dK k]) O:=rfl
theorem Quj(T:Tr O n l w):su [.ob n] O=.ok (.int (l.length:Int)) O:=by
 show bA (uZ [some (.ob n)] O)=_;unfold uZ;rw[ju (l_l T rfl)];rfl
theorem MJ(T:Tr O n l w)(k:Nat):iw [.ob n,dK k] O=.ok (.bl (decide ((k:Int)=(l.length:Int)))) O:=by
 show bA (uR [some (.ob n),some (dK k)] O)=_;unfold uR;rw[ju (bJ (x:=dK k) (y:=dK l.length) rfl (p6 (maS (l_l T rfl) (ma1 (x:=.int 0) rfl)) (show(2:Nat)<=1000000 by decide)) (Qyh k l.length))];rfl
theorem QqW(T:Tr O n l w)(p:Nat×Int)(h0:0<=p.2)(h1:p.2<=w):uV [.ob n,.int (p.1:Int),.int p.2] O=.ok (.int (cst l w p)) O:=by
 have t:aJ (ak gEq (aa 1) (aV bC (aj (fO ["Even"] "letters" (aa 0)) au))) [some (.ob n),some (.int (p.1:Int)),some (.int p.2)] O=.ok (decide ((p.1:Int)=(l.length:Int))) O:=p8 rfl (l_l T rfl);have w40:=T.w40;show bA (uU [some (.ob n),some (.int (p.1:Int)),some (.int p.2)] O)=_;unfold uU cst
 by_cases h:p.1=l.length
 ·rw[fG,yw,t,zj (by omega),aQ,if_pos rfl,if_pos h];rfl
 ·rw[fG,yw,t,zg (by omega),aQ,if_neg zh,if_neg h,bJ (x:=.int (w - p.2)) (y:=.int 2) (K5 (f_w T rfl) rfl) rfl (QwJ (by omega) (by omega))];rfl
theorem Qxo{m:L2.M D}{ρ:aA}{O:aq}{l:List D}(h:m ρ O=.ok (.lst l) O):uy m ρ O=.ok l.reverse O:=by
 unfold uy;rw[h,aQ]
def mvs(l:List LT)(lo:Nat)(w:Int):List D:=if lo=l.length then[] else((ends l lo w).map (mvE l w)).reverse
theorem Qzq(T:Tr O n l w)(lo:Nat)(hlo:lo<=l.length):jO [.ob n,dK lo] O=.ok (.lst (mvs l lo w)) O:=by
 have w2:=T.w2;have le:=T.le
 have t:cj (cF "Even" "is_end" iw (aa 0) (aj (aa 1) au)) [some (.ob n),some (dK lo),none] O=.ok (decide ((lo:Int)=(l.length:Int))) O:=QxV (by
  rw[kZ (n:=n) (ds:=[dK lo]) rfl T.ob rfl (ma1 rfl)]
  exact MJ T lo)
 show bA (uX [some (.ob n),some (dK lo),none] O)=_;unfold uX mvs;rw[bz]
 by_cases h:lo=l.length
 ·rw[jt (by rw[t,zj (by omega)]),if_pos h];rfl
 ·have ok:=lW (l:=l) (lo:=lo) (w:=w) (by omega) w2;rw[if_no (by rw[t,zg (by omega)]),dY,bF,if_neg h,bz]
  have s2:aH 2 (aK rY (aj (fO ["Even"] "letters" (aa 0)) (aj (ak gIx (aa 1) (mC (.int 0))) (aj (fO ["Even"] "wide" (aa 0)) au)))) [some (.ob n),some (dK lo),none] O=.nx [some (.ob n),some (dK lo),some (.lst ((ends l lo w).map dE))] O:=by
   refine cG ?_;rw[bV (maS (f_l T rfl) (maS (x:=.int (lo:Int)) (bJ (x:=dK lo) (y:=.int 0) rfl rfl rfl) (ma1 (f_w T rfl))))];exact Ls l lo w (by omega) hlo O
  rw[s2,bF]
  have ec:=lL (g:=qN 2 (lC (mgN 0) (lC (mgN 1) ue))) (t:=dN) (m:=dh (aj (cF "Even" "cost_to" uV (aa 2) (aj (aa 0) (aj (aa 1) au))) (aj (aV ph (aj (aa 0) au)) (aj (dh (aj (aa 0) (aj (mC (.int 0)) au))) au)))) (λρ=>∃a b,ρ=[a,b,some (.ob n)]) dE (mvE l w) (ends l lo w).reverse [none,none,some (.ob n)] O [] ⟨_,_,rfl⟩ (by
   rintro p hp ρ ⟨a,b,rfl⟩;obtain⟨h1,h2,h3,h4,_⟩:=ok p (List.mem_reverse.mp hp);refine⟨[some (.int (p.1:Int)),some (.int p.2),some (.ob n)],rfl,⟨_,_,rfl⟩,rfl,p6 (maS ?_ (maS (kY (xs:=[.int (p.1:Int)]) (ma1 rfl) (Qwx p.1 (by omega))) (ma1 (x:=.tup [.int (p.1:Int),.int 0]) rfl))) (show(3:Nat)<=1000000 by decide)⟩;rw[kZ (n:=n) (ds:=[.int (p.1:Int),.int p.2]) rfl T.ob rfl (maS (x:=.int (p.1:Int)) rfl (ma1 (x:=.int p.2) rfl))]
   exact QqW T p h3 h4)
  rw[zK,List.map_reverse,List.map_reverse] at ec
  have hlen:((ends l lo w).map dE).reverse.length<=1000000:=by
   rw[List.length_reverse,zf]
   have:=Ly l lo w
   omega
  rw[ju (qe (own:=2) (cap:=[0]) (Qxo (m:=aa 2) (ρ:=[some (.ob n),some (dK lo),some (.lst ((ends l lo w).map dE))]) (O:=O) (l:=(ends l lo w).map dE) rfl) hlen (ρ0:=[none,none,some (.ob n)]) rfl ec)];rfl
end
theorem QxQ{ps:Tb}{m:M3}{b:Int}(h:lk ps m.other=some (some b)):co ps m=some (m.cost+b):=by
 unfold co;rw[h]
section
variable {N:Nat}{nodes:Nat->List Nd}{mv:Nd->List M3}{fin:Nd->Bool}
theorem Pri.at{ps:Tb}(h:Pri N nodes mv fin 0 ps){a:Nat}{n:Nd}{c:Int}(ha:a<=N)(hn:n∈nodes a)(hl:lk ps n=some (some c)):some c=if fin n=true then some 0 else lc ps (mv n):=by
 have e:=h a (Nat.zero_le _) ha n hn;rw[hl] at e;exact zt e
end
section
variable {N:Nat}{nodes:Nat->List Nd}{mv:Nd->List M3}{fin:Nd->Bool}
theorem Qvy(fw:∀(a:Nat) (n:Nd),a<=N->n∈nodes a->∀m∈mv n,∃b,a<b/\b<=N/\m.other∈nodes b){ps ps':Tb}(h:Pri N nodes mv fin 0 ps)(h':Pri N nodes mv fin 0 ps'):∀(k a:Nat) (n:Nd),a+k=N->n∈nodes a->lk ps' n=lk ps n:=by
 intro k
 induction k using Nat.strongRecOn with
 | _ k ih =>
  intro a n hak hn;rw[h a (Nat.zero_le _) (by omega) n hn,h' a (Nat.zero_le _) (by omega) n hn];show some (if fin n=true then some 0 else lc ps' (mv n))=some (if fin n=true then some 0 else lc ps (mv n))
  rw[vW λm hm=>by
   obtain⟨b,b1,b2,b3⟩:=fw a n (by omega) hn m hm
   exact ih (N - b) (by omega) b m.other (by omega) b3]
theorem MK{α:Type}{f g:α->Bool}:∀{l:List α},(∀x∈l,f x=g x)->l.find? f=l.find? g
 | [],_=>rfl
 |x::l,h=>by
  rw[List.find?_cons,List.find?_cons,h x zx,MK λy hy=>h y (zB _ hy)]
theorem MN(fw:∀(a:Nat) (n:Nd),a<=N->n∈nodes a->∀m∈mv n,∃b,a<b/\b<=N/\m.other∈nodes b){ps ps':Tb}(h:Pri N nodes mv fin 0 ps)(h':Pri N nodes mv fin 0 ps'):∀(ms ms':List M3) (a:Nat) (n:Nd),a<=N->n∈nodes a->Wy ps mv fin n ms->Wy ps' mv fin n ms'->ms'=ms
 | [],[],_,_,_,_,_,_=>rfl
 | [],m::ms,_,n,_,_,w,w'=>by
  have w1:fin n=true:=w;have z:=w'.1;rw[w1] at z;cases z
 |m::ms,[],_,n,_,_,w,w'=>by
  have w1:fin n=true:=w';have z:=w.1;rw[w1] at z;cases z
 |m::ms,m'::ms',a,n,ha,hn,w,w'=>by
  have el:∀x∈mv n,lk ps' x.other=lk ps x.other:=λx hx=>by
   obtain⟨b,b1,b2,b3⟩:=fw a n ha hn x hx;exact Qvy fw h h' (N - b) b x.other (by omega) b3
  have e:=w'.2.1
  rw[MK (g:=λm=>decide (co ps m=lc ps (mv n))) λx hx=>by
   rw[vW el];unfold co
   rw[el x hx],w.2.1] at e
  cases e;obtain⟨b,b1,b2,b3⟩:=fw a n ha hn m (List.mem_of_find?_eq_some w.2.1);rw[MN fw h h' ms ms' b m.other b2 b3 w.2.2 w'.2.2]
end
def mvN(l:List LT)(w:Int)(n:Nd):List M3:=if n=((l.length:Int),0) then[] else((ends l n.1.toNat w).map λp=>(⟨cst l w p,strN p.1,((p.1:Int),0)⟩:M3)).reverse
def iD(l:List LT)(n:Nd):Bool:=decide (n=((l.length:Int),0))
def ndN(a:Nat):List Nd:=[((a:Int),0)]
theorem tR(l:List LT)(a:Nat):iD l ((a:Int),0)=decide ((a:Int)=(l.length:Int)):=by
 unfold iD
 by_cases h:(a:Int)=(l.length:Int)
 ·rw[zj h,zj (by rw[h])]
 ·rw[zg h,zg (λz=>h (congrArg Prod.fst z))]
theorem Qvv(l:List LT)(w:Int)(lo:Nat):(mvN l w ((lo:Int),0)).map d3=mvs l lo w:=by
 unfold mvN mvs
 by_cases h:lo=l.length
 ·rw[if_pos (by rw[h]),if_pos h];rfl
 ·rw[if_neg (λz=>h (by have:=congrArg Prod.fst z;dsimp only at this;omega)),if_neg h,List.map_reverse,zP];rfl
theorem QyO{l:List LT}{w:Int}{lo:Nat}{m:M3}(hlo:lo<=l.length)(hw:2<=w)(h:m∈mvN l w ((lo:Int),0)):∃p:Nat×Int,m=⟨cst l w p,strN p.1,((p.1:Int),0)⟩/\lo<p.1/\p.1<=l.length/\tw l lo (p.1 - lo)<=w:=by
 unfold mvN at h;split at h
 ·exact nomatch h
 ·rename_i hn
  have hlt:lo<l.length:=by
   refine Nat.lt_of_le_of_ne hlo λz=>hn (by rw[z])
  obtain⟨p,hp,rfl⟩:=zH.mp (List.mem_reverse.mp h);have hp':p∈ends l lo w:=hp;obtain⟨h1,h2,_,h4,h5⟩:=lW hlt hw p hp';exact⟨p,rfl,h1,h2,by omega⟩
theorem wg(l:List LT)(w:Int)(hl:l.length<=200)(hw:2<=w)(hw':w<=40)(t:Nat):Trl t (fsE l w) l.length ndN (mvN l w) (iD l) where
 na O a _ _:=QrN (n:=t) (O:=O) a
 mf O a n h ha hn:=by
  obtain rfl:=zn.mp hn;rw[Qvv];exact Qzq ⟨h,by omega,hw,hw'⟩ a ha
 ie O a n h ha hn:=by
  obtain rfl:=zn.mp hn;rw[tR];exact MJ ⟨h,by omega,hw,hw'⟩ a
 la O h:=Quj ⟨h,by omega,hw,hw'⟩
 fi O _:=Qsm
 f0:=zn.mpr rfl
 nd a:=List.nodup_cons.mpr ⟨List.not_mem_nil,List.nodup_nil⟩
 ln a:=show(1:Nat)<=1 by decide
 fw a n ha hn m hm:=by
  obtain rfl:=zn.mp hn;obtain⟨p,rfl,h1,h2,_⟩:=QyO ha hw hm;exact⟨p.1,h1,h2,zn.mpr rfl⟩
 sp a b n h1 h2:=by
  have:=(zn.mp h1).symm.trans (zn.mp h2)
  have:=congrArg Prod.fst this
  dsimp only at this;omega
 ml n:=by
  unfold mvN
  split
  ·exact Nat.zero_le _
  ·rw[List.length_reverse,zf]
   have:=Ly l n.1.toNat w
   omega
 fe n h:=by
  unfold mvN;rw[if_pos (jh h)]
 u1:=rfl
 u2:=rfl
 u3:=rfl
 u4:=rfl
 u5:=rfl
 hN:=by omega
def pr:Nat->List Nat->List (Nat×Nat)
 | _,[]=>[]
 |lo,e::es=>(lo,e)::pr e es
def dS(p:Nat×Nat):D:=.tup [.int (p.1:Int),.int (p.2:Int)]
theorem MP:∀(es:List Nat) (lo:Nat),j7 (.int (lo:Int)::es.map λe:Nat=>D.int (e:Int)) (es.map λe:Nat=>D.int (e:Int))=(pr lo es).map dS
 | [],lo=>rfl
 |e::es,lo=>by
  rw[zd];show D.tup [.int (lo:Int),.int (e:Int)]::j7 (.int (e:Int)::es.map λe:Nat=>D.int (e:Int)) (es.map λe:Nat=>D.int (e:Int))=_;rw[MP es e];rfl
def dH:List Nat:=[119,111,114,100,115]
def eY:List Nat:=[99,101,108,108,115]
def dI:List Nat:=[101,118,101,110]
theorem MT(w:Int)(h:2<=w/\w<=40)(O:aq):uO [.int w,.int 2,.int 40] O=.ok (.bl true) O:=by
 simp[uO,Ai,Af,Ae,h]
inductive Wy3:List Nat->Prop
 | cells:Wy3 eY
 | words:Wy3 dH
 | even:Wy3 dI
theorem M4(l:List LT)(a:Nat)(w:Int):ends l a w≠[]:=by
 unfold ends
 cases fes l a w (l.length - a) with
 |nil=>exact List.cons_ne_nil _ _
 |cons k ks=>exact List.cons_ne_nil _ _
theorem M5{l:List LT}{w:Int}{a:Nat}(h:a≠l.length):mvN l w ((a:Int),0)=((ends l a w).map λp=>(⟨cst l w p,strN p.1,((p.1:Int),0)⟩:M3)).reverse:=by
 unfold mvN;rw[if_neg (λz=>h (by have:=congrArg Prod.fst z;dsimp only at this;omega))];rfl
theorem neN(l:List LT)(w:Int):∀(a:Nat) (n:Nd),a<=l.length->n∈ndN a->iD l n=false->mvN l w n≠[]:=λa n ha hn hf=>by
 obtain rfl:=zn.mp hn;rw[tR] at hf
 have hne:¬a=l.length:=λz=>of_decide_eq_false hf (by omega)
 rw[M5 hne];intro z;rw[List.reverse_eq_nil_iff,List.map_eq_nil_iff] at z;exact M4 l a w z
theorem M6(l:List LT)(lo:Nat)(w:Int):(ends l lo w).Pairwise λp q=>p.1<q.1:=by
 have h:(fes l lo w (l.length - lo)).Pairwise (· < ·):=List.Pairwise.filter _ List.pairwise_lt_range;unfold ends
 revert h
 cases fes l lo w (l.length - lo) with
 |nil=>exact λ_=>List.pairwise_singleton _ _
 |cons k ks =>
  intro h;refine List.pairwise_map.mpr (h.imp λ{a b} hab=>?_);show lo+a+1<lo+b+1;omega
theorem QrF{α β:Type}{L:List α}{f:α->β}{P:β->Bool}{R:α->α->Prop}(hR:L.Pairwise R){m:β}(h:(L.map f).reverse.find? P=some m):∃p,p∈L/\f p=m/\P m=true/\∀p'∈L,R p' p\/p'=p\/P (f p')=false:=by
 obtain⟨h1,as,bs,h2,h3⟩:=List.find?_eq_some_iff_append.mp h;have h4:=List.reverse_eq_append_iff.mp h2;obtain⟨l1,l2,rfl,e1,e2⟩:=List.map_eq_append_iff.mp h4;rw[List.reverse_cons] at e1;obtain⟨l3,l4,rfl,e3,e4⟩:=List.map_eq_append_iff.mp e1;obtain⟨p,l5,rfl,e5,e6⟩:=List.map_eq_cons_iff.mp e4;have e7:=List.map_eq_nil_iff.mp e6;subst e7;refine⟨p,List.mem_append_left _ (zO _ (zn.mpr rfl)),e5,h1,λp' hp'=>?_⟩;obtain⟨q1,_,_⟩:=List.pairwise_append.mp hR;obtain⟨_,_,q2⟩:=List.pairwise_append.mp q1
 rcases zE.mp hp' with hp' | hp'
 ·rcases zE.mp hp' with hp' | hp'
  ·exact .inl (q2 p' hp' p (zn.mpr rfl))
  ·exact .inr (.inl (zn.mp hp'))
 ·refine .inr (.inr ?_)
  have:f p'∈l2.map f:=zH.mpr ⟨p',hp',rfl⟩
  rw[e2] at this
  have:=h3 _ (List.mem_reverse.mp this)
  cases hq:P (f p') with
  |false=>rfl
  |true=>rw[hq] at this;cases this
def px(ps:Tb)(a:Nat):Int:=match lk ps ((a:Int),0) with
 |some (some c)=>c
 | _=>0
section
variable {l:List LT}{w:Int}{ps:Tb}
theorem M7(hl:l.length<=200)(hw:2<=w)(hw':w<=40)(hP:Pri l.length ndN (mvN l w) (iD l) 0 ps){a:Nat}(ha:a<=l.length):lk ps ((a:Int),0)=some (some (px ps a)):=by
 obtain⟨c,hc⟩:=Mx (wg l w hl hw hw' 0) (neN l w) hP (l.length - a) a ((a:Int),0) (by omega) (zn.mpr rfl);unfold px;rw[hc]
def mE(l:List LT)(w:Int)(p:Nat×Int):M3:=⟨cst l w p,strN p.1,((p.1:Int),0)⟩
theorem Qyz(hl:l.length<=200)(hw:2<=w)(hw':w<=40)(hP:Pri l.length ndN (mvN l w) (iD l) 0 ps){a:Nat}(ha:a<l.length):lc ps (mvN l w ((a:Int),0))=some (px ps a):=by
 have e:=hP.at (a:=a) (n:=((a:Int),0)) (by omega) (zn.mpr rfl) (M7 hl hw hw' hP (by omega));rw[if_neg (by rw[tR,zg (by omega)];exact zh)] at e;exact e.symm
def Wk(l:List LT)(w:Int)(ps:Tb):Nat->List (Nat×Int)->Prop
 |lo,[]=>lo=l.length
 |lo,p::qs=>lo<l.length/\p∈ends l lo w/\cst l w p+px ps p.1=px ps lo/\(∀p'∈ends l lo w,p.1<p'.1->cst l w p'+px ps p'.1≠px ps lo)/\Wk l w ps p.1 qs
theorem M8(hl:l.length<=200)(hw:2<=w)(hw':w<=40)(hP:Pri l.length ndN (mvN l w) (iD l) 0 ps):∀(ms:List M3) (lo:Nat),lo<=l.length->Wy ps (mvN l w) (iD l) ((lo:Int),0) ms->∃qs:List (Nat×Int),(ms.map λm=>D.str m.name)=qs.map (λp=>D.str (strN p.1))/\Wk l w ps lo qs
 | [],lo,_,h=>⟨[],rfl,by
  have h':iD l ((lo:Int),0)=true:=h;rw[tR] at h'
  have:=jh h'
  show lo=l.length
  omega⟩
 |m::ms,lo,hlo,h=>by
  obtain⟨w1,w2,w3⟩:=h;rw[tR] at w1
  have hlt:lo<l.length:=Nat.lt_of_le_of_ne hlo λz=>of_decide_eq_false w1 (by omega)
  rw[Qyz hl hw hw' hP hlt,M5 (by omega)] at w2;obtain⟨p,hp,rfl,hc,hf⟩:=QrF (M6 l lo w) w2;have hb:=(lW hlt hw p hp).2.1
  have co_p:∀p',p'.1<=l.length->co ps (mE l w p')=some (cst l w p'+px ps p'.1):=λp' hp'=>QxQ (M7 hl hw hw' hP hp')
  have hc':co ps (mE l w p)=some (px ps lo):=jh hc;rw[co_p p hb] at hc';obtain⟨qs,e1,e2⟩:=M8 hl hw hw' hP ms p.1 hb w3;refine⟨p::qs,by rw[zd,zd,e1],hlt,hp,zt hc',λp' hp' hlt' z=>?_,e2⟩;have hb':=(lW hlt hw p' hp').2.1
  rcases hf p' hp' with q | q | q
  ·exact Nat.lt_asymm q hlt'
  ·rw[q] at hlt';exact zR _ hlt'
  ·have q':¬co ps (mE l w p')=some (px ps lo):=of_decide_eq_false q;exact q' (by rw[co_p p' hb',z])
theorem Wk.len:∀{qs:List (Nat×Int)}{lo:Nat},2<=w->Wk l w ps lo qs->qs.length+lo<=l.length
 | [],lo,_,h=>by have:lo=l.length:=h;rw[zN];omega
 |p::qs,lo,hw,h=>by
  have:=Wk.len hw h.2.2.2.2
  have:=(lW h.1 hw p h.2.1).1
  rw[zv];omega
theorem Wk.le:∀{qs:List (Nat×Int)}{lo:Nat},2<=w->Wk l w ps lo qs->∀p∈qs,p.1<=l.length
 | [],_,_,_,p,h=>(nomatch h)
 |p::qs,lo,hw,h,x,hx=>by
  rcases zk.mp hx with rfl | hx
  ·exact(lW h.1 hw _ h.2.1).2.1
  ·exact Wk.le hw h.2.2.2.2 x hx
end
def stE(es:List Nat):List (Nat×Nat):=if es=[] then[(0,0)] else pr 0 es
theorem QpY(l:List LT)(w:Int){O O':aq}{c:Int}{es:List Nat}(hlen:es.length<=1000)(hle:∀e∈es,e<=1000)(e1:sG [.ob O.length] (O++[.ins "Even" (fsE l w)])=.ok (.tup [.int c,.lst (es.map λe=>D.str (strN e))]) O'):pQ [.lst (l.map dL),.int w] O=.ok (.lst ((stE es).map dS)) O':=by
 have mk:nj "Even" sH (aj (aa 0) (aj (aa 1) au)) [some (.lst (l.map dL)),some (.int w),none,none] O=.ok (.ob O.length) (O++[.ins "Even" (fsE l w)]):=by
  rw[Yv,maS (x:=.lst (l.map dL)) rfl (ma1 (x:=.int w) rfl),aQ,QvU,Yw]
 have s1:aK sG (aj (nj "Even" sH (aj (aa 0) (aj (aa 1) au))) au) [some (.lst (l.map dL)),some (.int w),none,none] O=.ok (.tup [.int c,.lst (es.map λe=>D.str (strN e))]) O':=by
  rw[iU,eV,mk,aQ,dX,aQ,aQ,e1]
 have ec:=lL (g:=mgN 0) (t:=dN) (m:=aV pD (aj (aa 0) au)) (λρ=>∃a,ρ=[a]) (λe=>D.str (strN e)) (λe:Nat=>D.int (e:Int)) es [none] O' [] ⟨_,rfl⟩ (by
  rintro e he ρ ⟨a,rfl⟩;refine⟨_,rfl,⟨_,rfl⟩,rfl,kY (ma1 rfl) ?_⟩
  have:=hle e he
  exact XR (i:=(e:Int)) (by omega) (by omega))
 rw[zK] at ec;have s2:dD (cQ (ak gIx (aa 2) (mC (.int 1)))) 1 [] (mgN 0) dN (aV pD (aj (aa 0) au)) [some (.lst (l.map dL)),some (.int w),some (.tup [.int c,.lst (es.map λe=>D.str (strN e))]),none] O'=.ok (.lst (es.map λe:Nat=>D.int (e:Int))) O' :=
  qe (lg (l:=es.map λe=>D.str (strN e)) (bJ (x:=.tup [.int c,.lst (es.map λe=>D.str (strN e))]) (y:=.int 1) rfl rfl rfl)) (by rw[zf];omega) rfl ec
 have t3:=p8 (b:=mC (.int 0)) (j:=0) (gk (m:=aa 3) (ρ:=[some (.lst (l.map dL)),some (.int w),some (.tup [.int c,.lst (es.map λe=>D.str (strN e))]),some (.lst (es.map λe:Nat=>D.int (e:Int)))]) (O:=O') (l:=es.map λe:Nat=>D.int (e:Int)) rfl) rfl;rw[zf] at t3;show bA (vm [some (.lst (l.map dL)),some (.int w),none,none] O)=_;unfold vm;rw[sq (vV s1)];show bA (aB _ _ [some (.lst (l.map dL)),some (.int w),some (.tup [.int c,.lst (es.map λe=>D.str (strN e))]),none] O')=_;rw[sq (cG s2)];show bA (aB _ _ [some (.lst (l.map dL)),some (.int w),some (.tup [.int c,.lst (es.map λe=>D.str (strN e))]),some (.lst (es.map λe:Nat=>D.int (e:Int)))] O')=_
 unfold stE
 by_cases hn:es=[]
 ·rw[bz,jt (by rw[t3,zj (by rw[hn];rfl)]),if_pos hn];rfl
 ·have hp:es.length≠0:=λz=>hn (List.eq_nil_of_length_eq_zero z)
  rw[bz,if_no (by rw[t3,zg (by omega)]),dY,bF,if_neg hn]
  rw[ju (kY (g:=gLZ) (z:=.lst ((pr 0 es).map dS)) (maS (x:=.lst (.int ((0:Nat):Int)::es.map λe:Nat=>D.int (e:Int))) (bJ (x:=.lst [.int 0]) (y:=.lst (es.map λe:Nat=>D.int (e:Int))) (p7 (ma1 rfl) (by decide)) rfl (by
   rw[eU,eU,JF,if_pos (by rw[zf,ja];omega)]
   rfl)) (ma1 (x:=.lst (es.map λe:Nat=>D.int (e:Int))) rfl)) (by
   show some (D.lst (j7 _ _))=_
   rw[MP]))]
  rfl
def ChE(l:List LT)(w:Int):Nat->List Nat->Prop
 |lo,[]=>lo=l.length
 |lo,e::es=>lo<e/\e<=l.length/\tw l lo (e - lo)<=w/\ChE l w e es
theorem ChE.len{l:List LT}{w:Int}:∀{es:List Nat}{lo:Nat},ChE l w lo es->es.length+lo<=l.length
 | [],lo,h=>by have:lo=l.length:=h;rw[zN];omega
 |e::es,lo,h=>by
  have:=ChE.len h.2.2.2
  have:=h.1
  rw[zv];omega
theorem ChE.le{l:List LT}{w:Int}:∀{es:List Nat}{lo:Nat},ChE l w lo es->∀e∈es,e<=l.length
 | [],_,_,e,h=>(nomatch h)
 |e::es,lo,h,x,hx=>by
  rcases zk.mp hx with rfl | hx
  ·exact h.2.1
  ·exact ChE.le h.2.2.2 x hx
def sg(l:List LT):List Nat:=l.map (·.1)
section
variable {l l':List LT}
theorem jw(h:sg l'=sg l):l'.length=l.length:=by
 have:=congrArg List.length h
 unfold sg at this
 rwa [zf,zf] at this
theorem Ek(h:sg l'=sg l)(i:Nat):(l'[i]?).map (λx=>x.1)=(l[i]?).map (λx=>x.1):=by
 have:=congrArg (λx:List Nat=>x[i]?) h
 unfold sg at this
 rwa [zw,zw] at this
theorem wj(h:sg l'=sg l)(k:Nat):sg (l'.drop k)=sg (l.drop k):=by
 unfold sg at *;rw[List.map_drop,List.map_drop,h]
theorem M9(h:sg l'=sg l)(k:Nat):sg (l'.take k)=sg (l.take k):=by
 unfold sg at *;rw[List.map_take,List.map_take,h]
theorem Nb(l:List LT):wsum l=((sg l).map wid).sum:=by
 unfold wsum sg;rw[zP];rfl
theorem Nf(h:sg l'=sg l):wsum l'=wsum l:=by rw[Nb,Nb,h]
def El:List Nat->Int->Nat
 | [],_=>0
 |x::xs,w=>if wid x<=w then El xs (w - wid x)+1 else 0
theorem Em:∀(l:List LT) (w:Int),d7 l w=El (sg l) w
 | [],_=>rfl
 |x::xs,w=>by
  show(if wid x.1<=w then d7 xs (w - wid x.1)+1 else 0)=if wid x.1<=w then El (sg xs) (w - wid x.1)+1 else 0;rw[Em xs]
theorem En(h:sg l'=sg l)(lo:Nat)(w:Int):rch l' lo w=rch l lo w:=by
 unfold rch;rw[Em,Em,wj h]
theorem Ng(h:sg l'=sg l):∀n,trn l' n=trn l n
 | 0=>rfl
 |n+1=>by rw[lV,lV,Ek h,Ng h n]
theorem Qwq(h:sg l'=sg l)(d:D):isB l' d=isB l d:=by
 cases d with
 |int i =>
  unfold isB;dsimp only;rw[jw h,Ek h,Ek h]
 | _=>rfl
theorem Nh(h:sg l'=sg l)(lo k:Nat):tw l' lo k=tw l lo k:=by
 unfold tw;rw[Ng (wj h lo)];exact Nf (M9 (wj h lo) _)
theorem QyA(h:sg l'=sg l)(lo:Nat)(w:Int):gd l' lo w=gd l lo w:=by
 funext k
 unfold gd;rw[Qwq h,Nh h]
theorem Qv3(h:sg l'=sg l)(lo:Nat)(w:Int)(n:Nat):fes l' lo w n=fes l lo w n:=by
 unfold fes;rw[QyA h]
theorem Ni(h:sg l'=sg l)(lo:Nat)(w:Int):ends l' lo w=ends l lo w:=by
 unfold ends;rw[Qv3 h,jw h,En h,Nf (M9 (wj h lo) _)]
 cases fes l lo w (l.length - lo) with
 |nil=>rfl
 |cons k ks =>
  dsimp only
  refine jb λj _=>?_
  rw[Nh h]
theorem Qw2(h:sg l'=sg l)(w:Int)(p:Nat×Int):cst l' w p=cst l w p:=by
 unfold cst;rw[jw h]
theorem QvS(h:sg l'=sg l)(w:Int):mvN l' w=mvN l w:=by
 funext n
 unfold mvN;rw[jw h,Ni h]
 split
 ·rfl
 ·congr 1
  refine jb λp _=>?_
  rw[Qw2 h]
theorem Qvk(h:sg l'=sg l):iD l'=iD l:=by
 funext n
 unfold iD;rw[jw h]
end
theorem Qt7(l:List LT)(w:Int)(hl:l.length<=200)(hw:2<=w)(hw':w<=40):∃ps qs,Wk l w ps 0 qs/\∀l':List LT,sg l'=sg l->∀O:aq,∃O',pQ [.lst (l'.map dL),.int w] O=.ok (.lst ((stE (qs.map (·.1))).map dS)) O'/\∀(j:Nat) (x:Ob),O[j]?=some x->O'[j]?=some x:=by
 obtain⟨_,ps0,c0,ms0,_,_,hP0,_,w0⟩:=Mz (wg l w hl hw hw' 0) (neN l w) (by omega) (O:=[.ins "Even" (fsE l w)]) rfl;obtain⟨qs,e2,hk⟩:=M8 hl hw hw' hP0 ms0 0 (Nat.zero_le _) w0;refine⟨ps0,qs,hk,λl' hs O=>?_⟩;have hl':=jw hs;obtain⟨O',ps,c,ms,e1,keep,hP,_,hy⟩:=Mz (wg l' w (by omega) hw hw' O.length) (neN l' w) (by omega) (O:=O++[.ins "Even" (fsE l' w)]) lX;rw[QvS hs,Qvk hs] at hP hy;rw[hl'] at hP;have em:=MN (wg l w hl hw hw' 0).fw hP0 hP ms0 ms 0 (0,0) (Nat.zero_le _) (zn.mpr rfl) w0 hy;subst em;rw[e2] at e1;have hlen:=hk.len hw;have hle:=hk.le hw;refine⟨O',QpY l' w (c:=c) (es:=qs.map (·.1)) (by rw[zf];omega) (λe he=>?_) (by rw[zP];exact e1),λj x hx=>keep j x (by rw[zD (zl.mp hx).1];exact hx)⟩
 obtain⟨p,hp,rfl⟩:=zH.mp he
 have:=hle p hp
 omega
def dR:List Nat:=[99,117,116]
def Kp(O O':aq):Prop:=∀(j:Nat) (x:Ob),O[j]?=some x->O'[j]?=some x
theorem Kp.rfl'{O:aq}:Kp O O:=λ_ _ h=>h
theorem Kp.tr{O O' O2:aq}(h:Kp O O')(h2:Kp O' O2):Kp O O2:=λj x q=>h2 j x (h j x q)
def Ans(l:List LT)(w:Int)(y:List Nat)(st:List (Nat×Nat)):Prop:=∀l':List LT,sg l'=sg l->∀O:aq,∃O',dZ [.lst (l'.map dL),.int w,.str y] O=.ok (.lst (st.map dS)) O'/\Kp O O'
inductive Wy4:List Nat->Prop
 | cut:Wy4 dR
 | cells:Wy4 eY
 | words:Wy4 dH
 | even:Wy4 dI
theorem Nj{y:List Nat}(h:Wy4 y)(O:aq):vo [.str y] O=.ok (.bl true) O:=by
 have q:gIn false (.str y) (.tup [.str [99,117,116],.str [99,101,108,108,115],.str [119,111,114,100,115],.str [101,118,101,110]])=some (.bl true):=by
  cases h<;>rfl
 simp only[vo,BX,rM,zd,zJ,zv,zN,Nat.sub_self,List.replicate_zero,zZ,fG,Ju,Jw,c7,zC,aQ,kh,X3,Jv,Yj,Jt,if_true,dO,m_c,Js,q,dz,pF,pG]
def wk:MS:=(aB (bh (aJ (ak gEq (aa 2) (mC (.str [99,117,116])))) (aU (bY (aj (dh (aj (mC (.int 0)) (aj (aK pJ (aj (aa 0) (aj (mC (.int 0)) (aj (aa 1) au)))) au))) au))) bx)
  (aB (bh (aJ (ak gEq (aa 2) (mC (.str [101,118,101,110])))) (aU (aK pQ (aj (aa 0) (aj (aa 1) au)))) bx)
  (aU (aK sO (aj (aa 0) (aj (aa 1) (aj (aa 2) au)))))))
theorem QrJ(w:Int)(hw:2<=w/\w<=40){y:List Nat}(hy:Wy4 y)(O:aq):dZ [.lst (([]:List LT).map dL),.int w,.str y] O=.ok (.lst ([((0:Nat),(0:Nat))].map dS)) O:=by
 have e1:=MT w hw O;have e2:=Nj hy O;show bA (pU [some (.lst []),some (.int w),some (.str y)] O)=_;unfold pU;rw[bz,not_no ((bV (maS (x:=.int w) rfl (maS (x:=.int 2) rfl (ma1 (x:=.int 40) rfl)))).trans e1),bF,bz,not_no ((bV (ma1 (x:=.str y) rfl)).trans e2),bF];rfl
theorem Eo(l:List LT)(h0:l≠[])(w:Int)(hw:2<=w/\w<=40){y:List Nat}(hy:Wy4 y)(O:aq):dZ [.lst (l.map dL),.int w,.str y] O=bA (wk [some (.lst (l.map dL)),some (.int w),some (.str y)] O):=by
 have e1:=MT w hw O;have e2:=Nj hy O;have hpos:0<l.length:=List.length_pos_iff.mpr h0;have t0:=p8 (b:=mC (.int 0)) (j:=0) (gk (m:=aa 0) (ρ:=[some (.lst (l.map dL)),some (.int w),some (.str y)]) (O:=O) (l:=l.map dL) rfl) rfl;rw[zf] at t0;show bA (pU [some (.lst (l.map dL)),some (.int w),some (.str y)] O)=_;unfold pU;rw[bz,not_no ((bV (maS (x:=.int w) rfl (maS (x:=.int 2) rfl (ma1 (x:=.int 40) rfl)))).trans e1),bF,bz,not_no ((bV (ma1 (x:=.str y) rfl)).trans e2),bF,bz,if_no (by rw[t0,zg (by omega)]),dY,bF];rfl
theorem Qxd{l':List LT}(h:sg l'=sg []):l'=[]:=List.eq_nil_of_length_eq_zero (jw h)
theorem Ep{l l':List LT}(h:sg l'=sg l)(h0:l≠[]):l'≠[]:=λz=>h0 (List.eq_nil_of_length_eq_zero (by rw[<-jw h,z];rfl))
theorem QtW(w:Int)(hw:2<=w/\w<=40){y:List Nat}(hy:Wy4 y):Ans [] w y [(0,0)]:=λl' h O=>by
 rw[Qxd h];exact⟨O,QrJ w hw hy O,Kp.rfl'⟩
theorem Qvi(l:List LT)(h0:l≠[])(hl:l.length<=200)(w:Int)(hw:2<=w/\w<=40):Ans l w dR [(0,rch l 0 w)]:=λl' h O=>by
 have hl':=jw h;refine⟨O,?_,Kp.rfl'⟩;have er:=DX l' 0 w (by omega) (Nat.zero_le _) O;rw[Eo l' (Ep h h0) w hw Wy4.cut O];unfold wk
 rw[bz,jt (show aJ (ak gEq (aa 2) (mC (.str [99,117,116]))) [some (.lst (l'.map dL)),some (.int w),some (.str dR)] O=.ok true O from rfl),ju (d:=.lst [dS (0,rch l 0 w)]) (p7 (ma1 (p6 (maS (x:=.int 0) rfl (ma1 (x:=.int (rch l 0 w:Nat)) (by
  rw[bV (maS (x:=.lst (l'.map dL)) rfl (maS (x:=.int 0) rfl (ma1 (x:=.int w) rfl))),<-En h]
  exact er))) (show(2:Nat)<=1000000 by decide))) (show(1:Nat)<=1000000 by decide))]
 rfl
theorem Qsq(l:List LT)(h0:l≠[])(w:Int)(hw:2<=w/\w<=40){st:List (Nat×Nat)}(he:∀l':List LT,sg l'=sg l->∀O:aq,∃O',pQ [.lst (l'.map dL),.int w] O=.ok (.lst (st.map dS)) O'/\∀(j:Nat) (x:Ob),O[j]?=some x->O'[j]?=some x):Ans l w dI st:=λl' h O=>by
 obtain⟨O',e,k⟩:=he l' h O;refine⟨O',?_,k⟩;rw[Eo l' (Ep h h0) w hw Wy4.even O];unfold wk;rw[bz,if_no (show aJ (ak gEq (aa 2) (mC (.str [99,117,116]))) [some (.lst (l'.map dL)),some (.int w),some (.str dI)] O=.ok false O from rfl),dY,bF,bz,jt (show aJ (ak gEq (aa 2) (mC (.str [101,118,101,110]))) [some (.lst (l'.map dL)),some (.int w),some (.str dI)] O=.ok true O from rfl),ju ((bV (maS (x:=.lst (l'.map dL)) rfl (ma1 (x:=.int w) rfl))).trans e)];rfl
def ky:Bool->List Nat
 |true=>dH
 |false=>eY
def nxt(wd:Bool)(l:List LT)(lo:Nat)(w:Int):Nat:=if wd=true then((ends l lo w).getLast?.getD (0,0)).1 else rch l lo w
theorem Qv7{l l':List LT}(h:sg l'=sg l)(wd:Bool)(lo:Nat)(w:Int):nxt wd l' lo w=nxt wd l lo w:=by
 unfold nxt;rw[Ni h,En h]
theorem QtX(X:List D)(d:D):gIx (.lst (X++[d])) (.int (-1))=some d:=by
 rw[kj];unfold atI ixN;rw[if_neg (by decide),if_pos (by rw[zz,ja];omega),Option.bind_some,zz,ja,show((-1:Int)+((X.length+1:Nat):Int)).toNat=X.length by omega,zI (zc _),Nat.sub_self];rfl
theorem wu(l:List LT)(lo:Nat)(w:Int):∃p X,ends l lo w=X++[p]/\nxt true l lo w=p.1:=by
 have hne:=M4 l lo w;refine⟨(ends l lo w).getLast hne,(ends l lo w).dropLast,(List.dropLast_concat_getLast hne).symm,?_⟩;unfold nxt;rw[if_pos rfl,List.getLast?_eq_some_getLast hne];rfl
theorem wz(wd:Bool){l:List LT}{lo:Nat}{w:Int}(hlo:lo<l.length)(hw:2<=w):lo<nxt wd l lo w/\nxt wd l lo w<=l.length/\tw l lo (nxt wd l lo w - lo)<=w:=by
 cases wd with
 |true =>
  obtain⟨p,X,h1,h2⟩:=wu l lo w;obtain⟨a,b,_,c,d⟩:=lW hlo hw p (by rw[h1];exact zO _ (zn.mpr rfl));rw[h2];exact⟨a,b,by omega⟩
 |false =>
  have e:nxt false l lo w=rch l lo w:=rfl;have r1:=Le l lo w hlo hw;have r2:=DW l lo w (by omega)
  have hfit:rch l lo w - lo=d7 (l.drop lo) w:=by unfold rch;omega
  have s1:=Ec (l.drop lo) w (rch l lo w - lo) (by omega) (by omega);rw[e];exact⟨r1,r2,Int.le_trans (Lp _ _ _) s1⟩
theorem Qu1(wd:Bool)(l:List LT)(lo:Nat)(w:Int)(hl:l.length<=1000)(hlo:lo<l.length)(O:aq):sI [.lst (l.map dL),.int (lo:Int),.int w,.str (ky wd)] O=.ok (.int (nxt wd l lo w:Nat)) O:=by
 cases wd with
 |false =>
  have er:=DX l lo w hl (by omega) O;show bA (pR [some (.lst (l.map dL)),some (.int (lo:Int)),some (.int w),some (.str eY)] O)=_;unfold pR;rw[bz,if_no (show aJ (ak gEq (aa 3) (mC (.str [119,111,114,100,115]))) [some (.lst (l.map dL)),some (.int (lo:Int)),some (.int w),some (.str eY)] O=.ok false O from rfl),dY,bF,ju ((bV (maS (x:=.lst (l.map dL)) rfl (maS (x:=.int (lo:Int)) rfl (ma1 (x:=.int w) rfl)))).trans er)];rfl
 |true =>
  have ee:=Ls l lo w hl (by omega) O;obtain⟨p,X,h1,h2⟩:=wu l lo w;rw[h1,zQ] at ee;show bA (pR [some (.lst (l.map dL)),some (.int (lo:Int)),some (.int w),some (.str dH)] O)=_;unfold pR;rw[bz,jt (show aJ (ak gEq (aa 3) (mC (.str [119,111,114,100,115]))) [some (.lst (l.map dL)),some (.int (lo:Int)),some (.int w),some (.str dH)] O=.ok true O from rfl),h2,ju (d:=.int (p.1:Int)) (bJ (x:=dE p) (y:=.int 0) (bJ (x:=.lst (X.map dE++[dE p])) (y:=.int (-1)) ((bV (maS (x:=.lst (l.map dL)) rfl (maS (x:=.int (lo:Int)) rfl (ma1 (x:=.int w) rfl)))).trans ee) rfl (QtX _ _)) rfl rfl)];rfl
def esF(wd:Bool)(l:List LT)(w:Int):Nat->Nat->List Nat
 | 0,_=>[]
 |f+1,lo=>if lo<l.length then nxt wd l lo w::esF wd l w f (nxt wd l lo w) else[]
theorem Nk{l l':List LT}(h:sg l'=sg l)(wd:Bool)(w:Int):∀f lo,esF wd l' w f lo=esF wd l w f lo
 | 0,_=>rfl
 |f+1,lo=>by
  unfold esF;rw[jw h,Qv7 h,Nk h wd w f]
def wA:MS:=(aB (aH 5 (aK sI (aj (aa 0) (aj (aa 4) (aj (aa 1) (aj (aa 2) au))))))
  (aB (dW 3 (dh (aj (aa 4) (aj (aa 5) au))))
  (aH 4 (aa 5))))
def nE(l:List LT)(w:Int)(y:List Nat)(acc:List (Nat×Nat))(lo:Nat)(o5:Option D):aA:=[some (.lst (l.map dL)),some (.int w),some (.str y),some (.lst (acc.map dS)),some (.int (lo:Int)),o5]
theorem Nm(wd:Bool)(l:List LT)(w:Int)(hl:l.length<=1000)(hw:2<=w)(O:aq):∀(f lo:Nat) (acc:List (Nat×Nat)) (o5:Option D),lo<=l.length->l.length - lo<f->acc.length<=lo ->
  ∃o5',dM (aJ (ak gLt (aa 4) (aV bC (aj (aa 0) au)))) wA f (nE l w (ky wd) acc lo o5) O=.nx (nE l w (ky wd) (acc++pr lo (esF wd l w f lo)) l.length o5') O
 | 0,lo,acc,o5,_,h,_=>absurd h (Nat.not_lt_zero _)
 |f+1,lo,acc,o5,hlo,hf,ha=>by
  have hlen:=gk (m:=aa 0) (ρ:=nE l w (ky wd) acc lo o5) (O:=O) (l:=l.map dL) rfl;rw[zf] at hlen;have t:=vO (a:=aa 4) (i:=(lo:Int)) rfl hlen;unfold esF
  by_cases h:lo=l.length
  ·refine⟨o5,?_⟩;rw[vX (by rw[t,zg (by omega)]),if_neg (by omega),show pr lo []=[] from rfl,zZ,h]
  ·have e1:=Qu1 wd l lo w hl (by omega) O;obtain⟨h1,h2,h3⟩:=wz wd (show lo<l.length by omega) hw;rw[if_pos (by omega)]
   generalize nxt wd l lo w=e at *
   have s1:aK sI (aj (aa 0) (aj (aa 4) (aj (aa 1) (aj (aa 2) au)))) (nE l w (ky wd) acc lo o5) O=.ok (.int (e:Int)) O:=(bV (maS rfl (maS rfl (maS rfl (ma1 rfl))))).trans e1
   have eb:wA (nE l w (ky wd) acc lo o5) O=.nx (nE l w (ky wd) (acc++[(lo,e)]) e (some (.int (e:Int)))) O:=by
    unfold wA;rw[sq (cG s1)];show aB _ _ (nE l w (ky wd) acc lo (some (.int (e:Int)))) O=_;rw[sq (DG (ds:=acc.map dS) (d:=dS (lo,e)) (p6 (maS rfl (ma1 rfl)) (show(2:Nat)<=1000000 by decide)) rfl (by rw[zf];omega))];show aH 4 (aa 5) [some (.lst (l.map dL)),some (.int w),some (.str (ky wd)),some (.lst (acc.map dS++[dS (lo,e)])),some (.int (lo:Int)),some (.int (e:Int))] O=_;rw[cG (d:=.int (e:Int)) rfl];unfold nE;rw[zQ];rfl
   obtain⟨o5',e2⟩:=Nm wd l w hl hw O f e (acc++[(lo,e)]) (some (.int (e:Int))) h2 (by omega) (by rw[zz,ja];omega);refine⟨o5',?_⟩;rw[tQ (by rw[t,zj (by omega)]) eb,e2,jc];rfl
theorem QwK(wd:Bool)(l:List LT)(w:Int)(hl:l.length<=1000)(hw:2<=w)(O:aq):sO [.lst (l.map dL),.int w,.str (ky wd)] O=.ok (.lst ((pr 0 (esF wd l w wF 0)).map dS)) O:=by
 obtain⟨o5,e⟩:=Nm wd l w hl hw O wF 0 [] none (Nat.zero_le _) (by unfold wF;omega) (Nat.zero_le _)
 generalize esF wd l w wF 0=es at e
 rw[zK] at e;unfold wA at e;show bA (vp [some (.lst (l.map dL)),some (.int w),some (.str (ky wd)),none,none,none] O)=_;unfold vp;rw[sq (cG (d:=.lst []) (p7 rfl (Nat.zero_le _)))];rw[sq (cG (d:=.int 0) rfl)];show bA (aB _ _ (nE l w (ky wd) [] 0 none) O)=_;rw[bz,yK,e,bF];rfl
def Nx(wd:Bool)(l:List LT)(w:Int):Nat->List Nat->Prop
 |lo,[]=>lo=l.length
 |lo,e::es=>lo<l.length/\e=nxt wd l lo w/\Nx wd l w e es
theorem Np(wd:Bool){l:List LT}{w:Int}(hw:2<=w):∀f lo,lo<=l.length->l.length - lo<f->Nx wd l w lo (esF wd l w f lo)
 | 0,lo,_,h=>absurd h (Nat.not_lt_zero _)
 |f+1,lo,hlo,hf=>by
  unfold esF
  by_cases h:lo<l.length
  ·rw[if_pos h];obtain⟨h1,h2,_⟩:=wz wd h hw;exact⟨h,rfl,Np wd hw f _ h2 (by omega)⟩
  ·rw[if_neg h];show lo=l.length;omega
theorem Qvw(wd:Bool)(l:List LT)(w:Int)(hl:l.length<=200)(hw:2<=w):∃es,Nx wd l w 0 es/\∀l':List LT,sg l'=sg l->∀O:aq,sO [.lst (l'.map dL),.int w,.str (ky wd)] O=.ok (.lst ((pr 0 es).map dS)) O:=by
 refine⟨esF wd l w wF 0,Np wd hw wF 0 (Nat.zero_le _) (by unfold wF;omega),λl' h O=>?_⟩;have hl':=jw h;rw[<-Nk h];exact QwK wd l' w (by omega) hw O
theorem ky4(wd:Bool):Wy4 (ky wd):=by
 cases wd
 ·exact Wy4.cells
 ·exact Wy4.words
theorem Qud(wd:Bool)(l:List LT)(h0:l≠[])(hl:l.length<=200)(w:Int)(hw:2<=w/\w<=40):∃es,Nx wd l w 0 es/\Ans l w (ky wd) (pr 0 es):=by
 obtain⟨es,h1,h2⟩:=Qvw wd l w hl hw.1;refine⟨es,h1,λl' h O=>⟨O,?_,Kp.rfl'⟩⟩;have e:=h2 l' h O;rw[Eo l' (Ep h h0) w hw (ky4 wd) O];unfold wk
 have q1:aJ (ak gEq (aa 2) (mC (.str [99,117,116]))) [some (.lst (l'.map dL)),some (.int w),some (.str (ky wd))] O=.ok false O:=by cases wd<;>rfl
 have q2:aJ (ak gEq (aa 2) (mC (.str [101,118,101,110]))) [some (.lst (l'.map dL)),some (.int w),some (.str (ky wd))] O=.ok false O:=by cases wd<;>rfl
 rw[bz,if_no q1,dY,bF,bz,if_no q2,dY,bF,ju ((bV (maS (x:=.lst (l'.map dL)) rfl (maS (x:=.int w) rfl (ma1 (x:=.str (ky wd)) rfl)))).trans e)];rfl
theorem not_tru{m:L2.M D}{ρ:aA}{O O':aq}(h:m ρ O=.ok (.bl true) O'):du (cj m) ρ O=.ok false O':=by
 rw[uE,nG,h,aQ,lJ,nH,nF,aQ];rfl
theorem Er{t:L2.M Bool}{a b:MS}{ρ:aA}{O O':aq}(h:t ρ O=.ok false O'):bh t a b ρ O=b ρ O':=by
 rw[ig,h,iW,if_neg zh]
theorem QyN:dF "int" "int" = true:=by decide
theorem QyC:dF "int" "bool" = false:=by decide
theorem Qys:dF "tuple" "tuple" = true:=by decide
theorem Qye:dF "list" "list" = true:=by decide
theorem QuR(i:Int)(O:aq):nT [.int i] O=.ok (.bl true) O:=by
 have i1:fC "int" (aa 0) [some (.int i)] O=.ok (.bl true) O:=by rw[vZ (d:=.int i) (t:="int") rfl rfl,QyN]
 have i2:fC "bool" (aa 0) [some (.int i)] O=.ok (.bl false) O:=by rw[vZ (d:=.int i) (t:="int") rfl rfl,QyC]
 show bA (aU (jW (fC "int" (aa 0)) (qJ (fC "bool" (aa 0)))) [some (.int i)] O)=_;rw[fG,Ju,i1,aQ,Jt,if_pos rfl,XX,i2,aQ];rfl
theorem Nq{m:L2.M D}{ρ:aA}{O:aq}{i:Int}(h:m ρ O=.ok (.int i) O):du (cj (aK nT (aj m au))) ρ O=.ok false O:=not_tru ((bV (ma1 h)).trans (QuR i O))
def Hd(l:List LT)(w:Int):Nat->List (Nat×Nat)->Nat->Prop
 |lo,[],e=>lo=e
 |lo,p::st,e=>p.1=lo/\lo<=p.2/\p.2<=l.length/\(p.2=lo->l=[])/\tw l lo (p.2 - lo)<=w/\Hd l w p.2 st e
theorem Nr{wd:Bool}{l:List LT}{w:Int}(hw:2<=w):∀(es:List Nat) (lo:Nat),Nx wd l w lo es->Hd l w lo (pr lo es) l.length
 | [],lo,h=>h
 |e::es,lo,⟨h1,h2,h3⟩=>by
  obtain⟨a,b,c⟩:=wz wd h1 hw;rw[<-h2] at a b c;exact⟨rfl,show lo<=e by omega,b,λz=>absurd (show e=lo from z) (by omega),c,Nr hw es e h3⟩
theorem Nt{l:List LT}{w:Int}{ps:Tb}(hw:2<=w):∀(qs:List (Nat×Int)) (lo:Nat),Wk l w ps lo qs->Hd l w lo (pr lo (qs.map (·.1))) l.length
 | [],lo,h=>h
 |q::qs,lo,⟨h1,h2,_,_,h3⟩=>by
  obtain⟨a,b,_,c,d⟩:=lW h1 hw q h2;exact⟨rfl,show lo<=q.1 by omega,b,λz=>absurd (show q.1=lo from z) (by omega),show tw l lo (q.1 - lo)<=w by omega,Nt hw qs q.1 h3⟩
theorem wB:∀(es:List Nat) (lo:Nat),(pr lo es).length=es.length
 | [],_=>rfl
 |e::es,lo=>by
  show(pr e es).length+1=_;rw[wB es e];rfl
def wC:MS:=(aB (bh (cX (du (cj (fC "tuple" (aa 5)))) (cX (aJ (ak gNe (aV bC (aj (aa 5) au)) (mC (.int 2)))) (cX (du (cj (aK nT (aj (ak gIx (aa 5) (mC (.int 0))) au)))) (du (cj (aK nT (aj (ak gIx (aa 5) (mC (.int 1))) au))))))) (aU (mC (.bl false))) bx)
  (aB (bh (cX (aJ (ak gNe (ak gIx (aa 5) (mC (.int 0))) (aa 4))) (cX (aJ (ak gLt (ak gIx (aa 5) (mC (.int 1))) (aa 4))) (cX (aJ (ak gGt (ak gIx (aa 5) (mC (.int 1))) (aV bC (aj (aa 1) au)))) (dC (aJ (ak gEq (ak gIx (aa 5) (mC (.int 1))) (aa 4))) (aJ (ak gNe (aa 1) (bY au))))))) (aU (mC (.bl false))) bx)
  (aB (bh (aJ (ak gGt (aK lR (aj (aa 1) (aj (ak gIx (aa 5) (mC (.int 0))) (aj (ak gIx (aa 5) (mC (.int 1))) au)))) (aa 2))) (aU (mC (.bl false))) bx)
  (aH 4 (ak gIx (aa 5) (mC (.int 1)))))))
def hE(F:D)(l:List LT)(w:Int)(y:List Nat)(lo:Nat)(o5:Option D):aA:=[some F,some (.lst (l.map dL)),some (.int w),some (.str y),some (.int (lo:Int)),o5]
theorem Es{a b:L2.M D}{ρ:aA}{O:aq}{i j:Int}(ha:a ρ O=.ok (.int i) O)(hb:b ρ O=.ok (.int j) O):aJ (ak gNe a b) ρ O=.ok (!decide (i=j)) O:=lU (bJ ha hb Yb)
theorem Et{a b:L2.M D}{ρ:aA}{O:aq}{i j:Int}(ha:a ρ O=.ok (.int i) O)(hb:b ρ O=.ok (.int j) O):aJ (ak gGt a b) ρ O=.ok (decide (j<i)) O:=lU (bJ ha hb rfl)
theorem and_f{t1 t2:L2.M Bool}{ρ:aA}{O:aq}(h1:t1 ρ O=.ok false O):dC t1 t2 ρ O=.ok false O:=by
 rw[jL,h1,aQ,if_neg zh]
theorem and_t{t1 t2:L2.M Bool}{ρ:aA}{O:aq}(h1:t1 ρ O=.ok true O):dC t1 t2 ρ O=t2 ρ O:=by
 rw[jL,h1,aQ,if_pos rfl]
theorem QuX(F:D)(l:List LT)(hl:l.length<=1000)(w:Int)(y:List Nat)(lo:Nat)(p:Nat×Nat)(h1:p.1=lo)(h2:lo<=p.2)(h3:p.2<=l.length)(h4:p.2=lo->l=[])(h5:tw l lo (p.2 - lo)<=w)(O:aq):wC (hE F l w y lo (some (dS p))) O=.nx (hE F l w y p.2 (some (dS p))) O:=by
 have x0:ak gIx (aa 5) (mC (.int 0)) (hE F l w y lo (some (dS p))) O=.ok (.int (p.1:Int)) O:=bJ (x:=dS p) (y:=.int 0) rfl rfl rfl;have x1:ak gIx (aa 5) (mC (.int 1)) (hE F l w y lo (some (dS p))) O=.ok (.int (p.2:Int)) O:=bJ (x:=dS p) (y:=.int 1) rfl rfl rfl
 have c1:du (cj (fC "tuple" (aa 5))) (hE F l w y lo (some (dS p))) O=.ok false O:=Ej (by
  have:=vZ (n:="tuple") (m:=aa 5) (ρ:=hE F l w y lo (some (dS p))) (O:=O) (d:=dS p) (t:="tuple") rfl rfl
  rwa [Qys] at this)
 have c2:aJ (ak gNe (aV bC (aj (aa 5) au)) (mC (.int 2))) (hE F l w y lo (some (dS p))) O=.ok false O:=Es (i:=2) (j:=2) (kY (xs:=[dS p]) rfl rfl) rfl;have ln:=gk (m:=aa 1) (ρ:=hE F l w y lo (some (dS p))) (O:=O) (l:=l.map dL) rfl;rw[zf] at ln;have d1:=Es (b:=aa 4) (j:=(lo:Int)) x0 rfl;have d2:=vO (b:=aa 4) (j:=(lo:Int)) x1 rfl;have d3:=Et x1 ln;have d4:=p8 (b:=aa 4) (j:=(lo:Int)) x1 rfl;rw[zj (by omega),Bool.not_true] at d1;rw[zg (by omega)] at d2;rw[zg (by omega)] at d3
 have d5:dC (aJ (ak gEq (ak gIx (aa 5) (mC (.int 1))) (aa 4))) (aJ (ak gNe (aa 1) (bY au))) (hE F l w y lo (some (dS p))) O=.ok false O:=by
  by_cases h:p.2=lo
  ·rw[zj (by omega)] at d4;rw[and_t d4,h4 h];rfl
  ·rw[zg (by omega)] at d4;exact and_f d4
 have et:=Lg l lo (p.2 - lo) hl (by omega) O;rw[show lo+(p.2 - lo)=p.2 by omega] at et
 have et':lR [.lst (l.map dL),.int (p.1:Int),.int (p.2:Int)] O=.ok (.int (tw l lo (p.2 - lo))) O:=by rw[h1];exact et
 have t3:=Et (b:=aa 2) (j:=w) ((bV (maS (x:=.lst (l.map dL)) (a:=aa 1) (ρ:=hE F l w y lo (some (dS p))) rfl (maS x0 (ma1 x1)))).trans et') rfl;rw[zg (by omega)] at t3;unfold wC;rw[bz,if_no (or_f c1 (or_f c2 (or_f (Nq x0) (Nq x1)))),dY,bF,bz,if_no (or_f d1 (or_f d2 (or_f d3 d5))),dY,bF,bz,if_no t3,dY,bF,cG x1];rfl
theorem Nu(F:D)(l:List LT)(hl:l.length<=1000)(w:Int)(y:List Nat)(O:aq):∀(st:List (Nat×Nat)) (lo e:Nat) (o5:Option D),Hd l w lo st e->∃o5',cD (mgN 5) wC (st.map dS) (hE F l w y lo o5) O=.nx (hE F l w y e o5') O
 | [],lo,e,o5,h=>⟨o5,by rw[show lo=e from h];rfl⟩
 |p::st,lo,e,o5,⟨h1,h2,h3,h4,h5,h6⟩=>by
  obtain⟨o5',q⟩:=Nu F l hl w y O st p.2 e (some (dS p)) h6;refine⟨o5',?_⟩;rw[zd];unfold cD;rw[show mgN 5 (dS p) (hE F l w y lo o5)=some (hE F l w y lo (some (dS p))) from rfl];dsimp only;rw[QuX F l hl w y lo p h1 h2 h3 h4 h5 O];exact q
theorem wD(l:List LT)(hl:l.length<=1000)(w:Int){y:List Nat}(hy:Wy4 y){st:List (Nat×Nat)}{e:Nat}(h0:st≠[])(h:Hd l w 0 st e)(h1:y=dR->st.length=1)(h2:y≠dR->e=l.length)(O:aq):nW [.lst (st.map dS),.lst (l.map dL),.int w,.str y] O=.ok (.bl true) O:=by
 obtain⟨o5,q⟩:=Nu (.lst (st.map dS)) l hl w y O st 0 e none h;have hpos:0<st.length:=List.length_pos_iff.mpr h0;have ρ0:aA:=[some (.lst (st.map dS)),some (.lst (l.map dL)),some (.int w),some (.str y),none,none]
 have c1:du (cj (fC "list" (aa 0))) [some (.lst (st.map dS)),some (.lst (l.map dL)),some (.int w),some (.str y),none,none] O=.ok false O:=Ej (by
  have:=vZ (n:="list") (m:=aa 0) (ρ:=[some (.lst (st.map dS)),some (.lst (l.map dL)),some (.int w),some (.str y),none,none]) (O:=O) (d:=.lst (st.map dS)) (t:="list") rfl rfl
  rwa [Qye] at this)
 have c2:=p8 (b:=mC (.int 0)) (j:=0) (gk (m:=aa 0) (ρ:=[some (.lst (st.map dS)),some (.lst (l.map dL)),some (.int w),some (.str y),none,none]) (O:=O) (l:=st.map dS) rfl) rfl;rw[zf,zg (by omega)] at c2;have li:cQ (aa 0) (hE (.lst (st.map dS)) l w y 0 none) O=.ok (st.map dS) O:=lg rfl;have l0:=gk (m:=aa 0) (ρ:=hE (.lst (st.map dS)) l w y e o5) (O:=O) (l:=st.map dS) rfl;have l1:=gk (m:=aa 1) (ρ:=hE (.lst (st.map dS)) l w y e o5) (O:=O) (l:=l.map dL) rfl;rw[zf] at l0 l1;show bA (vI [some (.lst (st.map dS)),some (.lst (l.map dL)),some (.int w),some (.str y),none,none] O)=_;unfold vI
 rw[bz,if_no (or_f c1 c2),dY,bF,sq (cG (d:=.int ((0:Nat):Int)) rfl)];show bA (aB (b8 (cQ (aa 0)) (mgN 5) wC) _ (hE (.lst (st.map dS)) l w y 0 none) O)=_;rw[bz,il,li,ir,q,bF,bz]
 by_cases hc:y=dR
 ·have ty:aJ (ak gEq (aa 3) (mC (.str [99,117,116]))) (hE (.lst (st.map dS)) l w y e o5) O=.ok true O:=by rw[hc];rfl
  rw[h1 hc] at l0;rw[jt ty,ju (bJ (z:=.bl true) l0 (y:=.int 1) rfl rfl)];rfl
 ·have ty:aJ (ak gEq (aa 3) (mC (.str [99,117,116]))) (hE (.lst (st.map dS)) l w y e o5) O=.ok false O:=by
   cases hy with
   |cut=>exact absurd rfl hc
   | _=>rfl
  rw[if_no ty,dY,bF,ju (bJ (z:=.bl true) (x:=.int (e:Int)) rfl l1 (by rw[cT,cT,h2 hc,X8,zj rfl]))];rfl
theorem Nv(x:LT)(r:List LT):∀n,(trn r n=0\/trn (x::r) (n+1)=trn r n+1)
 | 0=>.inl rfl
 |n+1=>by
  rw[lV r n,lV (x::r) (n+1),zA]
  split
  ·exact Nv x r n
  ·exact .inr rfl
theorem QwU{l:List LT}{a k:Nat}(h:a<l.length):tw l (a+1) k<=tw l a (k+1):=by
 unfold tw;rw[List.drop_eq_getElem_cons h]
 rcases Nv l[a] (l.drop (a+1)) k with q | q
 ·rw[q,List.take_zero];exact tG _
 ·rw[q,List.take_succ_cons,tE]
  have:=DR l[a].1
  omega
theorem Ny{l:List LT}{a b:Nat}:∀{g:Nat},a<=g->g<b->b<=l.length->tw l g (b - g)<=tw l a (b - a):=by
 intro g h1 h2 h3;obtain⟨c,rfl⟩:∃c,g=a+c:=⟨g - a,by omega⟩
 induction c with
 |zero=>exact Int.le_refl _
 |succ c ih =>
  have s:=QwU (l:=l) (a:=a+c) (k:=b - (a+(c+1))) (by omega);rw[show b - (a+(c+1))+1=b - (a+c) by omega] at s;exact Int.le_trans s (ih (by omega) (by omega))
inductive Bc (l:List LT) (w:Int):Nat->Nat->Prop
 | z:Bc l w 0 0
 | s {a b n:Nat}:Bc l w a n->a<b->b<=l.length->isB l (.int (b:Int))=true->tw l a (b - a)<=w->Bc l w b (n+1)
def Gb(l:List LT)(w:Int)(g b:Nat):Prop:=g<b/\b<=l.length/\isB l (.int (b:Int))=true/\tw l g (b - g)<=w
section
variable {l:List LT}{w:Int}
theorem Bc.next{t m:Nat}(h:Bc l w t m):∀g,g<t->∃b,Gb l w g b:=by
 induction h with
 |z=>exact λg hg=>absurd hg (Nat.not_lt_zero _)
 | @s a b n h1 h2 h3 h4 h5 ih =>
  intro g hg
  by_cases hga:g<a
  ·exact ih g hga
  ·exact⟨b,hg,h3,h4,Int.le_trans (Ny (by omega) hg h3) h5⟩
theorem Bc.le{t m:Nat}(h:Bc l w t m):t<=l.length/\m<=t:=by
 induction h with
 |z=>exact⟨Nat.zero_le _,zc _⟩
 | @s a b n h1 h2 h3 h4 h5 ih=>exact⟨h3,by omega⟩
theorem Nz{g b:Nat}(h:Gb l w g b):b - g - 1∈fes l g w (l.length - g):=by
 obtain⟨h1,h2,h3,h4⟩:=h;refine vU.mpr ⟨by omega,?_⟩;unfold gd;rw[show(1:Int)+((g+(b - g - 1):Nat):Int)=(b:Int) by omega,h3,show b - g - 1+1=b - g by omega,zj h4];rfl
theorem NB{g b:Nat}(h:Gb l w g b):ends l g w=(fes l g w (l.length - g)).map λk=>(g+k+1,tw l g (k+1)):=by
 have m:=Nz h;unfold ends
 revert m
 cases fes l g w (l.length - g) with
 |nil=>exact λm=>nomatch m
 |cons k ks=>exact λ_=>rfl
theorem Qw1{g b:Nat}(h:Gb l w g b):∃c,(b,c)∈ends l g w:=by
 refine⟨tw l g (b - g - 1+1),?_⟩;rw[NB h];refine zH.mpr ⟨b - g - 1,Nz h,?_⟩
 have:=h.1
 rw[show g+(b - g - 1)+1=b by omega]
theorem Qvp{g b e:Nat}{c:Int}(h:Gb l w g b)(hm:(e,c)∈ends l g w):Gb l w g e:=by
 rw[NB h] at hm;obtain⟨k,hk,ek⟩:=zH.mp hm;cases ek;obtain⟨h1,h2⟩:=vU.mp hk;unfold gd at h2;rw[zo] at h2;refine⟨by omega,by omega,?_,?_⟩
 ·have:=h2.1
  rwa [show(1:Int)+((g+k:Nat):Int)=((g+k+1:Nat):Int) by omega] at this
 ·rw[show g+k+1 - g=k+1 by omega];exact jh h2.2
def Ex(l:List LT)(w:Int):Nat->List Nat->Prop
 |lo,[]=>lo=l.length
 |lo,e::es=>lo<l.length/\(∃c,(e,c)∈ends l lo w)/\Ex l w e es
theorem NP:∀(es:List Nat) (lo:Nat),Nx true l w lo es->Ex l w lo es
 | [],lo,h=>h
 |e::es,lo,⟨h1,h2,h3⟩=>by
  obtain⟨p,X,q1,q2⟩:=wu l lo w;refine⟨h1,⟨p.2,?_⟩,NP es e h3⟩;rw[h2,q2,q1];exact zO _ (zn.mpr rfl)
theorem NQ{ps:Tb}:∀(qs:List (Nat×Int)) (lo:Nat),Wk l w ps lo qs->Ex l w lo (qs.map (·.1))
 | [],lo,h=>h
 |q::qs,lo,⟨h1,h2,_,_,h3⟩=>⟨h1,⟨q.2,h2⟩,NQ qs q.1 h3⟩
theorem Eu(H:∀g,g<l.length->∃b,Gb l w g b):∀(es:List Nat) (lo m:Nat),Ex l w lo es->Bc l w lo m->Bc l w l.length (m+es.length)
 | [],lo,m,h,hb=>by
  have e:lo=l.length:=h;rw[<-e];exact hb
 |e::es,lo,m,⟨h1,⟨c,h2⟩,h3⟩,hb=>by
  obtain⟨b,gb⟩:=H lo h1;obtain⟨a1,a2,a3,a4⟩:=Qvp gb h2
  have:=Eu H es e (m+1) h3 (.s hb a1 a2 a3 a4)
  rw[zv,show m+(es.length+1)=m+1+es.length by omega];exact this
theorem QtZ{g b:Nat}(h:Gb l w g b):b<=nxt true l g w:=by
 obtain⟨c,hc⟩:=Qw1 h;obtain⟨p,X,q1,q2⟩:=wu l g w;have hp:=M6 l g w;rw[q1] at hp hc;rw[q2]
 rcases zE.mp hc with hc | hc
 ·exact Nat.le_of_lt ((List.pairwise_append.mp hp).2.2 _ hc p (zn.mpr rfl))
 ·rw[<-zn.mp hc];exact zc _
theorem ahead{es:List Nat}(hn:Nx true l w 0 es){t m:Nat}(h:Bc l w t m):∃g es2,Nx true l w g es2/\t<=g/\es.length<=m+es2.length:=by
 induction h with
 |z=>exact⟨0,es,hn,zc _,by omega⟩
 | @s a b n h1 h2 h3 h4 h5 ih =>
  obtain⟨g,es2,q1,q2,q3⟩:=ih
  by_cases hb:b<=g
  ·exact⟨g,es2,q1,hb,by omega⟩
  ·cases es2 with
   |nil =>
    have:g=l.length:=q1
    omega
   |cons e es3 =>
    obtain⟨r1,r2,r3⟩:=q1
    have:=QtZ (l:=l) (w:=w) (g:=g) (b:=b) ⟨by omega,h3,h4,Int.le_trans (Ny q2 (by omega) h3) h5⟩
    rw[zv] at q3;exact⟨e,es3,r3,by omega,by omega⟩
theorem QvF{es:List Nat}(hn:Nx true l w 0 es){m:Nat}(h:Bc l w l.length m):es.length<=m:=by
 obtain⟨g,es2,q1,q2,q3⟩:=ahead hn h
 cases es2 with
 |nil=>rw[zN] at q3;omega
 |cons e es3=>have:=q1.1;omega
end
theorem n6(p:Key×D)(r:List (Key×D))(k:Key):bU (p::r) k=if p.1=k then some p.2 else bU r k:=by
 unfold bU;rw[List.find?_cons]
 by_cases h:p.1=k
 ·rw[if_pos h,zj h];rfl
 ·rw[if_neg h,zg h]
theorem NT{k:Key}:∀kvs:List (Key×D),(kvs.any λp=>decide (p.1=k))=false->bU kvs k=none
 | [],_=>rfl
 |p::r,h=>by
  rw[List.any_cons,Bool.or_eq_false_iff] at h;rw[n6,if_neg (of_decide_eq_false h.1)];exact NT r h.2
theorem Ew{k k':Key}{d:D}:∀kvs:List (Key×D),(kvs.any λp=>decide (p.1=k))=true->bU (kvs.map λp=>if p.1=k then(p.1,d) else p) k'=if k'=k then some d else bU kvs k'
 | [],h=>absurd h zh
 |p::r,h=>by
  rw[zd,n6,n6]
  by_cases h1:p.1=k
  ·rw[if_pos h1]
   by_cases h2:k'=k
   ·rw[if_pos h2,if_pos (show p.1=k' by rw[h1,h2])]
   ·have h3:¬p.1=k':=λz=>h2 (by rw[<-z,h1])
    rw[if_neg h2,if_neg h3,if_neg h3]
    cases hr:r.any λp=>decide (p.1=k) with
    |true=>rw[Ew r hr,if_neg h2]
    |false =>
     rw[show(r.map λp=>if p.1=k then(p.1,d) else p)=r from ?_];exact(jb λq hq=>if_neg (of_decide_eq_false (List.any_eq_false.mp hr q hq |> λz=>by simpa using z))).trans (List.map_id _)
  ·rw[if_neg h1];rw[List.any_cons,zg h1,Bool.false_or] at h;rw[Ew r h]
   by_cases h2:k'=k
   ·rw[if_pos h2,if_pos h2,if_neg (show ¬p.1=k' from λz=>h1 (by rw[z,h2]))]
   ·rw[if_neg h2,if_neg h2]
theorem NZ{k k':Key}{d:D}:∀kvs:List (Key×D),bU (kvs++[(k,d)]) k'=match bU kvs k' with
  |some x=>some x
  |none=>if k'=k then some d else none
 | []=>by
  rw[zK,n6]
  by_cases h:k'=k
  ·rw[if_pos h.symm];exact(if_pos h).symm
  ·rw[if_neg (λz=>h z.symm)];exact(if_neg h).symm
 |p::r=>by
  rw[List.cons_append,n6,n6,NZ r]
  by_cases h:p.1=k'
  ·rw[if_pos h,if_pos h]
  ·rw[if_neg h,if_neg h]
theorem wG(kvs:List (Key×D))(k k':Key)(d:D):bU (jK kvs k d) k'=if k'=k then some d else bU kvs k':=by
 unfold jK
 cases h:kvs.any λp=>decide (p.1=k) with
 |true=>rw[if_pos rfl,Ew kvs h]
 |false =>
  rw[if_neg zh,NZ]
  by_cases h1:k'=k
  ·subst h1;rw[NT kvs h]
  ·cases bU kvs k' with
   |none=>rfl
   |some x=>exact(if_neg h1).symm
theorem N5(kvs:List (Key×D))(k:Key)(d:D):(jK kvs k d).length<=kvs.length+1:=by
 unfold jK
 split
 ·rw[zf];exact Nat.le_succ _
 ·rw[zz];exact zc _
def iN(n:Nat):D:=.int (n:Int)
def nK(n:Nat):Key:=.inl (n:Int)
theorem Ey{a b:Nat}(h:nK a=nK b):a=b:=Int.ofNat.inj (Sum.inl.inj h)
def sp(l:List LT):List Nat:=0::(bN l).map (· + 1)
theorem Qzb(l:List LT):.int 0::brk l=(sp l).map iN:=by
 unfold sp;rw[zd,Qwl,zP];refine congrArg _ (jb λk _=>?_);show D.int _=D.int _;exact congrArg _ (show(1:Int)+(k:Int)=((k+1:Nat):Int) by omega)
theorem Qx3(l:List LT):(sp l).Pairwise (· < ·):=by
 unfold sp;refine List.pairwise_cons.mpr ⟨λa ha=>?_,List.pairwise_map.mpr ((Qx1 l).imp λh=>Nat.add_lt_add_right h 1)⟩;obtain⟨k,_,rfl⟩:=zH.mp ha;exact Nat.succ_pos _
theorem N6(l:List LT):(sp l).length<=l.length+1:=by
 unfold sp bN;rw[zv,zf]
 have:=List.length_filter_le (λk:Nat=>isB l (.int (1+(k:Int)))) (List.range l.length)
 rw[List.length_range] at this;omega
theorem N7{l:List LT}{k s:Nat}(h:(sp l)[k+1]?=some s):0<s/\s<=l.length/\isB l (.int (s:Int))=true:=by
 unfold sp at h;rw[zA] at h;obtain⟨p,hp,rfl⟩:=zH.mp (zM h);obtain⟨h1,h2⟩:=Lw.mp hp;rw[show(1:Int)+(p:Int)=((p+1:Nat):Int) by omega] at h2;exact⟨Nat.succ_pos _,h1,h2⟩
theorem QyH{l:List LT}{k s:Nat}(h:(sp l)[k]?=some s):s<=l.length:=by
 cases k with
 |zero=>rw[<-zt (show some 0=some s from h)];exact Nat.zero_le _
 |succ k=>exact(N7 h).2.1
theorem QxN{l:List LT}{s:Nat}(h0:0<s)(h1:s<=l.length)(h2:isB l (.int (s:Int))=true):∃k:Nat,(sp l)[k+1]?=some s:=by
 have m:s - 1∈bN l:=Lw.mpr ⟨by omega,by rw[show(1:Int)+((s - 1:Nat):Int)=(s:Int) by omega];exact h2⟩;obtain⟨k,hk⟩:=List.getElem?_of_mem m;refine⟨k,?_⟩;unfold sp;rw[zA,zw,hk];exact congrArg some (show s - 1+1=s by omega)
theorem wH{l:List LT}{j k a s:Nat}(hj:(sp l)[j]?=some a)(hk:(sp l)[k]?=some s)(h:j<k):a<s:=by
 obtain⟨q1,rfl⟩:=zl.mp hj;obtain⟨q2,rfl⟩:=zl.mp hk;exact List.pairwise_iff_getElem.mp (Qx3 l) j k q1 q2 h
theorem Qsj{l:List LT}{j k a s:Nat}(hj:(sp l)[j]?=some a)(hk:(sp l)[k]?=some s)(h:a<s):j<k:=by
 rcases Nat.lt_trichotomy j k with q | q | q
 ·exact q
 ·rw[q,hk] at hj
  have:=zt hj
  omega
 ·have:=wH hk hj q
  omega
theorem Bc.plc{l:List LT}{w:Int}{a m:Nat}(h:Bc l w a m):∃j:Nat,(sp l)[j]?=some a:=by
 cases h with
 |z=>exact⟨0,rfl⟩
 | @s a b n h1 h2 h3 h4 h5 =>
  obtain⟨k,hk⟩:=QxN (by omega) h3 h4;exact⟨k+1,hk⟩
section
variable (l:List LT)(w:Int)
def Snd(kvs:List (Key×D)):Prop:=∀s d,bU kvs (nK s)=some d->∃n:Nat,d=.int (n:Int)/\Bc l w s n
def Cpl(kvs:List (Key×D))(K:Nat):Prop:=∀k s m,k<K->(sp l)[k]?=some s->Bc l w s m->∃n:Nat,bU kvs (nK s)=some (.int (n:Int))/\n<=m
def Cur(kvs:List (Key×D))(s J:Nat):Prop:=∀j a m,j<J->(sp l)[j]?=some a->tw l a (s - a)<=w->Bc l w a m->∃n:Nat,bU kvs (nK s)=some (.int (n:Int))/\n<=m+1
end
section
variable {l:List LT}{w:Int}
theorem Qst{kvs:List (Key×D)}{K s:Nat}(h:Cpl l w kvs K)(hs:(sp l)[K]?=some s)(h0:0<K)(hc:Cur l w kvs s K):Cpl l w kvs (K+1):=λk t m hk ht hb=>by
 by_cases hkK:k<K
 ·exact h k t m hkK ht hb
 ·have e:k=K:=by omega
  rw[e,hs] at ht;have e2:s=t:=zt ht;subst e2
  cases hb with
  |z =>
   have:=wH (j:=0) (a:=0) rfl hs h0
   omega
  | @s a b n h1 h2 h3 h4 h5 =>
   obtain⟨j,hj⟩:=h1.plc;exact hc j a n (Qsj hj hs h2) hj h5 h1
end
theorem Qvl{m:L2.M (List D)}{ρ:aA}{O O1:aq}{j:Int}(e:m ρ O=.ok [.int j] O1)(h:j<=1000000000/\-1000000000<=j):eQ m ρ O=.ok (bI 0 j.toNat) O1:=by
 unfold eQ;rw[e];show(if _ then _ else _)=_;rw[if_pos h]
theorem Qxf{my mo:L2.M D}{ρ:aA}{O:aq}{a n:Nat}{kvs:List (Key×D)}(hy:my ρ O=.ok (.int (a:Int)) O)(ho:mo ρ O=.ok (.ob n) O)(hO:O[n]?=some (.dk kvs)):aJ (pB false my mo) ρ O=.ok (bU kvs (nK a)).isSome O:=by
 refine lU ?_;unfold pB;rw[hy,aQ,ho]
 show(match keyOf (.int (a:Int)),O[n]? with
  |some k,some (.dk kvs)=>Res.ok (D.bl (false != (bU kvs k).isSome)) O
  | _,_=>.no)=_
 rw[hO];show Res.ok (D.bl (false != (bU kvs (nK a)).isSome)) O=_;rw[Bool.false_bne]
theorem N8{my mo:L2.M D}{ρ:aA}{O:aq}{y d:D}{k:Key}{n:Nat}{kvs:List (Key×D)}(ho:mo ρ O=.ok (.ob n) O)(hy:my ρ O=.ok y O)(hk:keyOf y=some k)(hO:O[n]?=some (.dk kvs))(hv:bU kvs k=some d):f9 mo my ρ O=.ok d O:=by
 unfold f9;rw[ho,aQ];dsimp only;rw[hy]
 show(match keyOf y,O[n]? with
  |some k,some (.dk kvs)=>(match bU kvs k with
   |some d=>Res.ok d O
   |none=>.no)
  | _,_=>.no)=_
 rw[hO,hk];dsimp only;rw[hv]
theorem Oa{my mo mz:L2.M D}{ρ:aA}{O:aq}{y z:D}{k:Key}{n:Nat}{kvs:List (Key×D)}(ho:mo ρ O=.ok (.ob n) O)(hy:my ρ O=.ok y O)(hz:mz ρ O=.ok z O)(hk:keyOf y=some k)(hO:O[n]?=some (.dk kvs)):nD mo my mz ρ O=.ok ((bU kvs k).getD z) O:=by
 unfold nD;rw[ho]
 show(match O[n]? with
  |some (.dk _)=>(my ρ O).bind λy O2=>(mz ρ O2).bind λz O3=>match keyOf y,O3[n]? with
   |some k,some (.dk kvs)=>Res.ok ((bU kvs k).getD z) O3
   | _,_=>.no
  | _=>.no)=_
 rw[hO];dsimp only;rw[hy,aQ,hz]
 show(match keyOf y,O[n]? with
   |some k,some (.dk kvs)=>Res.ok ((bU kvs k).getD z) O
   | _,_=>.no)=_
 rw[hO,hk]
theorem Oc{my mo mv:L2.M D}{ρ:aA}{O O1:aq}{y d:D}{k:Key}{n:Nat}{kvs:List (Key×D)}(hv:mv ρ O=.ok d O1)(ho:mo ρ O1=.ok (.ob n) O1)(hy:my ρ O1=.ok y O1)(hk:keyOf y=some k)(hO:O1[n]?=some (.dk kvs))(hl:kvs.length<1000000):j8 mo my mv ρ O=.nx ρ (O1.set n (.dk (jK kvs k d))):=by
 unfold j8;rw[hv];dsimp only;rw[ho];dsimp only;rw[hy];dsimp only;rw[hO,hk];dsimp only;rw[if_pos hl]
def n8:MS:=(bh (dC (aJ (pB false (ak gIx (aa 2) (aa 5)) (aa 3))) (aJ (ak gLe (aK lR (aj (aa 0) (aj (ak gIx (aa 2) (aa 5)) (aj (ak gIx (aa 2) (aa 4)) au)))) (aa 1)))) (j8 (aa 3) (ak gIx (aa 2) (aa 4)) (aV lE (aj (ak bc (f9 (aa 3) (ak gIx (aa 2) (aa 5))) (mC (.int 1))) (aj (nD (aa 3) (ak gIx (aa 2) (aa 4)) (mC (.int 1000))) au)))) bx)
def fE(l:List LT)(w:Int)(n:Nat)(o4 o5:Option D):aA:=[some (.lst (l.map dL)),some (.int w),some (.lst ((sp l).map iN)),some (.ob n),o4,o5]
theorem ixP{l:List LT}{i a:Nat}(e:(sp l)[i]?=some a):gIx (.lst ((sp l).map iN)) (.int (i:Int))=some (.int (a:Int)):=by
 rw[kj,km,zw,e];rfl
section
variable {l:List LT}{w:Int}
theorem Qum(hl:l.length<=200){kvs:List (Key×D)}{K j s a:Nat}(hs:(sp l)[K]?=some s)(hj:(sp l)[j]?=some a)(hjK:j<K)(h1:Snd l w kvs)(h2:Cpl l w kvs K)(h3:Cur l w kvs s j)(hn:kvs.length<1000000)(O:aq):∃kvs',n8 (fE l w O.length (some (.int (K:Int))) (some (.int (j:Int)))) (O++[.dk kvs])=.nx (fE l w O.length (some (.int (K:Int))) (some (.int (j:Int)))) (O++[.dk kvs'])/\Snd l w kvs'/\Cpl l w kvs' K/\Cur l w kvs' s (j+1)/\kvs'.length<=kvs.length+1:=by
 obtain⟨ρ,hρ⟩:∃ρ,ρ=fE l w O.length (some (.int (K:Int))) (some (.int (j:Int))):=⟨_,rfl⟩;rw[<-hρ]
 have v0:aa 0 ρ (O++[.dk kvs])=.ok (.lst (l.map dL)) (O++[.dk kvs]):=by rw[hρ];rfl
 have v1:aa 1 ρ (O++[.dk kvs])=.ok (.int w) (O++[.dk kvs]):=by rw[hρ];rfl
 have v2:aa 2 ρ (O++[.dk kvs])=.ok (.lst ((sp l).map iN)) (O++[.dk kvs]):=by rw[hρ];rfl
 have v3:aa 3 ρ (O++[.dk kvs])=.ok (.ob O.length) (O++[.dk kvs]):=by rw[hρ];rfl
 have v4:aa 4 ρ (O++[.dk kvs])=.ok (.int (K:Int)) (O++[.dk kvs]):=by rw[hρ];rfl
 have v5:aa 5 ρ (O++[.dk kvs])=.ok (.int (j:Int)) (O++[.dk kvs]):=by rw[hρ];rfl
 have xj:ak gIx (aa 2) (aa 5) ρ (O++[.dk kvs])=.ok (.int (a:Int)) (O++[.dk kvs]):=bJ v2 v5 (ixP hj);have xs:ak gIx (aa 2) (aa 4) ρ (O++[.dk kvs])=.ok (.int (s:Int)) (O++[.dk kvs]):=bJ v2 v4 (ixP hs);have has:=wH hj hs hjK;have hsl:=QyH hs;have t1:=Qxf xj v3 (lX (O:=O) (o:=.dk kvs));unfold n8
 cases hd:bU kvs (nK a) with
 |none =>
  rw[hd] at t1;refine⟨kvs,?_,h1,h2,λi b m hi hb ht hm=>?_,Nat.le_succ _⟩
  ·rw[if_no (and_f t1)];rfl
  ·by_cases hij:i<j
   ·exact h3 i b m hij hb ht hm
   ·have e:i=j:=by omega
    rw[e,hj] at hb;have e2:=zt hb;subst e2;obtain⟨n,q,_⟩:=h2 j a m hjK hj hm;rw[hd] at q;exact nomatch q
 |some d =>
  obtain⟨n,rfl,hb⟩:=h1 a d hd;rw[hd] at t1;have et:=Lg l a (s - a) (by omega) (by omega) (O++[.dk kvs]);rw[show a+(s - a)=s by omega] at et;have t2:aJ (ak gLe (aK lR (aj (aa 0) (aj (ak gIx (aa 2) (aa 5)) (aj (ak gIx (aa 2) (aa 4)) au)))) (aa 1)) ρ (O++[.dk kvs])=.ok (decide (tw l a (s - a)<=w)) (O++[.dk kvs]):=lU (bJ ((bV (maS v0 (maS xj (ma1 xs)))).trans et) v1 yF)
  by_cases hw:tw l a (s - a)<=w
  ·rw[zj hw] at t2
   obtain⟨o,ho,hob⟩:∃o:Nat,(bU kvs (nK s)).getD (.int 1000)=.int (o:Int)/\((bU kvs (nK s)=some (.int (o:Int))/\Bc l w s o)\/(bU kvs (nK s)=none/\o=1000)):=by
    cases hv:bU kvs (nK s) with
    |none=>exact⟨1000,rfl,.inr ⟨rfl,rfl⟩⟩
    |some d =>
     obtain⟨o,rfl,hq⟩:=h1 s d hv;exact⟨o,rfl,.inl ⟨rfl,hq⟩⟩
   have hba:=hb.le
   have bs:Bc l w s (n+1):=by
    cases K with
    |zero=>exact absurd hjK (Nat.not_lt_zero _)
    |succ K=>exact .s hb has hsl (N7 hs).2.2 hw
   obtain⟨r,hr,hr1,hr2,hr3⟩:∃r:Nat,(if(o:Int)<(n:Int)+1 then(o:Int) else(n:Int)+1)=(r:Int)/\Bc l w s r/\r<=n+1/\r<=o:=by
    by_cases hc:o<n+1
    ·refine⟨o,if_pos (by omega),?_,by omega,zc _⟩
     rcases hob with⟨_,q⟩ | ⟨_,q⟩
     ·exact q
     ·omega
    ·exact⟨n+1,(if_neg (by omega)).trans (by omega),bs,zc _,by omega⟩
   have g1:aV lE (aj (ak bc (f9 (aa 3) (ak gIx (aa 2) (aa 5))) (mC (.int 1))) (aj (nD (aa 3) (ak gIx (aa 2) (aa 4)) (mC (.int 1000))) au)) ρ (O++[.dk kvs])=.ok (.int (r:Int)) (O++[.dk kvs]):=by
    have k1:=N8 v3 xj rfl (lX (O:=O) (o:=.dk kvs)) hd;have k2:=Oa (mz:=mC (.int 1000)) (z:=.int 1000) v3 xs rfl rfl (lX (O:=O) (o:=.dk kvs));rw[show(Sum.inl (s:Int):Key)=nK s from rfl,ho] at k2;refine kY (maS (bJ (y:=.int 1) (z:=.int ((n:Int)+1)) k1 rfl rfl) (ma1 k2)) ?_;rw[<-hr];rfl
   have g2:=Oc (mo:=aa 3) (my:=ak gIx (aa 2) (aa 4)) g1 v3 xs rfl (lX (O:=O) (o:=.dk kvs)) hn;rw[Eh,show(Sum.inl (s:Int):Key)=nK s from rfl] at g2;refine⟨jK kvs (nK s) (.int (r:Int)),?_,λt d ht=>?_,λk t m hk ht hm=>?_,λi b m hi hb' ht hm=>?_,N5 _ _ _⟩
   ·rw[jt ((and_t t1).trans t2)];exact g2
   ·rw[wG] at ht
    by_cases hts:nK t=nK s
    ·rw[if_pos hts] at ht;rw[Ey hts];exact⟨r,(zt ht).symm,hr1⟩
    ·rw[if_neg hts] at ht;exact h1 t d ht
   ·rw[wG,if_neg (λz=>by have:=Ey z;have:=wH ht hs hk;omega)];exact h2 k t m hk ht hm
   ·refine⟨r,by rw[wG,if_pos rfl],?_⟩
    by_cases hij:i<j
    ·obtain⟨n2,q1,q2⟩:=h3 i b m hij hb' ht hm
     rcases hob with⟨q3,_⟩ | ⟨q3,_⟩
     ·rw[q1] at q3
      have:=D.int.inj (zt q3)
      omega
     ·rw[q1] at q3;exact nomatch q3
    ·have e:i=j:=by omega
     rw[e,hj] at hb';have e2:=zt hb';subst e2;obtain⟨n2,q1,q2⟩:=h2 j a m hjK hj hm;rw[hd] at q1
     have:=D.int.inj (zt q1)
     omega
  ·rw[zg hw] at t2;refine⟨kvs,?_,h1,h2,λi b m hi hb' ht hm=>?_,Nat.le_succ _⟩
   ·rw[if_no ((and_t t1).trans t2)];rfl
   ·by_cases hij:i<j
    ·exact h3 i b m hij hb' ht hm
    ·have e:i=j:=by omega
     rw[e,hj] at hb';have e2:=zt hb';subst e2;exact absurd ht hw
theorem Qwc(hl:l.length<=200){kvs:List (Key×D)}{K s:Nat}(hs:(sp l)[K]?=some s)(h0:0<K)(h1:Snd l w kvs)(h2:Cpl l w kvs K)(hn:kvs.length<=100000)(O:aq)(o5:Option D):∃kvs' o5',b8 (eQ (aj (aa 4) au)) (mgN 5) n8 (fE l w O.length (some (.int (K:Int))) o5) (O++[.dk kvs])=.nx (fE l w O.length (some (.int (K:Int))) o5') (O++[.dk kvs'])/\Snd l w kvs'/\Cpl l w kvs' (K+1)/\kvs'.length<=kvs.length+201:=by
 have hK:K<(sp l).length:=(zl.mp hs).1;have hsl:=N6 l;obtain⟨ρ',O',e,kvs',o5',rfl,rfl,q1,q2,q3,q4⟩:=kE (g:=mgN 5) (b:=n8)
  (λi ρ O'=>∃kvs' o5',ρ=fE l w O.length (some (.int (K:Int))) o5'/\O'=O++[.dk kvs']/\Snd l w kvs'/\Cpl l w kvs' K/\Cur l w kvs' s i/\kvs'.length<=kvs.length+i) (bI 0 K) 0 (fE l w O.length (some (.int (K:Int))) o5) (O++[.dk kvs]) ⟨kvs,o5,rfl,rfl,h1,h2,λj a m hj=>absurd hj (Nat.not_lt_zero _),zc _⟩ (by
   rintro i d ρ O' hi ⟨kvs',o5',rfl,rfl,r1,r2,r3,r4⟩;obtain⟨hi',rfl⟩:=Qzw hi;rw[zW] at r3 r4 ⊢;have hj:=zp (show i<(sp l).length by omega);obtain⟨kvs2,z1,z2,z3,z4,z5⟩:=Qum hl hs hj hi' r1 r2 r3 (by omega) O
   exact⟨_,rfl,_,_,.inl z1,kvs2,_,rfl,rfl,z2,z3,z4,by omega⟩)
 rw[jM,zW] at q3 q4;refine⟨kvs',o5',?_,q1,Qst q2 hs h0 q3,by omega⟩;rw[il,Qvl (j:=(K:Int)) (ma1 (x:=.int (K:Int)) rfl) (by omega),ir,Int.toNat_natCast,e]
theorem Qr9(hl:l.length<=200)(O:aq):∃(r:Nat) (O':aq),pZ [.lst (l.map dL),.int w] O=.ok (.int (r:Int)) O'/\Kp O O'/\(0<r->Bc l w l.length r/\∀m,Bc l w l.length m->r<=m):=by
 have hsl:=N6 l
 have s1:aH 2 (ak bc (bY (aj (mC (.int 0)) au)) (aK vG (aj (aa 0) au))) [some (.lst (l.map dL)),some (.int w),none,none,none,none] O=.nx [some (.lst (l.map dL)),some (.int w),some (.lst ((sp l).map iN)),none,none,none] O:=by
  refine cG (bJ (x:=.lst [.int 0]) (y:=.lst (brk l)) rfl ((bV (ma1 (x:=.lst (l.map dL)) rfl)).trans (Qnl l (by omega) O)) ?_);rw[eU,eU,<-Qzb]
  have:=QuA l
  rw[JF];exact if_pos (show 1+(brk l).length<=1000000 by omega)
 have s2:aH 3 (yp 0 0) [some (.lst (l.map dL)),some (.int w),some (.lst ((sp l).map iN)),none,none,none] O=.nx (fE l w O.length none none) (O++[.dk [(.inl 0,.int 0)]]):=vY rfl
 have hp:0<(sp l).length:=by unfold sp;rw[zv];omega
 obtain⟨ρ',O',e,kvs,o4,o5,rfl,rfl,q1,q2,q3⟩:=kE (g:=mgN 4) (b:=b8 (eQ (aj (aa 4) au)) (mgN 5) n8)
  (λi ρ O'=>∃kvs' o4' o5',ρ=fE l w O.length o4' o5'/\O'=O++[.dk kvs']/\Snd l w kvs'/\Cpl l w kvs' (i+1)/\kvs'.length<=1+i * 201) (bI 1 ((sp l).length - 1)) 0 (fE l w O.length none none) (O++[.dk [(.inl 0,.int 0)]]) ⟨_,none,none,rfl,rfl,λs d h=>by
    rw[n6] at h
    by_cases hz:(Sum.inl 0:Key)=nK s
    ·rw[if_pos hz] at h
     have:=Ey (a:=0) hz
     subst this;exact⟨0,(zt h).symm,.z⟩
    ·rw[if_neg hz] at h
     exact(nomatch h),λk s m hk hs hm=>by
    have e:k=0:=by omega
    subst e;have e2:0=s:=zt hs;subst e2
    exact⟨0,rfl,Nat.zero_le _⟩,zc _⟩ (by
   rintro i d ρ O' hi ⟨kvs',o4',o5',rfl,rfl,r1,r2,r3⟩;obtain⟨hi',rfl⟩:=vQ hi;rw[zW] at r2 r3 ⊢;have hs:=zp (show i+1<(sp l).length by omega);obtain⟨kvs2,o5'',z1,z2,z3,z4⟩:=Qwc hl hs (Nat.succ_pos _) r1 r2 (by omega) O o5';rw[show(((i+1:Nat):Int))=1+(i:Int) by omega] at z1
   exact⟨_,rfl,_,_,.inl z1,kvs2,_,_,rfl,rfl,z2,z3,by omega⟩)
 rw[jM,zW] at q2 q3
 have s3:b8 (j5 (aj (mC (.int 1)) (aj (aV bC (aj (aa 2) au)) au))) (mgN 4) (b8 (eQ (aj (aa 4) au)) (mgN 5) n8) (fE l w O.length none none) (O++[.dk [(.inl 0,.int 0)]])=.nx (fE l w O.length o4 o5) (O++[.dk kvs]):=by
  have ln:=gk (m:=aa 2) (ρ:=fE l w O.length none none) (O:=O++[.dk [(.inl 0,.int 0)]]) (l:=(sp l).map iN) rfl;rw[zf] at ln;rw[il,DY (maS (a:=mC (.int 1)) (x:=.int 1) rfl (ma1 ln)) (by omega),ir,show((((sp l).length:Nat):Int) - 1).toNat=(sp l).length - 1 by omega,e]
 have ln:=gk (m:=aa 0) (ρ:=fE l w O.length o4 o5) (O:=O++[.dk kvs]) (l:=l.map dL) rfl;rw[zf] at ln;have s4:=Oa (mo:=aa 3) (n:=O.length) (mz:=mC (.int 0)) (z:=.int 0) rfl ln rfl rfl (lX (O:=O) (o:=.dk kvs));rw[show(Sum.inl (l.length:Int):Key)=nK l.length from rfl] at s4
 obtain⟨r,hr,hr2⟩:∃r:Nat,(bU kvs (nK l.length)).getD (.int 0)=.int (r:Int)/\(0<r->bU kvs (nK l.length)=some (.int (r:Int))/\Bc l w l.length r):=by
  cases hv:bU kvs (nK l.length) with
  |none=>exact⟨0,rfl,λz=>absurd z (zR _)⟩
  |some d =>
   obtain⟨r,rfl,hq⟩:=q1 _ _ hv;exact⟨r,rfl,λ_=>⟨rfl,hq⟩⟩
 refine⟨r,O++[.dk kvs],?_,λj x h=>?_,λh0=>⟨(hr2 h0).2,λm hm=>?_⟩⟩
 ·have c0:pZ [.lst (l.map dL),.int w] O=bA (vK [some (.lst (l.map dL)),some (.int w),none,none,none,none] O):=by
   unfold pZ;rw[rM];rfl
  rw[c0];unfold n8 at s3;unfold vK;rw[sq s1,sq s2,sq s3,fG,s4,hr];rfl
 ·rw[zD (zl.mp h).1];exact h
 ·obtain⟨j,hj⟩:=hm.plc;have hjl:=(zl.mp hj).1;obtain⟨n,z1,z2⟩:=q2 j _ m (by omega) hj hm;rw[(hr2 h0).1] at z1
  have:=D.int.inj (zt z1)
  omega
end
structure Gd(l:List LT)(w:Int)(y:List Nat)(st:List (Nat×Nat)):Prop where
 ans:Ans l w y st
 hd:∀O,nW [.lst (st.map dS),.lst (l.map dL),.int w,.str y] O=.ok (.bl true) O
 wo:y=dH->∀m,Bc l w l.length m->(l≠[]->st.length<=m/\Bc l w l.length st.length)
 ev:y=dI->∀m,Bc l w l.length m->(l≠[]->Bc l w l.length st.length)
theorem QvB(w:Int)(hw:2<=w/\w<=40){y:List Nat}(hy:Wy4 y):Gd [] w y [(0,0)] where
 ans:=QtW w hw hy
 hd:=λO=>wD [] (by decide) w hy (st:=[(0,0)]) (e:=0) (λh=>nomatch h) ⟨rfl,zc _,zc _,λ_=>rfl,show(0:Int)<=w by omega,rfl⟩ (λ_=>rfl) (λ_=>rfl) O
 wo:=λ_ _ _ h=>absurd rfl h
 ev:=λ_ _ _ h=>absurd rfl h
theorem Od{es:List Nat}{lo:Nat}(h:es≠[]):pr lo es≠[]:=λz=>h (List.eq_nil_of_length_eq_zero (by rw[<-wB es lo,z];rfl))
theorem Gd.ex(l:List LT)(hl:l.length<=200)(w:Int)(hw:2<=w/\w<=40){y:List Nat}(hy:Wy4 y):∃st,Gd l w y st:=by
 by_cases h0:l=[]
 ·subst h0;exact⟨_,QvB w hw hy⟩
 have hp:0<l.length:=List.length_pos_iff.mpr h0
 have ete:∀wd:Bool,y=ky wd->y≠dR->(wd=true\/y≠dH)->y≠dI->∃st,Gd l w y st:=λwd e n1 n2 n3=>by
  subst e;obtain⟨es,hn,ha⟩:=Qud wd l h0 hl w hw
  have he:es≠[]:=λz=>by
   rw[z] at hn
   have:0=l.length:=hn
   omega
  refine⟨pr 0 es,ha,λO=>wD l (by omega) w hy (Od he) (Nr hw.1 es 0 hn) (λz=>absurd z n1) (λ_=>rfl) O,λhy' m hm _=>?_,λz=>absurd z n3⟩
  rcases n2 with rfl | n2
  ·rw[wB];refine⟨QvF hn hm,?_⟩
   have:=Eu hm.next es 0 0 (NP es 0 hn) .z
   rwa [zW] at this
  ·exact absurd hy' n2
 cases hy with
 |cut =>
  obtain⟨a,b,c⟩:=wz false (l:=l) (lo:=0) (w:=w) hp hw.1;have e:nxt false l 0 w=rch l 0 w:=rfl;rw[e] at a b c;exact⟨_,Qvi l h0 hl w hw,λO=>wD l (by omega) w .cut (st:=[(0,rch l 0 w)]) (e:=rch l 0 w) (λh=>nomatch h) ⟨rfl,Nat.zero_le _,b,λz=>absurd (show rch l 0 w=0 from z) (by omega),c,rfl⟩ (λ_=>rfl) (λz=>absurd rfl z) O,λz=>absurd z (by decide),λz=>absurd z (by decide)⟩
 |cells=>exact ete false rfl (by decide) (.inr (by decide)) (by decide)
 |words=>exact ete true rfl (by decide) (.inl rfl) (by decide)
 |even =>
  obtain⟨ps,qs,hk,hu⟩:=Qt7 l w hl hw.1 hw.2
  have he:qs.map (·.1)≠[]:=λz=>by
   rw[List.map_eq_nil_iff.mp z] at hk
   have:0=l.length:=hk
   omega
  have es:stE (qs.map (·.1))=pr 0 (qs.map (·.1)):=if_neg he;rw[es] at hu;refine⟨pr 0 (qs.map (·.1)),Qsq l h0 w hw hu,λO=>wD l (by omega) w .even (Od he) (Nt hw.1 qs 0 hk) (λz=>absurd z (by decide)) (λ_=>rfl) O,λz=>absurd z (by decide),λ_ m hm _=>?_⟩;rw[wB]
  have:=Eu hm.next _ 0 0 (NQ qs 0 hk) .z
  rwa [zW] at this
def Oe(p:Int):Nat:=iB iC p
def oth(s:Nat)(x:LT):LT:=(x.1,match x.2 with
 | [_,_,.int p]=>[.str [Oe p],.str [46],.int (7+2 * p)].take s
 | _=>[])
theorem QvI(s:Nat)(l:List LT):sg (l.map (oth s))=sg l:=by
 unfold sg;rw[zP];rfl
theorem QrL:Sgn iC:=⟨by decide,by decide,by decide⟩
def wI:L2.M D:=(mSl (dh (aj (ak gIx (aa 0) (mC (.int 0))) (aj (ak gIx (mC (.str [97,98,99,100,101,102,103,104,46])) (ak bD (ak gIx (aa 0) (mC (.int 3))) (mC (.int 9)))) (aj (mC (.str [46])) (aj (ak bc (mC (.int 7)) (ak cz (mC (.int 2)) (ak gIx (aa 0) (mC (.int 3))))) au))))) moN (moS (aa 1)))
theorem QxE{s:Nat}(hs:s=0\/s=2\/s=3){x:LT}(hx:OkL x)(O:aq):wI [some (dL x),some (.int ((s:Int)+1))] O=.ok (dL (oth s x)) O:=by
 obtain⟨c,t⟩:=x;obtain⟨a,b,p,e⟩:=hx;dsimp only at e;subst e;have x0:ak gIx (aa 0) (mC (.int 0)) [some (dL (c,[.str [a],.str [b],.int p])),some (.int ((s:Int)+1))] O=.ok (.str [c]) O:=bJ (x:=dL (c,[.str [a],.str [b],.int p])) (y:=.int 0) rfl rfl rfl;have x3:ak gIx (aa 0) (mC (.int 3)) [some (dL (c,[.str [a],.str [b],.int p])),some (.int ((s:Int)+1))] O=.ok (.int p) O:=bJ (x:=dL (c,[.str [a],.str [b],.int p])) (y:=.int 3) rfl rfl rfl;have m9:ak bD (ak gIx (aa 0) (mC (.int 3))) (mC (.int 9)) [some (dL (c,[.str [a],.str [b],.int p])),some (.int ((s:Int)+1))] O=.ok (.int (p % 9)) O:=bJ x3 (y:=.int 9) rfl (by rw[cT,cT,pH,if_pos (by decide)])
 have ik:ak gIx (mC (.str [97,98,99,100,101,102,103,104,46])) (ak bD (ak gIx (aa 0) (mC (.int 3))) (mC (.int 9))) [some (dL (c,[.str [a],.str [b],.int p])),some (.int ((s:Int)+1))] O=.ok (.str [Oe p]) O:=bJ (x:=.str iC) rfl m9 (DN QrL p).2;have m2:ak cz (mC (.int 2)) (ak gIx (aa 0) (mC (.int 3))) [some (dL (c,[.str [a],.str [b],.int p])),some (.int ((s:Int)+1))] O=.ok (.int (2 * p)) O:=bJ (x:=.int 2) rfl x3 (lK (.inl ⟨by decide,by decide⟩));have a7:ak bc (mC (.int 7)) (ak cz (mC (.int 2)) (ak gIx (aa 0) (mC (.int 3)))) [some (dL (c,[.str [a],.str [b],.int p])),some (.int ((s:Int)+1))] O=.ok (.int (7+2 * p)) O:=bJ (x:=.int 7) rfl m2 iY
 have tu:=p6 (maS x0 (maS ik (maS (a:=mC (.str [46])) (x:=.str [46]) rfl (ma1 a7)))) (show 4<=1000000 by decide);unfold wI;rw[rJ,tu,aQ]
 rcases hs with rfl | rfl | rfl<;>rfl
theorem Qzj{a b:List Nat}(h:(Sum.inr (S a):Key)=.inr (S b)):a=b:=by
 rw[<-jV a,<-jV b,Sum.inr.inj h]
def Tl(St:List Nat->List (Nat×Nat))(ys:List (List Nat))(O:aq):Prop:=∃kvs,O[0]?=some (.dk kvs)/\kvs.length<=ys.length/\∀y∈ys,bU kvs (.inr (S y))=some (.lst ((St y).map dS))
theorem Tl.kp{St:List Nat->List (Nat×Nat)}{ys:List (List Nat)}{O O':aq}(h:Tl St ys O)(k:Kp O O'):Tl St ys O':=let ⟨kvs,h1,h2,h3⟩:=h;⟨kvs,k 0 _ h1,h2,h3⟩
theorem Tl.put{St:List Nat->List (Nat×Nat)}{ys:List (List Nat)}{O O1:aq}{y:List Nat}{mo my mv:L2.M D}{ρ:aA}(h:Tl St ys O1)(hl:ys.length<1000)(hv:mv ρ O=.ok (.lst ((St y).map dS)) O1)(ho:mo ρ O1=.ok (.ob 0) O1)(hy:my ρ O1=.ok (.str y) O1):∃O',j8 mo my mv ρ O=.nx ρ O'/\Tl St (ys++[y]) O':=by
 obtain⟨kvs,h1,h2,h3⟩:=h;refine⟨_,Oc hv ho hy rfl h1 (by omega),jK kvs (.inr (S y)) (.lst ((St y).map dS)),zS (zl.mp h1).1,?_,λz hz=>?_⟩
 ·have:=N5 kvs (.inr (S y)) (.lst ((St y).map dS))
  rw[zz];show _<=ys.length+1;omega
 ·rw[wG]
  by_cases e:(Sum.inr (S z):Key)=.inr (S y)
  ·rw[if_pos e,Qzj e]
  ·rw[if_neg e]
   rcases zE.mp hz with hz | hz
   ·exact h3 z hz
   ·rw[zn.mp hz] at e;exact absurd rfl e
theorem Tl.get{St:List Nat->List (Nat×Nat)}{ys:List (List Nat)}{O:aq}{y:List Nat}{mo my:L2.M D}{ρ:aA}(h:Tl St ys O)(hm:y∈ys)(ho:mo ρ O=.ok (.ob 0) O)(hy:my ρ O=.ok (.str y) O):f9 mo my ρ O=.ok (.lst ((St y).map dS)) O:=by
 obtain⟨kvs,h1,h2,h3⟩:=h;exact N8 ho hy rfl h1 (h3 y hm)
theorem Og(st:List (Nat×Nat)):okE (.lst (st.map dS))=true:=Yo (n:=5) (by decide) λd hd=>by
 obtain⟨x,_,rfl⟩:=zH.mp hd;exact⟨rfl,rfl,by simp[toP,jZ,PyData.depth,PyData.depthAll,dS]⟩
theorem ne_st(st:List (Nat×Nat)):gNe (.lst (st.map dS)) (.lst (st.map dS))=some (.bl false):=by
 rw[Yc,Og,Bool.and_self,if_pos rfl,Yp (Og st)];rfl
theorem Ez{g:D->D->Option D}{a b:L2.M D}{ρ:aA}{O O1 O2:aq}{x y z:D}(ha:a ρ O=.ok x O1)(hb:b ρ O1=.ok y O2)(h:g (bB O2 x) (bB O2 y)=some z):ak g a b ρ O=.ok z O2:=by
 rw[dO,ha,aQ,hb,aQ,h];rfl
theorem EY{m:L2.M D}{ρ:aA}{O O1:aq}{b:Bool}(h:m ρ O=.ok (.bl b) O1):aJ m ρ O=.ok b O1:=by
 rw[gf,h];rfl
def C1:MS:=aH 1 (aK sU (aj (aa 0) (aj (mC (.int 2)) (aj (mC (.int 44)) au))))
def C2:MS:=aH 2 (aK vC (aj (aa 0) au))
def C3:MS:=aH 3 (ak gIx (bY (aj (mC (.int 4)) (aj (mC (.int 3)) (aj (mC (.int 1)) au)))) (ak bD (aK gh (aj (aK eX (aj (aa 0) (aj (mC (.int 1)) au))) (aj (mC (.int 11)) au))) (mC (.int 3))))
def C4:MS:=aH 4 (dD (cQ (aa 1)) 1 [3] (mgN 0) dN wI)
def C5:MS:=aH 5 (bY (aj (mC (.str [99,117,116])) (aj (mC (.str [99,101,108,108,115])) (aj (mC (.str [119,111,114,100,115])) (aj (mC (.str [101,118,101,110])) au)))))
def C6:MS:=aH 6 (ak bD (aK gh (aj (aK eX (aj (aa 0) (aj (mC (.int 1)) au))) (aj (mC (.int 10)) au))) (mC (.int 4)))
def C7:MS:=aH 5 (ak bc (mSl (aa 5) (moS (aa 6)) moN) (mSl (aa 5) moN (moS (aa 6))))
def C8:MS:=aH 7 yo
def B9:MS:=(aB (aH 9 (aK dZ (aj (aV gY (aj (aa 1) au)) (aj (aa 2) (aj (aa 8) au)))))
  (aB (bh (cX (du (cj (aK nW (aj (aa 9) (aj (aa 1) (aj (aa 2) (aj (aa 8) au))))))) (aJ (ak gNe (aK dZ (aj (aa 4) (aj (aa 2) (aj (aa 8) au)))) (aa 9)))) (aU (mC (.bl false))) bx)
  (j8 (aa 7) (aa 8) (aa 9))))
def C9:MS:=b8 (cQ (aa 5)) (mgN 8) B9
def C10:MS:=aH 10 (aK pZ (aj (aa 1) (aj (aa 2) au)))
def C11:MS:=bh (dC (aJ (ak gGt (aa 10) (mC (.int 0)))) (cX (aJ (ak gNe (aV bC (aj (f9 (aa 7) (mC (.str [119,111,114,100,115]))) au)) (aa 10))) (aJ (ak gLt (aV bC (aj (f9 (aa 7) (mC (.str [101,118,101,110]))) au)) (aa 10))))) (aU (mC (.bl false))) bx
def B12:MS:=(aB (aH 11 (aV gY (aj (aa 1) au)))
  (aB (bh (aJ (ak gNe (aK dZ (aj (aa 11) (aj (aa 2) (aj (aa 8) au)))) (f9 (aa 7) (aa 8)))) (aU (mC (.bl false))) bx)
  (aB (rF 11)
  (bh (aJ (ak gNe (aK dZ (aj (aa 11) (aj (aa 2) (aj (aa 8) au)))) (aK dZ (aj (rG (aa 1) (mUn jF (mC (.int 1)))) (aj (aa 2) (aj (aa 8) au)))))) (aU (mC (.bl false))) bx))))
def C12:MS:=b8 (cQ (bY (aj (mC (.str [101,118,101,110])) (aj (mC (.str [99,117,116])) (aj (mC (.str [119,111,114,100,115])) (aj (mC (.str [99,101,108,108,115])) au)))))) (mgN 8) B12
theorem QuB:vL=aB C1 (aB C2 (aB C3 (aB C4 (aB C5 (aB C6 (aB C7 (aB C8 (aB C9 (aB C10 (aB C11 (aB C12 (aU (mC (.bl true)))))))))))))):=rfl
def dU(t:Nat):List (List Nat):=[dR,eY,dH,dI].drop t++[dR,eY,dH,dI].take t
theorem Qrz(t:Nat):∀y∈dU t,Wy4 y:=λy hy=>by
 have:y∈[dR,eY,dH,dI]:=by
  rcases zE.mp hy with h | h
  ·exact List.mem_of_mem_drop h
  ·exact List.mem_of_mem_take h
 rcases zk.mp this with rfl | h
 ·exact .cut
 rcases zk.mp h with rfl | h
 ·exact .cells
 rcases zk.mp h with rfl | h
 ·exact .words
 rcases zk.mp h with rfl | h
 ·exact .even
 ·exact nomatch h
theorem Fb(t:Nat){y:List Nat}(h:Wy4 y):y∈dU t:=by
 have:y∈[dR,eY,dH,dI]:=by
  cases h<;>decide
 rw[<-List.take_append_drop t [dR,eY,dH,dI]] at this;exact zE.mpr (zE.mp this).symm
theorem Qri(t:Nat):(dU t).length<=8:=by
 unfold dU;rw[zz,List.length_drop,List.length_take];show 4 - t+min t 4<=8;omega
def gE(X:D)(l:List LT)(w:Int)(o3:Option D)(s:Nat)(o5 o6:Option D)(o8 o9 o10 o11:Option D):aA:=[some X,some (.lst (l.map dL)),some (.int w),o3,some (.lst ((l.map (oth s)).map dL)),o5,o6,some (.ob 0),o8,o9,o10,o11]
section
variable {l:List LT}{w:Int}{St:List Nat->List (Nat×Nat)}(X:D)(o3 o5 o6 o10 o11:Option D)(s:Nat)
theorem Qu5{y:List Nat}{ys:List (List Nat)}(hg:Gd l w y (St y))(hn:ys.length<1000){O:aq}(hT:Tl St ys O)(o9:Option D):∃o9' O',B9 (gE X l w o3 s o5 o6 (some (.str y)) o9 o10 o11) O=.nx (gE X l w o3 s o5 o6 (some (.str y)) o9' o10 o11) O'/\Tl St (ys++[y]) O':=by
 obtain⟨O1,e1,k1⟩:=hg.ans l rfl O;obtain⟨O2,e2,k2⟩:=hg.ans (l.map (oth s)) (QvI s l) O1;have s1:aH 9 (aK dZ (aj (aV gY (aj (aa 1) au)) (aj (aa 2) (aj (aa 8) au)))) (gE X l w o3 s o5 o6 (some (.str y)) o9 o10 o11) O=.nx (gE X l w o3 s o5 o6 (some (.str y)) (some (.lst ((St y).map dS))) o10 o11) O1 :=
  vY ((bV (maS (Ei (m:=aa 1) (d:=.lst (l.map dL)) rfl rfl) (maS (x:=.int w) rfl (ma1 (x:=.str y) rfl)))).trans e1)
 obtain⟨ρ,hρ⟩:∃ρ,ρ=gE X l w o3 s o5 o6 (some (.str y)) (some (.lst ((St y).map dS))) o10 o11:=⟨_,rfl⟩;rw[<-hρ] at s1
 have v1:∀O,aa 1 ρ O=.ok (.lst (l.map dL)) O:=λO=>by rw[hρ];rfl
 have v2:∀O,aa 2 ρ O=.ok (.int w) O:=λO=>by rw[hρ];rfl
 have v4:∀O,aa 4 ρ O=.ok (.lst ((l.map (oth s)).map dL)) O:=λO=>by rw[hρ];rfl
 have v7:∀O,aa 7 ρ O=.ok (.ob 0) O:=λO=>by rw[hρ];rfl
 have v8:∀O,aa 8 ρ O=.ok (.str y) O:=λO=>by rw[hρ];rfl
 have v9:∀O,aa 9 ρ O=.ok (.lst ((St y).map dS)) O:=λO=>by rw[hρ];rfl
 have t1:du (cj (aK nW (aj (aa 9) (aj (aa 1) (aj (aa 2) (aj (aa 8) au)))))) ρ O1=.ok false O1:=Ej ((bV (maS (v9 O1) (maS (v1 O1) (maS (v2 O1) (ma1 (v8 O1)))))).trans (hg.hd O1));have t2:aJ (ak gNe (aK dZ (aj (aa 4) (aj (aa 2) (aj (aa 8) au)))) (aa 9)) ρ O1=.ok false O2:=EY (Ez ((bV (maS (v4 O1) (maS (v2 O1) (ma1 (v8 O1))))).trans e2) (v9 O2) (ne_st _))
 have t3:cX (du (cj (aK nW (aj (aa 9) (aj (aa 1) (aj (aa 2) (aj (aa 8) au))))))) (aJ (ak gNe (aK dZ (aj (aa 4) (aj (aa 2) (aj (aa 8) au)))) (aa 9))) ρ O1=.ok false O2:=by
  rw[uD,t1,aQ,if_neg zh,t2]
 obtain⟨O3,e3,q3⟩:=Tl.put (y:=y) (mo:=aa 7) (my:=aa 8) (ρ:=ρ) ((hT.kp k1).kp k2) hn (v9 O2) (v7 O2) (v8 O2);refine⟨some (.lst ((St y).map dS)),O3,?_,q3⟩;rw[<-hρ];unfold B9;rw[sq s1,bz,Er t3,dY,bF,e3]
theorem Oh:∀(ys zs:List (List Nat)) (o8 o9:Option D) (O:aq),(∀y∈ys,Gd l w y (St y))->zs.length+ys.length<1000->Tl St zs O->∃o8' o9' O',cD (mgN 8) B9 (ys.map D.str) (gE X l w o3 s o5 o6 o8 o9 o10 o11) O=.nx (gE X l w o3 s o5 o6 o8' o9' o10 o11) O'/\Tl St (zs++ys) O'
 | [],zs,o8,o9,O,_,_,hT=>⟨o8,o9,O,rfl,by rw[zZ];exact hT⟩
 |y::ys,zs,o8,o9,O,hg,hn,hT=>by
  rw[zv] at hn;obtain⟨o9',O',e,q⟩:=Qu5 X o3 o5 o6 o10 o11 s (hg y zx) (by omega) hT o9;obtain⟨o8b,o9b,O2,e2,q2⟩:=Oh ys (zs++[y]) (some (.str y)) o9' O' (λz hz=>hg z (zB _ hz)) (by rw[zz];show zs.length+1+_<_;omega) q;refine⟨o8b,o9b,O2,?_,by rwa [jc] at q2⟩;rw[zd];unfold cD;rw[show mgN 8 (.str y) (gE X l w o3 s o5 o6 o8 o9 o10 o11)=some (gE X l w o3 s o5 o6 (some (.str y)) o9 o10 o11) from rfl];dsimp only;rw[e];exact e2
end
section
variable {l:List LT}{w:Int}{St:List Nat->List (Nat×Nat)}(X:D)(o3 o5 o6 o9 o10:Option D)(s:Nat)
theorem Qub{y:List Nat}{ys:List (List Nat)}(hm:y∈ys)(ha:Ans l w y (St y)){st:List (Nat×Nat)}(hr:Ans l.reverse w y st){O:aq}(hT:Tl St ys O)(o11:Option D):∃o11' O',B12 (gE X l w o3 s o5 o6 (some (.str y)) o9 o10 o11) O=.nx (gE X l w o3 s o5 o6 (some (.str y)) o9 o10 o11') O'/\Tl St ys O':=by
 obtain⟨O1,e1,k1⟩:=ha l rfl O;obtain⟨O2,e2,k2⟩:=hr l.reverse rfl O1;obtain⟨O3,e3,k3⟩:=hr l.reverse rfl O2;have s1:aH 11 (aV gY (aj (aa 1) au)) (gE X l w o3 s o5 o6 (some (.str y)) o9 o10 o11) O=.nx (gE X l w o3 s o5 o6 (some (.str y)) o9 o10 (some (.lst (l.map dL)))) O:=cG (Ei (m:=aa 1) (d:=.lst (l.map dL)) rfl rfl);have t1:aJ (ak gNe (aK dZ (aj (aa 11) (aj (aa 2) (aj (aa 8) au)))) (f9 (aa 7) (aa 8))) (gE X l w o3 s o5 o6 (some (.str y)) o9 o10 (some (.lst (l.map dL)))) O=.ok false O1 :=
  EY (Ez ((bV (maS (x:=.lst (l.map dL)) rfl (maS (x:=.int w) rfl (ma1 (x:=.str y) rfl)))).trans e1) ((hT.kp k1).get hm (mo:=aa 7) (my:=aa 8) rfl rfl) (ne_st _))
 have s2:rF 11 (gE X l w o3 s o5 o6 (some (.str y)) o9 o10 (some (.lst (l.map dL)))) O1=.nx (gE X l w o3 s o5 o6 (some (.str y)) o9 o10 (some (.lst (l.reverse.map dL)))) O1:=by
  rw[List.map_reverse];rfl
 have rv:rG (aa 1) (mUn jF (mC (.int 1))) (gE X l w o3 s o5 o6 (some (.str y)) o9 o10 (some (.lst (l.reverse.map dL)))) O2=.ok (.lst (l.reverse.map dL)) O2:=by
  rw[List.map_reverse];rfl
 have t2:aJ (ak gNe (aK dZ (aj (aa 11) (aj (aa 2) (aj (aa 8) au)))) (aK dZ (aj (rG (aa 1) (mUn jF (mC (.int 1)))) (aj (aa 2) (aj (aa 8) au))))) (gE X l w o3 s o5 o6 (some (.str y)) o9 o10 (some (.lst (l.reverse.map dL)))) O1=.ok false O3 :=
  EY (Ez ((bV (maS (x:=.lst (l.reverse.map dL)) rfl (maS (x:=.int w) rfl (ma1 (x:=.str y) rfl)))).trans e2) ((bV (maS rv (maS (x:=.int w) rfl (ma1 (x:=.str y) rfl)))).trans e3) (ne_st _))
 refine⟨some (.lst (l.reverse.map dL)),O3,?_,((hT.kp k1).kp k2).kp k3⟩;unfold B12;rw[sq s1,bz,Er t1,dY,bF,sq s2,Er t2,dY]
theorem Oi{ws:List (List Nat)}:∀(ys:List (List Nat)) (o8 o11:Option D) (O:aq),(∀y∈ys,y∈ws/\Ans l w y (St y)/\∃st,Ans l.reverse w y st)->Tl St ws O->∃o8' o11' O',cD (mgN 8) B12 (ys.map D.str) (gE X l w o3 s o5 o6 o8 o9 o10 o11) O=.nx (gE X l w o3 s o5 o6 o8' o9 o10 o11') O'
 | [],o8,o11,O,_,_=>⟨o8,o11,O,rfl⟩
 |y::ys,o8,o11,O,hg,hT=>by
  obtain⟨h1,h2,st,h3⟩:=hg y zx;obtain⟨o11',O',e,q⟩:=Qub X o3 o5 o6 o9 o10 s h1 h2 h3 hT o11;obtain⟨o8b,o11b,O2,e2⟩:=Oi ys (some (.str y)) o11' O' (λz hz=>hg z (zB _ hz)) q;refine⟨o8b,o11b,O2,?_⟩;rw[zd];unfold cD;rw[show mgN 8 (.str y) (gE X l w o3 s o5 o6 o8 o9 o10 o11)=some (gE X l w o3 s o5 o6 (some (.str y)) o9 o10 o11) from rfl];dsimp only;rw[e];exact e2
end
theorem Qsa(xs:List Int)(hx:xs.length<=63):∃O',vM [.lst (xs.map D.int)] []=.ok (.bl true) O':=by
 obtain⟨l,hl,hok,eL⟩:=Z8 xs 2 44 (by decide) (by decide) hx [];obtain⟨w,hw,eW⟩:=Qxm xs [];obtain⟨v,ev⟩:=sX xs 1 (by decide) (by decide) [];obtain⟨X,hX⟩:∃X,X=D.lst (xs.map D.int):=⟨_,rfl⟩;rw[<-hX] at eL eW ev ⊢
 have ce:∀(ρ:aA) (k n:Int),0<=k->k<=1000000->0<n->ρ[0]?=some (some X)->ak bD (aK gh (aj (aK eX (aj (aa 0) (aj (mC (.int 1)) au))) (aj (mC (.int k)) au))) (mC (.int n)) ρ []=.ok (.int (mix v k % n)) []:=λρ k n h0 h1 h2 h3 =>
  bJ ((bV (maS ((bV (maS (x:=X) (by rw[c7,h3]) (ma1 (x:=.int 1) rfl))).trans ev) (ma1 (x:=.int k) rfl))).trans (sW v k h0 h1 [])) (y:=.int n) rfl (by rw[cT,cT,pH,if_pos h2])
 have s1:C1 [some X,none,none,none,none,none,none,none,none,none,none,none] []=.nx [some X,some (.lst (l.map dL)),none,none,none,none,none,none,none,none,none,none] []:=cG ((bV (maS (x:=X) rfl (maS (x:=.int 2) rfl (ma1 (x:=.int 44) rfl)))).trans eL);have s2:C2 [some X,some (.lst (l.map dL)),none,none,none,none,none,none,none,none,none,none] []=.nx [some X,some (.lst (l.map dL)),some (.int w),none,none,none,none,none,none,none,none,none] []:=cG ((bV (ma1 (x:=X) rfl)).trans eW)
 obtain⟨s,hs,es⟩:∃s:Nat,(s=0\/s=2\/s=3)/\gIx (.lst [.int 4,.int 3,.int 1]) (.int (mix v 11 % 3))=some (.int ((s:Int)+1)):=by
  obtain⟨c,hc,e⟩:=ixL (l:=[.int 4,.int 3,.int 1]) (v:=mix v 11) (n:=3) rfl (by decide)
  rcases zk.mp hc with rfl | hc
  ·exact⟨3,.inr (.inr rfl),e⟩
  rcases zk.mp hc with rfl | hc
  ·exact⟨2,.inr (.inl rfl),e⟩
  rcases zk.mp hc with rfl | hc
  ·exact⟨0,.inl rfl,e⟩
  ·exact nomatch hc
 have s3:C3 [some X,some (.lst (l.map dL)),some (.int w),none,none,none,none,none,none,none,none,none] []=.nx [some X,some (.lst (l.map dL)),some (.int w),some (.int ((s:Int)+1)),none,none,none,none,none,none,none,none] []:=
  cG (bJ (x:=.lst [.int 4,.int 3,.int 1]) rfl (ce _ 11 3 (by decide) (by decide) (by decide) rfl) es)
 have s4:C4 [some X,some (.lst (l.map dL)),some (.int w),some (.int ((s:Int)+1)),none,none,none,none,none,none,none,none] []=.nx [some X,some (.lst (l.map dL)),some (.int w),some (.int ((s:Int)+1)),some (.lst ((l.map (oth s)).map dL)),none,none,none,none,none,none,none] []:=by
  have ec:=lL (g:=mgN 0) (t:=dN) (m:=wI) (λρ=>∃a,ρ=[a,some (.int ((s:Int)+1))]) dL (λx=>dL (oth s x)) l [none,some (.int ((s:Int)+1))] [] [] ⟨_,rfl⟩ (by
   rintro x hx ρ ⟨a,rfl⟩
   exact⟨[some (dL x),some (.int ((s:Int)+1))],rfl,⟨_,rfl⟩,rfl,QxE hs (hok x hx) []⟩)
  rw[zK] at ec;rw[zP];exact cG (qe (own:=1) (cap:=[3]) (lg (m:=aa 1) (l:=l.map dL) rfl) (by rw[zf];omega) (ρ0:=[none,some (.int ((s:Int)+1))]) rfl ec)
 have s5:C5 [some X,some (.lst (l.map dL)),some (.int w),some (.int ((s:Int)+1)),some (.lst ((l.map (oth s)).map dL)),none,none,none,none,none,none,none] []=.nx [some X,some (.lst (l.map dL)),some (.int w),some (.int ((s:Int)+1)),some (.lst ((l.map (oth s)).map dL)),some (.lst ([dR,eY,dH,dI].map D.str)),none,none,none,none,none,none] []:=cG rfl;obtain⟨t,ht4,ht⟩:∃t:Nat,t<4/\mix v 10 % 4=(t:Int):=⟨(mix v 10 % 4).toNat,by omega,by omega⟩
 have s6:C6 [some X,some (.lst (l.map dL)),some (.int w),some (.int ((s:Int)+1)),some (.lst ((l.map (oth s)).map dL)),some (.lst ([dR,eY,dH,dI].map D.str)),none,none,none,none,none,none] []=.nx [some X,some (.lst (l.map dL)),some (.int w),some (.int ((s:Int)+1)),some (.lst ((l.map (oth s)).map dL)),some (.lst ([dR,eY,dH,dI].map D.str)),some (.int (t:Int)),none,none,none,none,none] []:=by
  have:=cG (i:=6) (ce [some X,some (.lst (l.map dL)),some (.int w),some (.int ((s:Int)+1)),some (.lst ((l.map (oth s)).map dL)),some (.lst ([dR,eY,dH,dI].map D.str)),none,none,none,none,none,none] 10 4 (by decide) (by decide) (by decide) rfl)
  rw[ht] at this;exact this
 have s7:C7 [some X,some (.lst (l.map dL)),some (.int w),some (.int ((s:Int)+1)),some (.lst ((l.map (oth s)).map dL)),some (.lst ([dR,eY,dH,dI].map D.str)),some (.int (t:Int)),none,none,none,none,none] []=.nx [some X,some (.lst (l.map dL)),some (.int w),some (.int ((s:Int)+1)),some (.lst ((l.map (oth s)).map dL)),some (.lst ((dU t).map D.str)),some (.int (t:Int)),none,none,none,none,none] []:=by
  refine cG (bJ (x:=.lst (([dR,eY,dH,dI].drop t).map D.str)) (y:=.lst (([dR,eY,dH,dI].take t).map D.str)) ?_ ?_ ?_)
  ·rw[rJ]
   match t,ht4 with
   | 0,_=>rfl
   | 1,_=>rfl
   | 2,_=>rfl
   | 3,_=>rfl
  ·rw[rJ]
   match t,ht4 with
   | 0,_=>rfl
   | 1,_=>rfl
   | 2,_=>rfl
   | 3,_=>rfl
  ·match t,ht4 with
   | 0,_=>rfl
   | 1,_=>rfl
   | 2,_=>rfl
   | 3,_=>rfl
 have s8:C8 [some X,some (.lst (l.map dL)),some (.int w),some (.int ((s:Int)+1)),some (.lst ((l.map (oth s)).map dL)),some (.lst ((dU t).map D.str)),some (.int (t:Int)),none,none,none,none,none] []=.nx (gE X l w (some (.int ((s:Int)+1))) s (some (.lst ((dU t).map D.str))) (some (.int (t:Int))) none none none none) [.dk []]:=vY rfl
 obtain⟨St,hSt⟩:=Classical.axiomOfChoice (r:=λ(y:List Nat) (st:List (Nat×Nat))=>Wy4 y->Gd l w y st) (λy=>by
  by_cases hy:Wy4 y
  ·obtain⟨st,h⟩:=Gd.ex l (by omega) w hw hy;exact⟨st,λ_=>h⟩
  ·exact⟨[],λh=>absurd h hy⟩)
 have wl:=Qri t;obtain⟨o8,o9,O9,e9,q9⟩:=Oh (l:=l) (w:=w) (St:=St) X (some (.int ((s:Int)+1))) (some (.lst ((dU t).map D.str))) (some (.int (t:Int))) none none s (dU t) [] none none [.dk []] (λy hy=>hSt y (Qrz t y hy)) (by rw[zN];omega) ⟨[],rfl,zc _,λ_ h=>nomatch h⟩;rw[zK] at q9
 have s9:C9 (gE X l w (some (.int ((s:Int)+1))) s (some (.lst ((dU t).map D.str))) (some (.int (t:Int))) none none none none) [.dk []]=.nx (gE X l w (some (.int ((s:Int)+1))) s (some (.lst ((dU t).map D.str))) (some (.int (t:Int))) o8 o9 none none) O9:=by
  unfold C9;rw[il,lg (m:=aa 5) (l:=(dU t).map D.str) rfl,ir,e9]
 obtain⟨r,O10,e10,k10,hr⟩:=Qr9 (l:=l) (w:=w) (by omega) O9;have q10:=q9.kp k10;have s10:C10 (gE X l w (some (.int ((s:Int)+1))) s (some (.lst ((dU t).map D.str))) (some (.int (t:Int))) o8 o9 none none) O9=.nx (gE X l w (some (.int ((s:Int)+1))) s (some (.lst ((dU t).map D.str))) (some (.int (t:Int))) o8 o9 (some (.int (r:Int))) none) O10:=vY ((bV (maS (x:=.lst (l.map dL)) rfl (ma1 (x:=.int w) rfl))).trans e10)
 have s11:C11 (gE X l w (some (.int ((s:Int)+1))) s (some (.lst ((dU t).map D.str))) (some (.int (t:Int))) o8 o9 (some (.int (r:Int))) none) O10=.nx (gE X l w (some (.int ((s:Int)+1))) s (some (.lst ((dU t).map D.str))) (some (.int (t:Int))) o8 o9 (some (.int (r:Int))) none) O10:=by
  obtain⟨ρ,hρ⟩:∃ρ,ρ=gE X l w (some (.int ((s:Int)+1))) s (some (.lst ((dU t).map D.str))) (some (.int (t:Int))) o8 o9 (some (.int (r:Int))) none:=⟨_,rfl⟩;rw[<-hρ]
  have v7:aa 7 ρ O10=.ok (.ob 0) O10:=by rw[hρ];rfl
  have v10:aa 10 ρ O10=.ok (.int (r:Int)) O10:=by rw[hρ];rfl
  have a1:=Et (b:=mC (.int 0)) (j:=0) v10 rfl;have a2:=gk (q10.get (Fb t .words) (mo:=aa 7) (my:=mC (.str [119,111,114,100,115])) v7 rfl);have a3:=gk (q10.get (Fb t .even) (mo:=aa 7) (my:=mC (.str [101,118,101,110])) v7 rfl);rw[zf] at a2 a3;have b2:=Es a2 v10;have b3:=vO a3 v10;unfold C11
  by_cases h0:0<r
  ·obtain⟨hb,hm⟩:=hr h0
   have hne:l≠[]:=λz=>by
    have:=hb.le
    rw[z,zN] at this;omega
   obtain⟨c1,c2⟩:=(hSt dH .words).wo rfl r hb hne;have c3:=(hSt dI .even).ev rfl r hb hne;have d1:=hm _ c2;have d2:=hm _ c3;rw[zj (by omega),Bool.not_true] at b2;rw[zg (by omega)] at b3;rw[zj (by omega)] at a1;rw[if_no ((and_t a1).trans (or_f b2 b3))];rfl
  ·rw[zg (by omega)] at a1;rw[if_no (and_f a1)];rfl
 obtain⟨o8',o11',O12,e12⟩:=Oi (l:=l) (w:=w) (St:=St) (ws:=dU t) X (some (.int ((s:Int)+1))) (some (.lst ((dU t).map D.str))) (some (.int (t:Int))) o9 (some (.int (r:Int))) s [dI,dR,dH,eY] o8 none O10 (λy hy=>by
  have wy:Wy4 y:=by
   rcases zk.mp hy with rfl | h
   ·exact .even
   rcases zk.mp h with rfl | h
   ·exact .cut
   rcases zk.mp h with rfl | h
   ·exact .words
   rcases zk.mp h with rfl | h
   ·exact .cells
   ·exact nomatch h
  obtain⟨st,hst⟩:=Gd.ex l.reverse (by rw[List.length_reverse];omega) w hw wy
  exact⟨Fb t wy,(hSt y wy).ans,st,hst.ans⟩) q10
 have s12:C12 (gE X l w (some (.int ((s:Int)+1))) s (some (.lst ((dU t).map D.str))) (some (.int (t:Int))) o8 o9 (some (.int (r:Int))) none) O10=.nx (gE X l w (some (.int ((s:Int)+1))) s (some (.lst ((dU t).map D.str))) (some (.int (t:Int))) o8' o9 (some (.int (r:Int))) o11') O12:=by
  unfold C12;rw[il,lg (l:=[dI,dR,dH,eY].map D.str) rfl,ir,e12]
 refine⟨O12,?_⟩
 have c0:vM [X] []=bA (vL [some X,none,none,none,none,none,none,none,none,none,none,none] []):=by
  unfold vM;rw[rM];rfl
 rw[c0,QuB,sq s1,sq s2,sq s3,sq s4,sq s5,sq s6,sq s7,sq s8,sq s9,sq s10,sq s11,sq s12];rfl
theorem all_mk{l:PySem.W.OpenLaw}{w:World}{K:PySem.W.Frag}{h:Heap}{mg:Str->Option Value}{fa:Addr}(X:K.In h)(G:h.Ns mainGlobals mg)(hfa:mg "law" = some (.ref fa))
  {jP:Addr}
  {Fd:Addr}{QxD Oj:Option Addr}{Qwg:Array (Option Value)}{QwE Ol Om Oo Fe Oq:Value}
  {ad_WAYS:Addr}{Ot:Value}{Qt1:Option Addr}{it_WAYS:Array Value}{nn_WAYS:Nat}{QuU:Array (Option Value)}
  (Z_Even:ClsAt K "Even" jP)
  (Qly:PySem.W.findIn K (.ref jP) "letters" = some none)
  (QnV:PySem.W.findIn K (.ref jP) "wide" = some none)
  (yN:Def K mg "width_of" yL)
  (yP:Def K mg "cells_of" uK)
  (yR:Def K mg "is_break" yQ)
  (yU:Def K mg "reach" yS)
  (yX:Def K mg "fitting_ends" yV)
  (Aa:Def K mg "line_ends" z7)
  (Ag:Def K mg "is_whole" Ad)
  (Aj:Def K mg "is_within" Ah)
  (An:Def K mg "cost_over" Al)
  (Aq:Def K mg "least_cost" rZ)
  (M_Even_nodes_at:MethAt K jP "nodes_at" "Even.nodes_at" Ar)
  (M_Even_is_end:MethAt K jP "is_end" "Even.is_end" Aw)
  (M_Even_cost_to:MethAt K jP "cost_to" "Even.cost_to" Az)
  (M_Even_moves_from:MethAt K jP "moves_from" "Even.moves_from" uW)
  (Bg:Def K mg "price_nodes" Bf)
  (M_Even_last_at:MethAt K jP "last_at" "Even.last_at" Bj)
  (Bo:Def K mg "priced" Bl)
  (Br:Def K mg "first_cheapest" u9)
  (M_Even_first_node:MethAt K jP "first_node" "Even.first_node" Bs)
  (Bv:Def K mg "way_of" Bu)
  (M_Even___init__:MethAt K jP "__init__" "Even.__init__" BJ)
  (BP:Def K mg "even" vh)
  (BZ:Def K mg "is_way" BW)
  (Ce:Def K mg "next_end" Cd)
  (Ci:Def K mg "end_to_end" Cg)
  (Cm:Def K mg "fold" Ck)
  (CJ:Def K mg "_law_cell" Cz)
  (CN:Def K mg "_law_mix" CK)
  (CQ:Def K mg "_law_whole" CP)
  (CW:Def K mg "_law_stream" CT)
  (CZ:Def K mg "_law_run" vA)
  (Dd:Def K mg "_law_letters" Dc)
  (Di:Def K mg "_law_wide" Dh)
  (Dl:Def K mg "_law_trimmed" vD)
  (Do:Def K mg "_law_breaks" Dm)
  (Dq:Def K mg "_law_held" Dp)
  (Ds:Def K mg "_law_fewest" Dr)
  (Ff:PySem.W.nsIn K mainGlobals "law" = some (some (.ref Fd))) (Ou:K.lookup Fd=some ⟨QwE,QxD,.func (PySem.W.fnOf "law" "law" (gP jr) (fc jr) (aY jr) .none Ol Om Oo Oj Fe Oq),Qwg⟩) (QwP:PySem.W.codeIn K Fe "law" = true) (QyK:PySem.W.keepIn K (.ref Fd)=true)
  (B:bW mg)
  (NK:bL K=true)
  (Cq:∃u,mg "GREATEST_BREADTH" = some u/\RelV (.int 40) u)
  (Cr:∃u,mg "LEAST_BREADTH" = some u/\RelV (.int 2) u)
  (QrO:PySem.W.nsIn K mainGlobals "WAYS" = some (some (.ref ad_WAYS))) (QsE:K.lookup ad_WAYS=some ⟨Ot,Qt1,.seq it_WAYS nn_WAYS,QuU⟩) (t_c_WAYS:Ot=.type "tuple") (Qr8:it_WAYS.size<=sizeLine) (v_c_WAYS:aN (List.map (λl=>V.str (S l)) [[99,117,116],[99,101,108,108,115],[119,111,114,100,115],[101,118,101,110]]) it_WAYS.toList):
  ∃fd:FuncData,(∀(s:Shared) (v:Value),BindsTo s fd ⟨[v],[]⟩ [("_law_script",v)])/\∀base:Heap,K.In base->base.Ns mainGlobals mg->dg l.prog w K mg base CX0 10 fa fd ["_law_script"] (sp_law K):=by
 have e:=hfa.symm.trans (PySem.W.mg_of X G Ff);cases e;have fU:=Z_Even.kf X G Qly;have kO:=Z_Even.kf X G QnV;have Av:=Z_Even.dm X G M_Even_nodes_at;have Ay:=Z_Even.dm X G M_Even_is_end;have Ba:=Z_Even.dm X G M_Even_cost_to;have Bd:=Z_Even.dm X G M_Even_moves_from;have Bk:=Z_Even.dm X G M_Even_last_at;have Bt:=Z_Even.dm X G M_Even_first_node;have BK:=Z_Even.dc X G M_Even___init__;have Du:Def K mg "law" jr:=⟨_,_,PySem.W.mg_of X G Ff,xx (st:=jr) Ou QwP QyK⟩;have Ca:ye K mg "WAYS" [[99,117,116],[99,101,108,108,115],[119,111,114,100,115],[101,118,101,110]]:=⟨ad_WAYS,_,it_WAYS,nn_WAYS,PySem.W.mg_of X G QrO,QsE,t_c_WAYS,rfl,Qr8,v_c_WAYS⟩
 refine⟨PySem.W.fnOf "law" "law" (gP jr) (fc jr) (aY jr) .none Ol Om Oo Oj Fe Oq,λs v=>.of_eq rfl,λbase _ _=>?_⟩;have jN:=@YG l.prog w K mg base yN B NK;have Ac:=@YJ l.prog w K mg base yP B NK jN;have yZ:=@YL l.prog w K mg base yR B NK;have kI:=@YM l.prog w K mg base yU B NK jN;have Ab:=@YQ l.prog w K mg base yX B NK jN yZ;have pN:=@YS l.prog w K mg base Aa B NK Ab kI Ac;have Ak:=@YW l.prog w K mg base Ag B NK;have Cu:=@YZ l.prog w K mg base Aj B NK Ak;have pL:=@Y0 l.prog w K mg base An B NK;have pP:=@Y4 l.prog w K mg base Aq B NK pL
 have Bh:=@Y6 l.prog w K mg base Av B NK;have kW:=@Y8 l.prog w K mg base Ay B NK fU;have Be:=@Za l.prog w K mg base Ba B NK fU kO;have pO:=@Zb l.prog w K mg base Bd B NK fU kO kW pN Be;have Bq:=@Zc l.prog w K mg base Bg B NK Bh pO kW pP;have Bp:=@Ze l.prog w K mg base Bk B NK fU;have Bw:=@Zf l.prog w K mg base Bo B NK Bp Bq;have By:=@Zg l.prog w K mg base Br B NK pP pL;have Bx:=@Zi l.prog w K mg base Bt B NK;have BR:=@Zj l.prog w K mg base Bv B NK Bw Bx kW By pO;have BV:=@Zm l.prog w K mg base BK B NK fU kO;have Cw:=@Zn l.prog w K mg base BP B NK BR BV
 have Cv:=@Zq l.prog w K mg base BZ B NK Ca;have Cj:=@Zt l.prog w K mg base Ce B NK pN kI;have Cy:=@Zu l.prog w K mg base Ci B NK Cj;have nY:=@Zw l.prog w K mg base Cm B NK Cq Cr Cu Cv kI Cw Cy;have iz:=@Zx l.prog w K mg base CJ B NK;have iy:=@Zy l.prog w K mg base CN B NK;have vJ:=@ZC l.prog w K mg base CQ B NK;have De:=@ZD l.prog w K mg base CW B NK;have Dg:=@ZF l.prog w K mg base CZ B NK;have Dv:=@ZG l.prog w K mg base Dd B NK iy iz De Dg;have Dw:=@ZJ l.prog w K mg base Di B NK iz iy;have pY:=@ZK l.prog w K mg base Dl B NK;have Dt:=@ZL l.prog w K mg base Do B NK
 have Dy:=@ZM l.prog w K mg base Dq B NK vJ pY;have Dz:=@ZP l.prog w K mg base Ds B NK Dt pY;have Qyv:=@ZR l.prog w K mg base Du B NK Dv Dw iy iz nY Dy Dz;obtain⟨f',fd',hm',hk',hb',F',oc',od',osl',lk'⟩:=Qyv;have e2:=(PySem.W.mg_of X G Ff).symm.trans hm';cases e2;have e3:=Ou.symm.trans lk';cases e3;exact F'.imp (Wl Qsa)
theorem walk{l:PySem.W.OpenLaw}{q:Program}{loose:List Str}{XP:(Str->Option Value)->Heap->Prop}{YP:World->Heap->Prop}{d:DefRec}{K:Params->PySem.W.Frag}(hn:l.most=some 63)(hdf:d.params.defaults=[])
  (hY:∀(w:World) (h:Heap),YP w h->(K w.params).In h)
  (F:∀(w:World) (mg:Str->Option Value) (fa:Addr) (h:Heap),(K w.params).In h->h.Ns mainGlobals mg->mg d.name=some (.ref fa) ->
   ∃fd:FuncData,(∀(s:Shared) (u:Value),BindsTo s fd ⟨[u],[]⟩ [("_law_script",u)])/\∀base:Heap,(K w.params).In base->base.Ns mainGlobals mg->dg l.prog w (K w.params) mg base CX0 10 fa fd ["_law_script"] (sp_law (K w.params))):
  PySem.W.WalkO q loose XP YP l.row.toRowW d [] (λf vs=>PySem.call f vs):=
 L2.walk_ofR (n:=63) (k:=10) (x:="_law_script") (CX:=λ_=>CX0) (sp:=λw=>sp_law (K w.params)) hn (by decide) hdf ⟨rfl,by decide,by decide⟩ hY F (λ_ _ a ns hl ho hS=>⟨a,ns,rfl,hS,hl,ho,λ_=>rfl⟩) λ_ _ _ _ _ z=>z
end K48
open PySem PySem.W PyProof.Rows L2
set_option maxRecDepth 100000 in
set_option maxHeartbeats 0 in
theorem PySem.Challenge.cw_outweave_k48_whole_folded_and_joined_holds : PySem.Challenge.rw_outweave_k48_whole_folded_and_joined.Holds := by
 w_on;o_law;k_head;(case hw=>w_witness2)
 k_fill
 refine K48.walk (l:=PySem.Challenge.rw_outweave_k48_whole_folded_and_joined) rfl rfl (λw h Y=>PySem.W.kIn_of Y) ?F
 case F =>
  intro w mg fa h KX G hmg
  refine' K48.all_mk KX G hmg ⟨?x1,?x2,?x3,?x4,?x5,?x6,?x7⟩ ?x8 ?x9 (mkD KX G ?x10 ?x11 ?x12 ?x13) (mkD KX G ?x14 ?x15 ?x16 ?x17) (mkD KX G ?x18 ?x19 ?x20 ?x21) (mkD KX G ?x22 ?x23 ?x24 ?x25) (mkD KX G ?x26 ?x27 ?x28 ?x29) (mkD KX G ?x30 ?x31 ?x32 ?x33) (mkD KX G ?x34 ?x35 ?x36 ?x37) (mkD KX G ?x38 ?x39 ?x40 ?x41) (mkD KX G ?x42 ?x43 ?x44 ?x45) (mkD KX G ?x46 ?x47 ?x48 ?x49) (mkM ?x50 ?x51 ?x52 ?x53 ?x54) (mkM ?x55 ?x56 ?x57 ?x58 ?x59) (mkM ?x60 ?x61 ?x62 ?x63 ?x64) (mkM ?x65 ?x66 ?x67 ?x68 ?x69) (mkD KX G ?x70 ?x71 ?x72 ?x73) (mkM ?x74 ?x75 ?x76 ?x77 ?x78) (mkD KX G ?x79 ?x80 ?x81 ?x82) (mkD KX G ?x83 ?x84 ?x85 ?x86) (mkM ?x87 ?x88 ?x89 ?x90 ?x91) (mkD KX G ?x92 ?x93 ?x94 ?x95) (mkM ?x96 ?x97 ?x98 ?x99 ?x100) (mkD KX G ?x101 ?x102 ?x103 ?x104) (mkD KX G ?x105 ?x106 ?x107 ?x108) (mkD KX G ?x109 ?x110 ?x111 ?x112) (mkD KX G ?x113 ?x114 ?x115 ?x116) (mkD KX G ?x117 ?x118 ?x119 ?x120) (mkD KX G ?x121 ?x122 ?x123 ?x124) (mkD KX G ?x125 ?x126 ?x127 ?x128) (mkD KX G ?x129 ?x130 ?x131 ?x132) (mkD KX G ?x133 ?x134 ?x135 ?x136) (mkD KX G ?x137 ?x138 ?x139 ?x140) (mkD KX G ?x141 ?x142 ?x143 ?x144) (mkD KX G ?x145 ?x146 ?x147 ?x148) (mkD KX G ?x149 ?x150 ?x151 ?x152) (mkD KX G ?x153 ?x154 ?x155 ?x156) (mkD KX G ?x157 ?x158 ?x159 ?x160) (mkD KX G ?x161 ?x162 ?x163 ?x164) ?x165 ?x166 ?x167 ?x168 ⟨⟨⟨PySem.W.mg_none_of KX G ?x169,PySem.W.mg_none_of KX G ?x170,PySem.W.mg_none_of KX G ?x171,PySem.W.mg_none_of KX G ?x172,PySem.W.mg_none_of KX G ?x173,PySem.W.mg_none_of KX G ?x174,PySem.W.mg_none_of KX G ?x175,PySem.W.mg_none_of KX G ?x176,PySem.W.mg_none_of KX G ?x177,PySem.W.mg_none_of KX G ?x178,PySem.W.mg_none_of KX G ?x179,PySem.W.mg_none_of KX G ?x180,PySem.W.mg_none_of KX G ?x181,PySem.W.mg_none_of KX G ?x182,PySem.W.mg_none_of KX G ?x183⟩,PySem.W.mg_none_of KX G ?x184⟩,PySem.W.mg_none_of KX G ?x185⟩ ?x186 ⟨_,PySem.W.mg_of KX G ?x187,?x188⟩ ⟨_,PySem.W.mg_of KX G ?x189,?x190⟩ ?x191 ?x192 ?x193 ?x194 ?x195
  (case x1 | x2 | x3 | x4 | x5 | x6 | x7 | x8 | x9 | x10 | x11 | x12 | x13 | x14 | x15 | x16 | x17 | x18 | x19 | x20 | x21 | x22 | x23 | x24 | x25 | x26 | x27 | x28 | x29 | x30 | x31 | x32 | x33 | x34 | x35 | x36 | x37 | x38 | x39 | x40 | x41 | x42 | x43 | x44 | x45 | x46 | x47 | x48 | x49 | x50 | x51 | x52 | x53 | x54 | x55 | x56 | x57 | x58 | x59 | x60 | x61 | x62 | x63 | x64 | x65 | x66 | x67 | x68 | x69 | x70 | x71 | x72 | x73 | x74 | x75 | x76 | x77 | x78 | x79 | x80 | x81 | x82 | x83 | x84 | x85 | x86 | x87 | x88 | x89 | x90 | x91 | x92 | x93 | x94 | x95 | x96 | x97 | x98 | x99 | x100 | x101 | x102 | x103 | x104 | x105 | x106 | x107 | x108 | x109 | x110 | x111 | x112 | x113 | x114 | x115 | x116 | x117 | x118 | x119 | x120 | x121 | x122 | x123 | x124 | x125 | x126 | x127 | x128 | x129 | x130 | x131 | x132 | x133 | x134 | x135 | x136 | x137 | x138 | x139 | x140 | x141 | x142 | x143 | x144 | x145 | x146 | x147 | x148 | x149 | x150 | x151 | x152 | x153 | x154 | x155 | x156 | x157 | x158 | x159 | x160 | x161 | x162 | x163 | x164 | x165 | x166 | x167 | x168 | x169 | x170 | x171 | x172 | x173 | x174 | x175 | x176 | x177 | x178 | x179 | x180 | x181 | x182 | x183 | x184 | x185 | x187 | x189 | x191 | x192=>k_is)
  (case x186=>first | kernel_rfl | decide +kernel)
  (case x188 | x190=>exact⟨_,rfl⟩)
  (case x193=>rfl)
  (case x194=>decide +kernel)
  (case x195=>repeat (first | exact .nil | refine .cons ⟨_,rfl⟩ ?_))
