import PyProof.Rows.All
import Wide.All
import OpenK.AllK
import Wide.FinOn
import Lean
import PyProof.EqAt
import PyProof.EqKinds
import PyProof.TupleCall
import PySem.Challenge.RW_outweave_k31_prices_and_least_ways
set_option Elab.async false
set_option linter.all false
set_option maxRecDepth 100000
set_option maxHeartbeats 4000000
section
open PySem PyProof.Rows
abbrev za:=@wpAny_bind
abbrev zc:=@wpAny_pure
abbrev zd:=@Nat.le_refl
abbrev zh:=@List.map_cons
abbrev zj:=@List.length_map
abbrev zl:=@List.getElem?_eq_some_iff
abbrev zm:=@List.getElem?_set_ne
abbrev zn:=@Heap.get?_push_of_some
abbrev zo:=@Heap.lt_size
abbrev zp:=@decide_eq_false
abbrev zq:=@Bool.false_ne_true
abbrev zr:=@List.mem_cons_self
abbrev zu:=@List.getElem?_eq_getElem
abbrev zv:=@List.length_append
abbrev zw:=@Bool.and_eq_true
abbrev zx:=@decide_eq_true
abbrev zy:=@List.getElem?_map
abbrev zz:=@List.mem_singleton
abbrev zA:=@List.mem_append
abbrev zB:=@Heap.get?_push_size
abbrev zC:=@Nat.ne_of_lt
abbrev zD:=@List.mem_cons_of_mem
abbrev zE:=@Option.some.inj
abbrev zF:=@List.mem_cons
abbrev zG:=@List.size_toArray
abbrev zH:=@Nat.le_trans
abbrev zI:=@List.length_cons
abbrev zJ:=@List.getElem?_append_right
abbrev zK:=@List.getElem?_append_left
abbrev zL:=@Nat.lt_of_lt_of_le
abbrev zM:=@List.append_assoc
abbrev zN:=@List.map_append
abbrev zO:=@List.mem_of_getElem?
abbrev zP:=@Nat.zero_add
abbrev zQ:=@wpAny_holding
abbrev zR:=@wpAny_rule
abbrev zS:=@List.getElem?_set_self
abbrev zT:=@wpAny_mono
abbrev zU:=@List.mem_append_right
abbrev zV:=@List.nil_append
abbrev zW:=@List.getElem?_cons_zero
abbrev zX:=@List.mem_map
abbrev zY:=@List.getD_eq_getElem?_getD
abbrev zZ:=@List.getElem?_cons_succ
abbrev jc:=@List.nodup_append
abbrev jd:=@Nat.lt_irrefl
abbrev je:=@List.append_nil
abbrev jf:=@List.map_nil
abbrev jg:=@List.length_nil
abbrev jh:=@List.length_set
abbrev ji:=@of_decide_eq_true
abbrev jj:=@List.map_map
abbrev jk:=@List.getElem_mem
abbrev jl:=@List.set_cons_zero
abbrev jm:=@wpAny_letGo
abbrev jn:=@List.set_cons_succ
abbrev jo:=@List.length_singleton
abbrev jp:=@wpAny_of_eq
abbrev jq:=@List.all_eq_true
abbrev jr:=@Nat.lt_succ_self
abbrev js:=@codeAny_builtin
abbrev jt:=@Nat.lt_succ_of_lt
abbrev ju:=@List.map_congr_left
abbrev jv:=@List.mem_append_left
abbrev jw:=@Heap.get?_update_other
abbrev jx:=@Nat.le_add_right
abbrev jy:=@List.getElem?_eq_none
abbrev jz:=@Int.emod_lt_of_pos
end
namespace PySem.W.Fast
abbrev tw4132311323638218083:=()
abbrev tw16417150102158598087:=()
abbrev tw7594360965686889131:=()
abbrev tw9849517876995264030:=()
abbrev tw12653110078385252480:=()
abbrev tw14866993458602549661:=()
abbrev tw8690215624645427261:=()
abbrev tw8560590976133728436:=()
abbrev tw4920662814729494305:=()
abbrev tw8083095462600757721:=()
abbrev tw10415993019763172169:=()
abbrev tw5755943435401059450:=()
abbrev tw10454481715502564347:=()
abbrev tw10853565142058584217:=()
end PySem.W.Fast
namespace L2
open PySem PySem.Spec PyProof.Rows
abbrev Key:=Sum Int Str
def oH:Key->Value->Bool
 | .inl k,v=>Value.isInt k v
 | .inr x,v=>Value.isStrOf x v
def Mt(w:World):Key->Int
 | .inl k=>hashInt k
 | .inr x=>hashStr w x
theorem jP:∀{k:Key}{v:Value},oH k v=true->(∃i t,k=Sum.inl i/\v=Value.int i t)\/(∃x t,k=Sum.inr x/\v=Value.str x t)
 | .inl i,v,h=>by
  obtain⟨t,e⟩:=Value.isInt_shape (k:=i) (v:=v) h;exact .inl ⟨i,t,rfl,e⟩
 | .inr x,v,h=>by
  obtain⟨t,e⟩:=Value.isStrOf_shape (x:=x) (v:=v) h;exact .inr ⟨x,t,rfl,e⟩
theorem Mu(i:Int)(t:Tok):oH (.inl i) (.int i t)=true:=by simp[oH,Value.isInt]
theorem Mw(x:Str)(t:Tok):oH (.inr x) (.str x t)=true:=by simp[oH,Value.isStrOf]
theorem Mx(a b:Int):decide ((Sum.inl a:Key)=Sum.inl b)=(a == b):=by
 by_cases e:a=b
 ·subst e;simp
 ·have h:¬(Sum.inl a:Key)=Sum.inl b:=λq=>e (Sum.inl.inj q)
  rw[zp h];exact(beq_eq_false_iff_ne.mpr e).symm
theorem Mz(a b:Str):decide ((Sum.inr a:Key)=Sum.inr b)=decide (a=b):=by
 by_cases e:a=b
 ·subst e;simp
 ·have h:¬(Sum.inr a:Key)=Sum.inr b:=λq=>e (Sum.inr.inj q)
  rw[zp h,zp e]
theorem MF(a:Int)(b:Str):decide ((Sum.inl a:Key)=Sum.inr b)=false:=zp (λq=>nomatch q)
theorem MJ(a:Str)(b:Int):decide ((Sum.inr a:Key)=Sum.inl b)=false:=zp (λq=>nomatch q)
def cR(prog:Program)(w:World):PySem.KeyKind prog w Key where
 is:=oH
 hash:=Mt w
 inj:=λv a b ha hb=>by
  rcases jP ha with⟨i,t,rfl,rfl⟩ | ⟨x,t,rfl,rfl⟩
  ·rcases jP hb with⟨j,u,rfl,e⟩ | ⟨y,u,rfl,e⟩
   ·injection e with e1 _;rw[e1]
   ·exact nomatch e
  ·rcases jP hb with⟨j,u,rfl,e⟩ | ⟨y,u,rfl,e⟩
   ·exact nomatch e
   ·injection e with e1 _;rw[e1]
 byValue:=λk v h=>by
  rcases jP h with⟨i,t,rfl,rfl⟩ | ⟨x,t,rfl,rfl⟩<;>rfl
 pyHash:=λhv h=>by
  rcases jP hv with⟨i,t,rfl,rfl⟩ | ⟨x,t,rfl,rfl⟩
  ·exact wpAny_pyHash_int h
  ·exact wpAny_pyHash_str h
 eqBool:=λhu hv h=>by
  rcases jP hu with⟨i,t,rfl,rfl⟩ | ⟨x,t,rfl,rfl⟩
  ·rcases jP hv with⟨j,u,rfl,rfl⟩ | ⟨y,u,rfl,rfl⟩
   ·rw[Mx] at h;exact wpAny_eqBool_int h
   ·rw[MF] at h;exact SeqAt.EqAt.int_str i t y u _ _ _ _ h
  ·rcases jP hv with⟨j,u,rfl,rfl⟩ | ⟨y,u,rfl,rfl⟩
   ·rw[MJ] at h;exact SeqAt.EqAt.str_int x t j u _ _ _ _ h
   ·rw[Mz] at h;exact wpAny_eqBool_str h
 «strs»:=λk x t v h=>by
  rcases jP h with⟨i,u,rfl,e⟩ | ⟨y,u,rfl,e⟩
  ·exact nomatch e
  ·injection e with e1 _
   subst e1
   cases v<;>rfl
theorem MK(prog:Program)(w:World)(i:Int)(t:Tok):(cR prog w).is (.inl i) (.int i t)=true:=Mu i t
theorem MN(prog:Program)(w:World)(x:Str)(t:Tok):(cR prog w).is (.inr x) (.str x t)=true:=Mw x t
inductive V where
 | non | bl (b:Bool) | int (i:Int) | str (x:Str) | byt (b:Array UInt8) | flt (b:UInt64) | ref (a:Addr) | ty (n:String)
 deriving DecidableEq
def RelV:V->Value->Prop
 | .non,u=>u=Value.none
 | .bl b,u=>u=Value.bool b
 | .int i,u=>∃t,u=Value.int i t
 | .str x,u=>∃t,u=Value.str x t
 | .byt b,u=>∃t,u=Value.bytes b t
 | .flt b,u=>∃t,u=Value.float b t
 | .ref a,u=>u=Value.ref a
 | .ty n,u=>u=Value.type n
abbrev aP:List V->List Value->Prop:=Paired RelV
theorem aP.length{xs:List V}{us:List Value}(r:aP xs us):xs.length=us.length:=Paired.length r
theorem aP.get:∀{xs:List V}{us:List Value}{i:Nat}{x:V},aP xs us->xs[i]?=some x->∃u,us[i]?=some u/\RelV x u
 | _,_,_,_,.nil,e=>by simp at e
 | _,_,0,_,.cons r _,e=>by simp at e;subst e;exact⟨_,rfl,r⟩
 | _,_,i+1,x,.cons _ t,e=>by
  obtain⟨u,h1,h2⟩:=aP.get (i:=i) (x:=x) t (by simpa using e);exact⟨u,by simpa using h1,h2⟩
theorem aP.set{x:V}{u:Value}(r:RelV x u):∀{xs:List V}{us:List Value} (i:Nat),aP xs us->aP (xs.set i x) (us.set i u)
 | _,_,_,.nil=>.nil
 | _,_,0,.cons _ t=>.cons r t
 | _,_,i+1,.cons q t=>.cons q (aP.set r i t)
theorem aP.append:∀{xs ys:List V}{us ws:List Value},aP xs us->aP ys ws->aP (xs++ys) (us++ws)
 | _,_,_,_,.nil,s=>s
 | _,_,_,_,.cons r t,s=>.cons r (aP.append t s)
theorem aP.take:∀{xs:List V}{us:List Value} (n:Nat),aP xs us->aP (xs.take n) (us.take n)
 | _,_,0,_=>.nil
 | _,_,_+1,.nil=>.nil
 | _,_,n+1,.cons r t=>.cons r (aP.take n t)
theorem aP.drop:∀{xs:List V}{us:List Value} (n:Nat),aP xs us->aP (xs.drop n) (us.drop n)
 | _,_,0,r=>r
 | _,_,_+1,.nil=>.nil
 | _,_,n+1,.cons _ t=>aP.drop n t
theorem aP.none_of:∀{xs:List V}{us:List Value}{i:Nat},aP xs us->xs[i]?=none->us[i]?=none:=λ{xs us i} r e=>by
 have h1:=r.length;have h2:xs.length<=i:=List.getElem?_eq_none_iff.mp e;exact List.getElem?_eq_none_iff.mpr (by omega)
def dU:Option V->Option Value->Prop
 |some v,some u=>RelV v u
 |none,none=>True
 | _,_=>False
def KV{κ:Type}:List (κ×V)->List (κ×Value)->Prop:=Paired λ(p:κ×V) (q:κ×Value)=>p.1=q.1/\RelV p.2 q.2
def kV:Key->V
 | .inl i=>.int i
 | .inr x=>.str x
inductive HO where
  | lst (xs:List V)
  | tup (xs:List V)
  | dK (kvs:List (Key×V)) | dT (kvs:List (List Key×V))
  | set (S:Int->Bool) (n:Nat)
  | ins (C dx:Addr) (fs:List (Str×V))
  | own (x:Addr)
  | xd (fs:List (Str×V))
  | met (f x:Addr)
  | rng (lo hi:Int)
  | frz (o:Obj) (u:HO)
  | tbl (ps:Array Value)
  | ext (φ:Heap->Prop)
abbrev Hp:=Addr->Option HO
def upd(H:Hp)(a:Addr)(o:HO):Hp:=λb=>if b=a then some o else H b
theorem bF{H:Hp}{a:Addr}{o:HO}:upd H a o a=some o:=by unfold upd;rw[if_pos rfl]
theorem aG{H:Hp}{a b:Addr}{o:HO}(h:b≠a):upd H a o b=H b:=by unfold upd;rw[if_neg h]
theorem ne_of{H:Hp}{a b:Addr}{o u:HO}(h:H a=some o)(h':H b=some u)(d:o≠u):a≠b:=by
 intro e;subst e;rw[h] at h';exact d (zE h')
theorem bV{H:Hp}{a b:Addr}{o:HO}(h:H a=some o)(h':H b=none):a≠b:=by
 intro e;subst e;rw[h] at h';cases h'
section
variable (P:Program)(w:World)
def bU(H:Hp)(h:Heap)(a:Addr):HO->Prop
 | .lst xs=>xs.length<=sizeLine/\∃(its:List Value) (n:Nat),aP xs its/\h.get? a=some {cls:=.type "list",data:=.seq its.toArray n}
 | .tup xs=>xs.length<=sizeLine/\∃its:List Value,aP xs its/\IsTup h a its.toArray
 | .dK kvs=>kvs.length<=sizeLine/\(a == sysModules)=false/\∃vs,KV kvs vs/\h.DictOf (cR P w) a vs
 | .dT kvs=>kvs.length<=sizeLine/\(a == sysModules)=false/\∃xs:List (List Key×Addr×Value),
   Paired (λ(p:List Key×V) (q:List Key×Addr×Value)=>p.1=q.1/\H q.2.1=some (.tup (p.1.map kV))/\RelV p.2 q.2.2) kvs xs /\
   ∃o es ep,h.get? a=some o/\o.ExactDict/\o.data=.dict es ep/\es.toList=xs.map (entryOfKey (tupleKind (cR P w)))/\(xs.map (·.1)).Nodup
 | .set S n=>h.SetOf (intKind P w) a S n
 | .ins C dx fs=>H dx=some (.own a)/\fs.length<=1000/\dx≠a/\h.get? a=some (PySem.W.instObj C dx) /\
   ∃mA,h.Ns1 dx mA/\(∀f,dU (fs.lookup f) (mA f))/\PySem.Within mA (fs.map (·.1))
 | .own _=>∃o,h.get? a=some o
 | .xd fs=>∃mA,h.Ns1 a mA/\∀f,dU (fs.lookup f) (mA f)
 | .rng lo hi=>∃t u v,h.get? a=some {cls:=.type "range",data:=.fields #[.int lo t,.int hi u,.int 1 v]}
 | .frz o u=>h.get? a=some o/\bU H h a u
 | .tbl ps=>h.get? a=some {cls:=.none,data:=.fields ps}
 | .met f x=>h.get? a=some (PySem.W.methodObj (.ref f) (.ref x))
 | .ext φ=>φ h/\(∃o,h.get? a=some o)/\∀h1 h2:Heap,φ h1->(∀o,h1.get? a=some o->h2.get? a=some o)->φ h2
def HOk(H:Hp)(h:Heap):Prop:=∀a o,H a=some o->bU P w H h a o
end
section
variable {P:Program}{w:World}{H H':Hp}{h h':Heap}{a:Addr}{o:HO}
theorem bU.lt(x:bU P w H h a o):a<h.objs.size:=by
 cases o with
 |lst xs=>obtain⟨_,_,_,_,e⟩:=x;exact zo e
 |tup xs=>obtain⟨_,_,_,p⟩:=x;exact p.lt
 |dK kvs=>obtain⟨_,_,_,_,o,_,_,e,_⟩:=x;exact zo e
 |dT kvs=>obtain⟨_,_,_,_,o,_,_,e,_⟩:=x;exact zo e
 |set S n=>obtain⟨o,_,_,_,e,_⟩:=x;exact zo e
 |ins C dx fs=>obtain⟨_,_,_,e,_⟩:=x;exact zo e
 |own y=>obtain⟨_,e⟩:=x;exact zo e
 |xd fs=>obtain⟨_,⟨_,_,_,e,_⟩,_⟩:=x;exact zo e
 |rng lo hi=>obtain⟨_,_,_,e⟩:=x;exact zo e
 |frz ob u=>obtain⟨e,_⟩:=x;exact zo e
 |tbl ps=>exact zo (show h.get? a=some _ from x)
 |met f y=>exact zo (show h.get? a=some _ from x)
 |ext φ=>obtain⟨_,⟨_,e⟩,_⟩:=x;exact zo e
theorem Paired.mapP{α β:Type}{F G:α->β->Prop}:∀{l₁:List α}{l₂:List β},Paired F l₁ l₂->(∀a b,F a b->G a b)->Paired G l₁ l₂
 | _,_,.nil,_=>.nil
 | _,_,.cons r t,f=>.cons (f _ _ r) (Paired.mapP t f)
theorem bU.stay(x:bU P w H h a o)(k:∀b u,(b=a\/H b=some (.own a))->h.get? b=some u->h'.get? b=some u)
  (ho:∀b,H b=some (.own a)->H' b=some (.own a)) (ht:∀b xs,H b=some (.tup xs)->H' b=some (.tup xs)):bU P w H' h' a o:=by
 induction o with
 |lst xs=>obtain⟨z,its,n,r,e⟩:=x;exact⟨z,its,n,r,k _ _ (.inl rfl) e⟩
 |tup xs=>obtain⟨z,its,r,ob,e,c⟩:=x;exact⟨z,its,r,ob,k _ _ (.inl rfl) e,c⟩
 |dK kvs=>obtain⟨z,y,vs,r,ob,es,ep,e,c⟩:=x;exact⟨z,y,vs,r,ob,es,ep,k _ _ (.inl rfl) e,c⟩
 |dT kvs =>
  obtain⟨z,y,xs,r,ob,es,ep,e,c⟩:=x;exact⟨z,y,xs,Paired.mapP r λp q z=>⟨z.1,ht _ _ z.2.1,z.2.2⟩,ob,es,ep,k _ _ (.inl rfl) e,c⟩
 |set S n=>obtain⟨ob,es,ep,t,e,c⟩:=x;exact⟨ob,es,ep,t,k _ _ (.inl rfl) e,c⟩
 |ins C dx fs =>
  obtain⟨d,z,ne,e,mA,⟨od,es,ep,e2,c⟩,r⟩:=x;exact⟨ho _ d,z,ne,k _ _ (.inl rfl) e,mA,⟨od,es,ep,k _ _ (.inr d) e2,c⟩,r⟩
 |own y=>obtain⟨ob,e⟩:=x;exact⟨ob,k _ _ (.inl rfl) e⟩
 |xd fs=>obtain⟨mA,⟨od,es,ep,e,c⟩,r⟩:=x;exact⟨mA,⟨od,es,ep,k _ _ (.inl rfl) e,c⟩,r⟩
 |rng lo hi=>obtain⟨t,u,v,e⟩:=x;exact⟨t,u,v,k _ _ (.inl rfl) e⟩
 |frz ob u ih=>obtain⟨e,q⟩:=x;exact⟨k _ _ (.inl rfl) e,ih q⟩
 |tbl ps =>
  have e:h.get? a=some {cls:=.none,data:=.fields ps}:=x;show h'.get? a=some {cls:=.none,data:=.fields ps};exact k a _ (.inl rfl) e
 |met f y =>
  have e:h.get? a=some (PySem.W.methodObj (.ref f) (.ref y)):=x;show h'.get? a=some (PySem.W.methodObj (.ref f) (.ref y));exact k a _ (.inl rfl) e
 |ext φ=>obtain⟨p,⟨o,e⟩,st⟩:=x;exact⟨st _ _ p λo q=>k _ _ (.inl rfl) q,⟨o,k _ _ (.inl rfl) e⟩,st⟩
theorem HOk.lt(x:HOk P w H h)(e:H a=some o):a<h.objs.size:=(x a o e).lt
theorem HOk.fresh(x:HOk P w H h)(e:h.objs.size<=a):H a=none:=by
 cases q:H a with
 |none=>rfl
 |some u=>exact absurd (zL (x.lt q) e) (jd _)
theorem HOk.kept(x:HOk P w H h)(k:∀b u,h.get? b=some u->h'.get? b=some u):HOk P w H h':=λa o e =>
 (x a o e).stay (λb u _ q=>k b u q) (λ_ q=>q) λ_ _ q=>q
theorem HOk.laid(x:HOk P w H h)(k:∀b u,h.get? b=some u->h'.get? b=some u)(hp:h.objs.size<=a)(new:bU P w (upd H a o) h' a o):HOk P w (upd H a o) h':=λb u e=>by
 have hn:=x.fresh hp
 by_cases hb:b=a
 ·subst hb;rw[bF] at e;cases e;exact new
 ·rw[aG hb] at e
  exact(x b u e).stay (λc v _ q=>k c v q) (λc q=>by rw[aG (bV q hn)];exact q) λc xs q=>by rw[aG (bV q hn)];exact q
end
def Rd(H:Hp)(a:Addr)(u:HO):Prop:=H a=some u\/∃o,H a=some (.frz o u)
theorem Rd.of{H:Hp}{a:Addr}{u:HO}(h:H a=some u):Rd H a u:=.inl h
theorem Rd.ok{P:Program}{w:World}{H:Hp}{h:Heap}{a:Addr}{u:HO}(r:Rd H a u)(x:HOk P w H h):bU P w H h a u:=by
 rcases r with r | ⟨o,r⟩
 ·exact x a u r
 ·obtain⟨_,q⟩:=x a _ r;exact q
def Mut:Option HO->Prop
 |some (.lst _)=>True
 |some (.dK _)=>True
 |some (.dT _)=>True
 |some (.set _ _)=>True
 |some (.ins _ _ _)=>True
 |some (.ext _)=>True
 | _=>False
section
variable {P:Program}{w:World}{H:Hp}{h h':Heap}{x e:Addr}{o':HO}
theorem HOk.write(ok:HOk P w H h)(mu:Mut (H x))(he:e=x\/H e=some (.own x))(k:∀b u,b≠e->h.get? b=some u->h'.get? b=some u)(heo:∃u,h'.get? e=some u)
  (new:bU P w (upd H x o') h' x o'):HOk P w (upd H x o') h':=λb u q=>by
 have nown:∀c y,H c=some (.own y)->c≠x:=λc y r z=>by subst z;rw[r] at mu;exact mu
 have ntup:∀c xs,H c=some (.tup xs)->c≠x:=λc xs r z=>by subst z;rw[r] at mu;exact mu
 by_cases hb:b=x
 ·subst hb;rw[bF] at q;cases q;exact new
 ·rw[aG hb] at q
  by_cases hbe:b=e
  ·have q':H b=some (.own x):=by
    rcases he with z | z
    ·exact absurd (hbe.trans z) hb
    ·rw[hbe];exact z
   rw[q] at q';cases q';obtain⟨v,hv⟩:=heo;exact⟨v,by rw[hbe];exact hv⟩
  ·refine(ok b u q).stay (λc v hc r=>k c v ?_ r) (λc r=>by rw[aG (nown c b r)];exact r) λc xs r=>by rw[aG (ntup c xs r)];exact r
   rcases hc with rfl | hc
   ·exact hbe
   ·rintro rfl
    rcases he with z | z
    ·exact nown c b hc z
    ·rw[hc] at z;cases z;exact hb rfl
end
structure Un(fs ex:List Addr)(H H':Hp)(h h':Heap):Prop where
 keep:∀b o,h.get? b=some o->H b=none->b∉fs->b∉ex->h'.get? b=some o
 slot:∀b o,h.get? b=some o->H b=none->b∈fs->b∉ex->∃sl,h'.get? b=some {o with slots:=sl}
 free:∀b o,h.get? b=some o->H b=none->b∉ex->H' b=none
 there:∀b o,h.get? b=some o->b∉ex->∃o',h'.get? b=some o'
 tups:∀b xs,H b=some (.tup xs)->H' b=some (.tup xs)
 frzs:∀b o u,H b=some (.frz o u)->H' b=some (.frz o u)
 tbls:∀b ps,H b=some (.tbl ps)->∃more,H' b=some (.tbl (ps++more))
section
variable {fs fs' ex ex':List Addr}{H H1 H2:Hp}{h h1 h2 h':Heap}{a x e:Addr}{o:HO}
theorem Un.any(u:Un fs ex H H1 h h1){b:Addr}{ob:Obj}(q:h.get? b=some ob)(n:H b=none)(hx:b∉ex):∃sl,h1.get? b=some {ob with slots:=sl}:=by
 by_cases hb:b∈fs
 ·exact u.slot b ob q n hb hx
 ·exact⟨ob.slots,u.keep b ob q n hb hx⟩
theorem Un.trans(a:Un fs ex H H1 h h1)(b:Un fs ex H1 H2 h1 h2):Un fs ex H H2 h h2 where
 keep:=λc ob q n hc hx=>b.keep c ob (a.keep c ob q n hc hx) (a.free c ob q n hx) hc hx
 slot:=λc ob q n hc hx=>by
  obtain⟨sl,e1⟩:=a.slot c ob q n hc hx;obtain⟨sl',e2⟩:=b.slot c _ e1 (a.free c ob q n hx) hc hx;exact⟨sl',e2⟩
 free:=λc ob q n hx=>by
  obtain⟨o',e1⟩:=a.there c ob q hx;exact b.free c o' e1 (a.free c ob q n hx) hx
 there:=λc ob q hx=>by
  obtain⟨o',e1⟩:=a.there c ob q hx;exact b.there c o' e1 hx
 tups:=λc xs q=>b.tups c xs (a.tups c xs q)
 frzs:=λc ob xs q=>b.frzs c ob xs (a.frzs c ob xs q)
 tbls:=λc ps q=>by
  obtain⟨m1,e1⟩:=a.tbls c ps q;obtain⟨m2,e2⟩:=b.tbls c _ e1;exact⟨m1++m2,by rw[e2,Array.append_assoc]⟩
theorem Un.kept(k:∀b u,h.get? b=some u->h'.get? b=some u):Un fs ex H H h h' :=
 ⟨λb ob q _ _ _=>k b ob q,λb ob q _ _ _=>⟨ob.slots,k b ob q⟩,λ_ _ _ n _=>n,λb ob q _=>⟨ob,k b ob q⟩,λ_ _ q=>q,λ_ _ _ q=>q,λ_ ps q=>⟨#[],by rw[q];simp⟩⟩
theorem Un.refl:Un fs ex H H h h:=Un.kept λ_ _ q=>q
theorem Un.laid(k:∀b u,h.get? b=some u->h'.get? b=some u)(hp:h.objs.size<=a)(hn:H a=none):Un fs ex H (upd H a o) h h' where
 keep:=λb u q _ _ _=>k b u q
 slot:=λb u q _ _ _=>⟨u.slots,k b u q⟩
 free:=λb u q n _=>by rw[aG (zC (zL (zo q) hp))];exact n
 there:=λb u q _=>⟨u,k b u q⟩
 tups:=λb xs q=>by rw[aG (bV q hn)];exact q
 frzs:=λb u xs q=>by rw[aG (bV q hn)];exact q
 tbls:=λb ps q=>⟨#[],by rw[aG (bV q hn),q];simp⟩
theorem Un.write(mu:Mut (H x))(he:e=x\/H e=some (.own x))(k:∀b u,b≠e->h.get? b=some u->h'.get? b=some u)(heo:∃u,h'.get? e=some u):Un fs ex H (upd H x o) h h':=by
 have hx:∀b,H b=none->b≠x:=λb n z=>by subst z;rw[n] at mu;exact mu
 have hb:∀b,H b=none->b≠e:=λb n z=>by
  subst z
  rcases he with r | r
  ·exact hx b n r
  ·rw[n] at r;cases r
 have hm:∀b u,H b=some u->¬Mut (some u)->b≠x:=λb u q nm z=>by subst z;rw[q] at mu;exact nm mu
 refine⟨λb u q n _ _=>k b u (hb b n) q,λb u q n _ _=>⟨u.slots,k b u (hb b n) q⟩,λb u q n _=>by rw[aG (hx b n)];exact n,λb u q _=>?_,
  λb xs q=>by rw[aG (hm b _ q λz=>z)];exact q,λb u xs q=>by rw[aG (hm b _ q λz=>z)];exact q,λb ps q=>⟨#[],by rw[aG (hm b _ q λz=>z),q];simp⟩⟩
 by_cases hbe:b=e
 ·subst hbe;exact heo
 ·exact⟨u,k b u hbe q⟩
theorem Un.mono(u:Un fs ex H H1 h h1)(hs:∀b∈fs,b∈fs')(hx:∀b∈ex,b∈ex'):Un fs' ex' H H1 h h1 :=
 ⟨λb ob q n hb he=>u.keep b ob q n (λz=>hb (hs b z)) λz=>he (hx b z),λ_ _ q n _ he=>u.any q n λz=>he (hx _ z),λb ob q n he=>u.free b ob q n λz=>he (hx b z),λb ob q he=>u.there b ob q λz=>he (hx b z),u.tups,u.frzs,u.tbls⟩
end
def trk(h:Heap)(H:Hp):List Addr:=(List.range h.objs.size).filter λa=>(H a).isSome
def fZ(h:Heap)(H:Hp):Heap:=PySem.W.hideAll h (trk h H)
theorem DN(h:Heap)(H:Hp):(fZ h H).objs.size=h.objs.size:=PySem.W.hideAll_size _ _
theorem DP{h:Heap}{H:Hp}{b:Addr}{o:Obj}(e:h.get? b=some o)(n:H b=none):(fZ h H).get? b=some o :=
 PySem.W.hideAll_get _ e λhm=>by
  have q:(H b).isSome=true:=(List.mem_filter.mp hm).2;rw[n] at q;simp at q
theorem DQ{h:Heap}{H:Hp}{b:Addr}{o:Obj}(e:(fZ h H).get? b=some o):h.get? b=some o/\H b=none:=by
 have e':h.get? b=some o:=PySem.W.of_hideAll (trk h H) e;refine⟨e',?_⟩
 cases q:H b with
 |none=>rfl
 |some x =>
  have hm:b∈trk h H:=List.mem_filter.mpr ⟨List.mem_range.mpr (zo e'),by simp[q]⟩;have z:(fZ h H).get? b=none:=PySem.W.hideAll_none (trk h H) hm;rw[z] at e;cases e
def MP(g h:Heap)(L:Addr):List (Addr×Obj):=(List.range h.objs.size).filterMap λa=>if a=L\/(g.get? a).isSome=true then none else(h.get? a).map λo=>(a,o)
def rest(g h:Heap)(L d:Addr):List (Addr×Obj):=(MP g h L).filter λp=>decide (p.1≠d)
structure Mod(K:PySem.W.Frag)(mg:Str->Option Value)(base:Heap):Prop where
 kin:K.In base
 glob:base.Ns mainGlobals mg
 blt:∃mb,base.Ns builtinsNs mb/\∀x:Str,x≠"__name__"->mb x=bootBuiltins x
 nolimit:base.NoLimit
structure Cx where
 prog:Program
 w:World
 K:PySem.W.Frag
 mg:Str->Option Value
 base:Heap
 A:Around
 N:List Str
 s₀:Shared
 H₀:Hp
 env:Env
 outer:List Env
 stack:List Env
 ex:List Addr
 fn:Str->Bool
 calm:Bool
 pn:List (Addr×Obj)
 xe:Value->Shared->Prop
def frs(l:List Env):List Addr:=l.filterMap (·.frame)
abbrev Cx.fs(X:Cx):List Addr:=frs X.outer
def Vis(sc:Scope)(x:Str):Prop:=sc.names.lookup x=some .local\/sc.names.lookup x=some .cell\/sc.names.lookup x=some .free
def Loc(sc:Scope)(x:Str):Prop:=sc.names.lookup x=some .local\/sc.names.lookup x=some .cell
def Look(env:Env)(h:Heap)(m:Str->Option Value)(x:Str)(u:Value):Prop :=
 (env.kindOf x=some .local/\m x=some u)\/((env.kindOf x=some .cell\/env.kindOf x=some .free)/\∃c,env.cells.lookup x=some c/\h.IsCell c (some u))
structure Cx.Ok(X:Cx):Prop where
 mod:Mod X.K X.mg X.base
 kind:X.env.scope.kind=.function
 glob:X.env.globals=mainGlobals
 blt:X.env.builtins=builtinsNs
 above:X.s₀.heap.objs.size<=X.env.locals
 inj:∀x y c,X.env.cells.lookup x=some c->X.env.cells.lookup y=some c->x=y
 has:∀x,(X.env.kindOf x=some .cell\/X.env.kindOf x=some .free)->∃c,X.env.cells.lookup x=some c
 cab:∀x c,X.fn x=true->X.env.cells.lookup x=some c->X.s₀.heap.objs.size<=c
 hd:X.calm=true->X.A.handled=none
 frames:X.A.frames=some X.stack
 stk:X.stack=X.outer\/(X.stack=X.env::X.outer/\X.env.frame=some X.env.locals)
 exf:∀b∈X.ex,b≠X.env.locals/\∀x c,X.env.cells.lookup x=some c->c≠b
 bs:∀b o,X.base.get? b=some o->X.s₀.heap.get? b=some o/\X.H₀ b=none
 bsz:X.base.objs.size<=X.s₀.heap.objs.size
 noex:∀b o,X.base.get? b=some o->b∉X.ex
 exfs:∀b∈X.ex,b∉X.fs
 funs:X.s₀.heap.FunFrames X.base X.outer
 frf:∀b∈X.fs,X.H₀ b=none
structure Inv(X:Cx)(pins:List (Addr×Obj))(σ:List (Option V))(H:Hp)(s:Shared):Prop where
 ok:X.Ok
 os:s.os=X.s₀.os
 bare:AllBare s.gens
 base:Un X.fs X.ex X.H₀ H X.s₀.heap s.heap
 loc:∃m,s.heap.Ns X.env.locals m/\∀(i:Nat) (x:Str) (v:V),X.N[i]?=some x->σ[i]?=some (some v)->Vis X.env.scope x->∃u,RelV v u/\Look X.env s.heap m x u
 cell:∀x c,X.env.cells.lookup x=some c->∃v,s.heap.IsCell c v
 free:H X.env.locals=none
 freeC:∀x c,X.env.cells.lookup x=some c->H c=none
 pin:∀p∈X.pn++pins,s.heap.get? p.1=some p.2/\H p.1=none/\p.1≠X.env.locals/\p.1∉X.fs/\∀v,p.2.data≠.cell v
 hok:HOk X.prog X.w H s.heap
 len:σ.length=X.N.length
section
variable {X:Cx}{pins:List (Addr×Obj)}{σ:List (Option V)}{H H':Hp}{s:Shared}{h':Heap}
theorem Cx.Ok.nofr(ok:X.Ok){b:Addr}{o:Obj}(e:X.base.get? b=some o):b∉X.fs:=λhb=>by
 have:=(ok.funs.mem hb).1
 rw[e] at this;cases this
theorem Inv.bs(I:Inv X pins σ H s):∀b o,X.base.get? b=some o->s.heap.get? b=some o/\H b=none:=λb o e =>
 ⟨I.base.keep b o (I.ok.bs b o e).1 (I.ok.bs b o e).2 (I.ok.nofr e) (I.ok.noex b o e),I.base.free b o (I.ok.bs b o e).1 (I.ok.bs b o e).2 (I.ok.noex b o e)⟩
theorem Inv.bk(I:Inv X pins σ H s):∀b o,X.base.get? b=some o->s.heap.get? b=some o:=λb o e=>(I.bs b o e).1
theorem Inv.mod(I:Inv X pins σ H s):Mod X.K X.mg X.base:=I.ok.mod
theorem Inv.kIn(I:Inv X pins σ H s):X.K.In s.heap:=I.ok.mod.kin.keeps I.bk
theorem Inv.nolimit(I:Inv X pins σ H s):s.heap.NoLimit:=I.ok.mod.nolimit.keeps I.bk
theorem Inv.fr(I:Inv X pins σ H s):∃m,Fr X.base X.env.locals s.heap m :=
 let ⟨m,hn,_⟩:=I.loc
 ⟨m,hn,I.bk,zH I.ok.bsz I.ok.above⟩
theorem Inv.lt(I:Inv X pins σ H s):X.env.locals<s.heap.objs.size:=let ⟨_,hn,_⟩:=I.loc;hn.lt
theorem Inv.sz(I:Inv X pins σ H s):X.s₀.heap.objs.size<=s.heap.objs.size:=zH I.ok.above (Nat.le_of_lt I.lt)
theorem Inv.nofs(I:Inv X pins σ H s){a:Addr}(h:s.heap.objs.size<=a):a∉X.fs:=λhb=>by
 obtain⟨_,o,ho,_⟩:=I.ok.funs.mem hb;exact absurd (zL (zo ho) (zH I.sz h)) (jd _)
theorem Inv.cne(I:Inv X pins σ H s):∀x c,X.env.cells.lookup x=some c->c≠X.env.locals:=λx c e z=>by
 obtain⟨v,o,ho,hd⟩:=I.cell x c e;obtain⟨m,⟨o',es,ep,ho',hd',_⟩,_⟩:=I.loc;rw[z,ho'] at ho;cases ho;rw[hd'] at hd;cases hd
theorem Inv.funs(I:Inv X pins σ H s):s.heap.FunFrames X.base X.outer:=by
 have all:∀(l:List Env),(∀b∈frs l,b∈X.fs)->X.s₀.heap.FunFrames X.base l->s.heap.FunFrames X.base l:=by
  intro l
  induction l with
  |nil=>intro _ _;trivial
  |cons env r ih =>
   intro hs hl;obtain⟨hk,⟨L,o,hf,hn,ho,hd⟩,hr⟩:=hl;have hL:L∈X.fs:=hs L (by unfold frs;rw[List.filterMap_cons,hf];exact zr)
   obtain⟨sl,e⟩:=I.base.slot L o ho (I.ok.frf L hL) hL λz=>I.ok.exfs L z hL
   exact⟨hk,⟨L,_,hf,hn,e,hd⟩,ih (λb hb=>hs b (by unfold frs;rw[List.filterMap_cons,hf];exact zD _ hb)) hr⟩
 exact all X.outer (λ_ hb=>hb) I.ok.funs
theorem Inv.stack(I:Inv X pins σ H s):s.heap.FunFrames X.base X.stack:=by
 rcases I.ok.stk with e | ⟨e,hf⟩
 ·rw[e];exact I.funs
 ·rw[e];obtain⟨m,hn,_⟩:=I.loc;refine .cons (by rw[I.ok.kind];decide) hf hn ?_ I.funs;exact Heap.get?_none_of_le (zH I.ok.bsz I.ok.above)
theorem Inv.stkSub(I:Inv X pins σ H s):∀b∈frs X.stack,b∈X.env.locals::X.fs:=λb hb=>by
 rcases I.ok.stk with e | ⟨e,hf⟩
 ·rw[e] at hb;exact zD _ hb
 ·rw[e] at hb;unfold frs at hb;rw[List.filterMap_cons,hf] at hb;exact hb
theorem Inv.stkFree(I:Inv X pins σ H s):∀b∈frs X.stack,H b=none:=λb hb=>by
 rcases zF.mp (I.stkSub b hb) with e | hb
 ·rw[e];exact I.free
 ·obtain⟨_,o,ho,_⟩:=I.ok.funs.mem hb
  exact I.base.free b o ho (I.ok.frf b hb) λz=>I.ok.exfs b z hb
theorem Inv.step{g':Array GenState}{t':Nat}{d':Drawn}{ch:List Addr}(I:Inv X pins σ H s)
  (hch:∀b∈ch,(b∈X.ex\/X.s₀.heap.objs.size<=b)/\b≠X.env.locals/\(∀x c,X.env.cells.lookup x=some c->c≠b)/\∀p∈X.pn++pins,p.1≠b)
  (keep:∀b o,b≠X.env.locals->b∉X.fs->b∉ch->s.heap.get? b=some o->H b=none->h'.get? b=some o)
  (slot:∀b o,b≠X.env.locals->b∈X.fs->b∉ch->s.heap.get? b=some o->H b=none->∃sl,h'.get? b=some {o with slots:=sl}) (free:∀b o,b∉ch->s.heap.get? b=some o->H b=none->H' b=none)
  (there:∀b o,b∉ch->s.heap.get? b=some o->∃o',h'.get? b=some o')
  (tups:∀b xs,H b=some (.tup xs)->H' b=some (.tup xs)) (frzs:∀b o u,H b=some (.frz o u)->H' b=some (.frz o u)) (tbls:∀b ps,H b=some (.tbl ps)->∃more,H' b=some (.tbl (ps++more)))
  (ns:∀m,s.heap.Ns X.env.locals m->h'.Ns X.env.locals m) (hok:HOk X.prog X.w H' h') (hg:AllBare g'):
  Inv X pins σ H' {s with heap:=h',gens:=g',drawn:=d',toks:=t'}:=by
 have neL:∀b o,X.s₀.heap.get? b=some o->b≠X.env.locals:=λb o e=>zC (zL (zo e) I.ok.above)
 have neC:∀b o,X.s₀.heap.get? b=some o->b∉X.ex->b∉ch:=λb o e hx hb=>by
  rcases(hch b hb).1 with z | z
  ·exact hx z
  ·exact absurd (zL (zo e) z) (jd _)
 have cellK:∀x c,X.env.cells.lookup x=some c->∀v,s.heap.IsCell c v->h'.IsCell c v:=λx c e v ⟨o,ho,hd⟩=>by
  have nch:c∉ch:=λz=>(hch c z).2.2.1 x c e rfl
  by_cases hc:c∈X.fs
  ·obtain⟨sl,q⟩:=slot c o (I.cne x c e) hc nch ho (I.freeC x c e);exact⟨_,q,hd⟩
  ·exact⟨o,keep c o (I.cne x c e) hc nch ho (I.freeC x c e),hd⟩
 refine⟨I.ok,I.os,hg,⟨λb o e n hb hx=>?_,λb o e n hb hx=>?_,λb o e n hx=>?_,λb o e hx=>?_,λb xs e=>tups b xs (I.base.tups b xs e),λb o xs e=>frzs b o xs (I.base.frzs b o xs e),λb ps e=>?_⟩,?_,λx c e=>?_,?_,λx c e=>?_,λp hp=>?_,hok,I.len⟩
 ·exact keep b o (neL b o e) hb (neC b o e hx) (I.base.keep b o e n hb hx) (I.base.free b o e n hx)
 ·obtain⟨sl,e1⟩:=I.base.slot b o e n hb hx;obtain⟨sl',e2⟩:=slot b _ (neL b o e) hb (neC b o e hx) e1 (I.base.free b o e n hx);exact⟨sl',e2⟩
 ·obtain⟨o',e1⟩:=I.base.there b o e hx;exact free b o' (neC b o e hx) e1 (I.base.free b o e n hx)
 ·obtain⟨o',e1⟩:=I.base.there b o e hx;exact there b o' (neC b o e hx) e1
 ·obtain⟨m1,e1⟩:=I.base.tbls b ps e;obtain⟨m2,e2⟩:=tbls b _ e1;exact⟨m1++m2,by rw[e2,Array.append_assoc]⟩
 ·obtain⟨m,hn,hl⟩:=I.loc;refine⟨m,ns m hn,λi x v e1 e2 e3=>?_⟩;obtain⟨u,r,l⟩:=hl i x v e1 e2 e3;refine⟨u,r,?_⟩
  rcases l with l | ⟨k,c,e,z⟩
  ·exact .inl l
  ·exact .inr ⟨k,c,e,cellK x c e _ z⟩
 ·obtain⟨v,z⟩:=I.cell x c e;exact⟨v,cellK x c e v z⟩
 ·obtain⟨m,⟨o,_,_,ho,_⟩,_⟩:=I.loc;exact free _ o (λz=>(hch _ z).2.1 rfl) ho I.free
 ·obtain⟨v,o,ho,hd⟩:=I.cell x c e;exact free c o (λz=>(hch c z).2.2.1 x c e rfl) ho (I.freeC x c e)
 ·obtain⟨e,n,ne,nf,d⟩:=I.pin p hp
  have nch:p.1∉ch:=λz=>(hch p.1 z).2.2.2 p hp rfl
  exact⟨keep p.1 p.2 ne nf nch e n,free p.1 p.2 nch e n,ne,nf,d⟩
theorem Inv.un{t':Nat}(I:Inv X pins σ H s)(u:Un X.fs [] H H' s.heap h')(hok:HOk X.prog X.w H' h'):Inv X pins σ H' {s with heap:=h',toks:=t'}:=by
 obtain⟨m,⟨o,es,ep,ho,r⟩,_⟩:=id I.loc;obtain⟨sl,hL⟩:=u.any ho I.free (by simp)
 exact I.step (g':=s.gens) (d':=s.drawn) (ch:=[]) (λ_ z=>nomatch z) (λb o _ hb _ e n=>u.keep b o e n hb (by simp)) (λb o _ hb _ e n=>u.slot b o e n hb (by simp)) (λb o _ e n=>u.free b o e n (by simp)) (λb o _ e=>u.there b o e (by simp)) u.tups u.frzs u.tbls (λm' hm=>by
  obtain⟨o',es',ep',ho',r'⟩:=hm;rw[ho] at ho';cases ho'
  exact⟨_,es',ep',hL,r'⟩) hok I.bare
theorem Inv.call{g':Array GenState}{t':Nat}{d':Drawn}{ch:List Addr}(I:Inv X pins σ H s)(u:Un (frs X.stack) ch H H' s.heap h')(hok:HOk X.prog X.w H' h')(hg:AllBare g')
  (hch:∀b∈ch,(b∈X.ex\/X.s₀.heap.objs.size<=b)/\b≠X.env.locals/\(∀x c,X.env.cells.lookup x=some c->c≠b)/\∀p∈X.pn++pins,p.1≠b):
  Inv X pins σ H' {s with heap:=h',gens:=g',drawn:=d',toks:=t'}:=by
 obtain⟨m,⟨o,es,ep,ho,r⟩,_⟩:=id I.loc
 obtain⟨sl,hL⟩:=u.any ho I.free λz=>(hch _ z).2.1 rfl
 exact I.step (ch:=ch) hch (λb o hL hb hc e n=>u.keep b o e n (λz=>(zF.mp (I.stkSub b z)).elim hL hb) hc) (λb o _ _ hc e n=>u.any e n hc) (λb o hc e n=>u.free b o e n hc) (λb o hc e=>u.there b o e hc) u.tups u.frzs u.tbls (λm' hm=>by
  obtain⟨o',es',ep',ho',r'⟩:=hm;rw[ho] at ho';cases ho'
  exact⟨_,es',ep',hL,r'⟩) hok hg
theorem Inv.turned{t':Nat}{it:Addr}(I:Inv X pins σ H s)(k:∀b o,b≠it->s.heap.get? b=some o->h'.get? b=some o)(hn:H it=none)(hL:it≠X.env.locals)
  (h1:it∈X.ex\/X.s₀.heap.objs.size<=it) (h2:∀x c,X.env.cells.lookup x=some c->c≠it) (h3:∀p∈X.pn++pins,p.1≠it):Inv X pins σ H {s with heap:=h',toks:=t'}:=by
 have nit:∀b u,H b=some u->b≠it:=λb u e z=>by rw[z,hn] at e;cases e
 refine I.step (g':=s.gens) (d':=s.drawn) (ch:=[it]) (λb hb=>?_) (λb o _ _ hc e _=>k b o (λz=>hc (by simp[z])) e) (λb o _ _ hc e _=>⟨o.slots,k b o (λz=>hc (by simp[z])) e⟩) (λ_ _ _ _ n=>n)
  (λb o hc e=>⟨o,k b o (λz=>hc (by simp[z])) e⟩) (λ_ _ e=>e) (λ_ _ _ e=>e) (λb ps e=>⟨#[],by rw[e];simp⟩) (λm hm=>?_) (λb u e=>?_) I.bare
 ·have e:b=it:=by simpa using hb
  subst e;exact⟨h1,hL,h2,h3⟩
 ·obtain⟨o,es,ep,ho,r⟩:=hm;exact⟨o,es,ep,k _ o (Ne.symm hL) ho,r⟩
 ·refine(I.hok b u e).stay (λc v hc q=>k c v ?_ q) (λ_ q=>q) λ_ _ q=>q
  rcases hc with z | z
  ·rw[z];exact nit b u e
  ·exact nit c _ z
theorem Inv.tok(I:Inv X pins σ H s)(t:Nat):Inv X pins σ H {s with toks:=t}:=I.un (h':=s.heap) (t':=t) Un.refl I.hok
theorem Inv.kept{t':Nat}(I:Inv X pins σ H s)(k:∀b u,s.heap.get? b=some u->h'.get? b=some u):Inv X pins σ H {s with heap:=h',toks:=t'}:=I.un (Un.kept k) (I.hok.kept k)
theorem Inv.laid{a:Addr}{o:HO}{t':Nat}(I:Inv X pins σ H s)(k:∀b u,s.heap.get? b=some u->h'.get? b=some u)(hp:s.heap.objs.size<=a)(new:bU X.prog X.w (upd H a o) h' a o):
  Inv X pins σ (upd H a o) {s with heap:=h',toks:=t'}:=I.un (Un.laid k hp (I.hok.fresh hp)) (I.hok.laid k hp new)
theorem Inv.write{x e:Addr}{o:HO}{t':Nat}(I:Inv X pins σ H s)(mu:Mut (H x))(he:e=x\/H e=some (.own x))(k:∀b u,b≠e->s.heap.get? b=some u->h'.get? b=some u)(heo:∃u,h'.get? e=some u)
  (new:bU X.prog X.w (upd H x o) h' x o):Inv X pins σ (upd H x o) {s with heap:=h',toks:=t'}:=I.un (Un.write mu he k heo) (I.hok.write mu he k heo new)
theorem Inv.pins_of{pins':List (Addr×Obj)}(I:Inv X pins σ H s)(h:∀p∈pins',s.heap.get? p.1=some p.2/\H p.1=none/\p.1≠X.env.locals/\p.1∉X.fs/\∀v,p.2.data≠.cell v):Inv X pins' σ H s :=
 ⟨I.ok,I.os,I.bare,I.base,I.loc,I.cell,I.free,I.freeC,λp hp=>(zA.mp hp).elim (λz=>I.pin p (jv _ z)) (h p),I.hok,I.len⟩
theorem DR{N:List Str}(hN:N.Nodup){i j:Nat}{x:Str}(a:N[i]?=some x)(b:N[j]?=some x):i=j:=by
 obtain⟨h1,e1⟩:=zl.mp a;obtain⟨h2,e2⟩:=zl.mp b;exact(List.getElem_inj hN).mp (e1.trans e2.symm)
theorem MT{M:Model}{A:Around}{E:Value->Shared->Prop}{i:Nat}{x:Str}{v:V}{u:Value}{Q:Unit->Shared->Prop}(I:Inv X pins σ H s)(hN:X.N.Nodup)(hi:X.N[i]?=some x)(hx:Loc X.env.scope x)(r:RelV v u)
  (h:∀s',Inv X pins (σ.set i (some v)) H s'->(∃a,Heap.SameBut a s.heap s'.heap/\(a=X.env.locals\/X.env.cells.lookup x=some a))->Q () s') (hf:X.fn x=true\/X.env.scope.names.lookup x=some .local:=by first | exact .inl rfl | exact .inr rfl | assumption):wpAny M A (storeName X.env x u) Q E s:=by
 obtain⟨m,hn,hl⟩:=id I.loc
 have hcls:(X.env.scope.kind == .class || (X.env.scope.kind == .module&&X.env.locals != X.env.globals))=false:=by rw[I.ok.kind];rfl
 have hiσ:i<σ.length:=by rw[I.len];exact(zl.mp hi).1
 have cne:=I.cne
 have tracked:∀{a:Addr}{h':Heap},(∃o,s.heap.get? a=some o/\H a=none)->Heap.SameBut a s.heap h'->HOk X.prog X.w H h':=λ{a h'} ha hs b ob e=>by
  obtain⟨_,_,hfree⟩:=ha
  refine(I.hok b ob e).stay (λc w' hc q=>(hs.2 c ?_).trans q) (λ_ q=>q) λ_ _ q=>q
  rintro rfl
  rcases hc with rfl | hc
  ·rw[hfree] at e;cases e
  ·rw[hfree] at hc;cases hc
 rcases hx with hk | hk
 ·refine wpAny_storeName_local hk hn (λh' hn' hs=>?_) hcls;obtain⟨oL,_,_,hoL,_⟩:=id hn;refine h _ ⟨I.ok,I.os,I.bare,⟨λb o e n hb hx=>?_,λb o e n hb hx=>?_,I.base.free,λb o e hx=>?_,I.base.tups,I.base.frzs,I.base.tbls⟩,⟨_,hn',λj y v' e1 e2 e3=>?_⟩,λy c e=>?_,I.free,I.freeC,λp hp=>?_,tracked ⟨oL,hoL,I.free⟩ hs,by simpa using I.len⟩ ⟨_,hs,.inl rfl⟩
  ·exact(hs.2 b (zC (zL (zo e) I.ok.above))).trans (I.base.keep b o e n hb hx)
  ·obtain⟨sl,e1⟩:=I.base.slot b o e n hb hx;exact⟨sl,(hs.2 b (zC (zL (zo e) I.ok.above))).trans e1⟩
  ·obtain⟨o',e1⟩:=I.base.there b o e hx;exact⟨o',(hs.2 b (zC (zL (zo e) I.ok.above))).trans e1⟩
  ·by_cases hj:j=i
   ·subst hj;rw[hi] at e1;cases e1;rw[zS hiσ] at e2;cases e2;exact⟨u,r,.inl ⟨hk,by simp⟩⟩
   ·rw[zm (Ne.symm hj)] at e2;obtain⟨u',r',q⟩:=hl j y v' e1 e2 e3;refine⟨u',r',?_⟩
    rcases q with⟨k,e⟩ | ⟨k,c,e,z⟩
    ·refine .inl ⟨k,?_⟩
     have:y≠x:=λe=>hj (DR hN e1 (e ▸ hi))
     simp[this,e]
    ·exact .inr ⟨k,c,e,z.sameBut hs (cne y c e)⟩
  ·obtain⟨w',z⟩:=I.cell y c e;exact⟨w',z.sameBut hs (cne y c e)⟩
  ·obtain⟨e,n,ne,nf,d⟩:=I.pin p hp;exact⟨(hs.2 p.1 ne).trans e,n,ne,nf,d⟩
 ·have hfn:X.fn x=true:=by
   rcases hf with z | z
   ·exact z
   ·rw[z] at hk;cases hk
  obtain⟨c,hc⟩:=I.ok.has x (.inl hk);obtain⟨w',z⟩:=I.cell x c hc;refine wpAny_storeName_cell I.ok.kind hk hc z (λh' hc' hs=>?_);obtain⟨oc,hoc,hocd⟩:=id z;refine h {s with heap:=h'} ⟨I.ok,I.os,I.bare,⟨λb o e n hb hx=>?_,λb o e n hb hx=>?_,I.base.free,λb o e hx=>?_,I.base.tups,I.base.frzs,I.base.tbls⟩,⟨m,hn.sameBut hs (Ne.symm (cne x c hc)),λj y v' e1 e2 e3=>?_⟩,λy c' e=>?_,I.free,I.freeC,λp hp=>?_,tracked ⟨oc,hoc,I.freeC x c hc⟩ hs,by simpa using I.len⟩ ⟨c,hs,.inr hc⟩
  ·exact(hs.2 b (zC (zL (zo e) (I.ok.cab x c hfn hc)))).trans (I.base.keep b o e n hb hx)
  ·obtain⟨sl,e1⟩:=I.base.slot b o e n hb hx;exact⟨sl,(hs.2 b (zC (zL (zo e) (I.ok.cab x c hfn hc)))).trans e1⟩
  ·obtain⟨o',e1⟩:=I.base.there b o e hx;exact⟨o',(hs.2 b (zC (zL (zo e) (I.ok.cab x c hfn hc)))).trans e1⟩
  ·by_cases hj:j=i
   ·subst hj;rw[hi] at e1;cases e1;rw[zS hiσ] at e2;cases e2;exact⟨u,r,.inr ⟨.inl hk,c,hc,hc'⟩⟩
   ·rw[zm (Ne.symm hj)] at e2;obtain⟨u',r',q⟩:=hl j y v' e1 e2 e3;refine⟨u',r',?_⟩
    rcases q with q | ⟨k,c',e,z'⟩
    ·exact .inl q
    ·refine .inr ⟨k,c',e,z'.sameBut hs ?_⟩;rintro rfl;exact hj (DR hN e1 (I.ok.inj _ _ _ e hc ▸ hi))
  ·by_cases hcc:c'=c
   ·subst hcc;exact⟨_,hc'⟩
   ·obtain⟨w2,z2⟩:=I.cell y c' e;exact⟨w2,z2.sameBut hs hcc⟩
  ·obtain⟨e,n,ne,nf,d⟩:=I.pin p hp;refine⟨(hs.2 p.1 ?_).trans e,n,ne,nf,d⟩;intro q;rw[q,hoc] at e;have q':oc=p.2:=zE e;exact d w' (by rw[<-q'];exact hocd)
theorem wG{M:Model}{A:Around}{E:Value->Shared->Prop}{i:Nat}{x:Str}{v:V}{u:Value}{Q:Unit->Shared->Prop}(I:Inv X pins σ H s)(hN:X.N.Nodup)(hi:X.N[i]?=some x)(hx:Loc X.env.scope x)(r:RelV v u)
  (h:∀s',Inv X pins (σ.set i (some v)) H s'->Q () s') (hf:X.fn x=true\/X.env.scope.names.lookup x=some .local:=by first | exact .inl rfl | exact .inr rfl | assumption):wpAny M A (storeName X.env x u) Q E s :=
 MT I hN hi hx r (λs' I' _=>h s' I') hf
theorem Inv.call'{s':Shared}{ch:List Addr}(I:Inv X pins σ H s)(ho:s'.os=s.os)(u:Un (frs X.stack) ch H H' s.heap s'.heap)(hok:HOk X.prog X.w H' s'.heap)(hg:AllBare s'.gens)
  (hch:∀b∈ch,(b∈X.ex\/X.s₀.heap.objs.size<=b)/\b≠X.env.locals/\(∀x c,X.env.cells.lookup x=some c->c≠b)/\∀p∈X.pn++pins,p.1≠b):Inv X pins σ H' s':=by
 obtain⟨h',g',d',t',o'⟩:=s';have e:o'=s.os:=ho;subst e;exact I.call (g':=g') (t':=t') (d':=d') u hok hg hch
end
abbrev XK:=Value->Option Addr->Hp->Prop
abbrev St:=List (Option V)
abbrev VK:=V->Hp->Prop
abbrev TE:=St->Hp->VK->Prop
abbrev TT:=St->Hp->(Bool->Hp->Prop)->Prop
abbrev TA:=St->Hp->(List V->Hp->Prop)->Prop
structure Ends where
 nx:St->Hp->Prop
 rt:VK
 bk:St->Hp->Prop:=λ_ _=>False
 ct:St->Hp->Prop:=λ_ _=>False
abbrev TS:=Ends->St->Hp->Prop
def EP(X:Cx)(pins:List (Addr×Obj))(σ:St)(Q:VK)(u:Value)(s':Shared):Prop:=∃v H',Inv X pins σ H' s'/\RelV v u/\Q v H'
def TP(X:Cx)(pins:List (Addr×Obj))(σ:St)(Q:Bool->Hp->Prop)(b:Bool)(s':Shared):Prop:=∃H',Inv X pins σ H' s'/\Q b H'
def AP(X:Cx)(pins:List (Addr×Obj))(σ:St)(Q:List V->Hp->Prop)(us:List Value)(s':Shared):Prop:=∃vs H',Inv X pins σ H' s'/\aP vs us/\Q vs H'
def SP(X:Cx)(pins:List (Addr×Obj))(D:Ends)(f:Flow)(s':Shared):Prop :=
 match f with
 | .next=>∃σ' H',Inv X pins σ' H' s'/\D.nx σ' H'
 | .brk=>∃σ' H',Inv X pins σ' H' s'/\D.bk σ' H'
 | .cont=>∃σ' H',Inv X pins σ' H' s'/\D.ct σ' H'
 | .ret u=>∃v σ' H',Inv X pins σ' H' s'/\RelV v u/\D.rt v H'
def PE(X:Cx)(e:Expr)(t:TE):Prop :=
 ∀(pins:List (Addr×Obj)) (s:Shared) (σ:St) (H:Hp) (Q:VK),Inv X pins σ H s->t σ H Q->wpAny (model X.prog X.w) X.A (eval e X.env) (EP X pins σ Q) X.xe s
def PT(X:Cx)(e:Expr)(t:TT):Prop :=
 ∀(pins:List (Addr×Obj)) (s:Shared) (σ:St) (H:Hp) (Q:Bool->Hp->Prop),Inv X pins σ H s->t σ H Q->wpAny (model X.prog X.w) X.A (isTrue e X.env (eval e X.env)) (TP X pins σ Q) X.xe s
def PW(X:Cx)(e:Expr)(t:TT):Prop :=
 ∀(whole:Sem Value) (pins:List (Addr×Obj)) (s:Shared) (σ:St) (H:Hp) (Q:Bool->Hp->Prop),Inv X pins σ H s->t σ H Q->wpAny (model X.prog X.w) X.A (isTrue e X.env whole) (TP X pins σ Q) X.xe s
theorem PW.pt{X:Cx}{e:Expr}{t:TT}(h:PW X e t):PT X e t:=h _
def PA(X:Cx)(es:List Expr)(t:TA):Prop :=
 ∀(pos:Pos) (pins:List (Addr×Obj)) (s:Shared) (σ:St) (H:Hp) (Q:List V->Hp->Prop),Inv X pins σ H s->t σ H Q->wpAny (model X.prog X.w) X.A (spliced (backTo pos (starEach es X.env))) (AP X pins σ Q) X.xe s
def PS(X:Cx)(st:Stmt)(t:TS):Prop :=
 ∀(pins:List (Addr×Obj)) (s:Shared) (σ:St) (H:Hp) (D:Ends),Inv X pins σ H s->t D σ H->wpAny (model X.prog X.w) X.A (exec st X.env) (SP X pins D) X.xe s
def PSs(X:Cx)(st:List Stmt)(t:TS):Prop :=
 ∀(pins:List (Addr×Obj)) (s:Shared) (σ:St) (H:Hp) (D:Ends),Inv X pins σ H s->t D σ H->wpAny (model X.prog X.w) X.A (execs st X.env) (SP X pins D) X.xe s
theorem thn{α:Type}{t:Sem α}{Q Q':α->Shared->Prop}{M:Model}{A:Around}{E:Value->Shared->Prop}{s:Shared}(h:wpAny M A t Q E s)(hQ:∀a s,Q a s->Q' a s):wpAny M A t Q' E s:=zT h hQ λ_ _ x=>x
section
variable {X:Cx}
def M3(i:Nat):TE:=λσ H Q=>∃v,σ[i]?=some (some v)/\Q v H
def tC(v:V):TE:=λ_ H Q=>Q v H
theorem lC{i:Nat}{x:Str}{pos:Pos}(hN:X.N[i]?=some x)(hv:Vis X.env.scope x)(hd:(x == ("__debug__":Str))=false:=by decide)(hcd:(x == ("__classdict__":Str))=false:=by decide):PE X (.Name x pos) (M3 i):=by
 intro pins s σ H Q I h;obtain⟨v,e,h⟩:=h;obtain⟨m,hn,hl⟩:=I.loc;obtain⟨u,r,l⟩:=hl i x v hN e hv;have fin:EP X pins σ Q u s:=⟨v,H,I,r,h⟩
 rcases l with⟨hk,hm⟩ | ⟨hk,c,hc,hcell⟩
 ·exact wpAny_Name (wpAny_loadName_local I.ok.kind hk hn hm fin) hd
 ·rcases hk with hk | hk
  ·exact wpAny_Name (wpAny_loadName_cell I.ok.kind hk hc hcell fin) hd
  ·exact wpAny_Name (wpAny_loadName_free I.ok.kind hk hc hcell fin hcd) hd
theorem M4{i j pos}:PE X (.Constant (.int i) j pos) (tC (.int i)):=λ_ _ _ H _ I h=>wpAny_Constant_int ⟨.int i,H,I.tok _,⟨_,rfl⟩,h⟩
theorem M5{b j pos}:PE X (.Constant (.bool b) j pos) (tC (.bl b)):=λ_ _ _ H _ I h=>Constant_bool ⟨.bl b,H,I,rfl,h⟩
theorem M6{j pos}:PE X (.Constant .none j pos) (tC .non):=λ_ _ _ H _ I h=>Constant_none ⟨.non,H,I,rfl,h⟩
theorem M7{x j pos}:PE X (.Constant (.str x) j pos) (tC (.str x)):=λ_ _ _ H _ I h=>Calls.Constant_str ⟨.str x,H,I.tok _,⟨_,rfl⟩,h⟩
def Gl(X:Cx)(x:Str):Prop:=X.env.kindOf x=some .globalImplicit
theorem wH{E:Value->Shared->Prop}{pins:List (Addr×Obj)}{s:Shared}{σ:St}{H:Hp}{x:Str}{u:Value}{pos:Pos}{Q:Value->Shared->Prop}(I:Inv X pins σ H s)(hg:Gl X x)(hm:X.mg x=some u)(h:Q u s)
  (hd:(x == ("__debug__":Str))=false:=by decide):wpAny (model X.prog X.w) X.A (eval (.Name x pos) X.env) Q E s :=
 Calls.Name_function_global I.ok.kind hg (Calls.loadGlobal_global (by rw[I.ok.glob];exact I.mod.glob.keeps I.bk) hm h) hd
theorem mH{E:Value->Shared->Prop}{pins:List (Addr×Obj)}{s:Shared}{σ:St}{H:Hp}{x:Str}{u:Value}{pos:Pos}{Q:Value->Shared->Prop}(I:Inv X pins σ H s)(hg:Gl X x)(hm:X.mg x=none)(hv:bootBuiltins x=some u)(h:Q u s)
  (hn:x≠"__name__":=by decide) (hd:(x == ("__debug__":Str))=false:=by decide):wpAny (model X.prog X.w) X.A (eval (.Name x pos) X.env) Q E s:=by
 obtain⟨mb,h1,h2⟩:=I.mod.blt;exact Calls.Name_function_global I.ok.kind hg (Calls.loadGlobal_builtin (by rw[I.ok.glob];exact I.mod.glob.keeps I.bk) hm (by rw[I.ok.blt];exact h1.keeps I.bk) ((h2 x hn).trans hv) h) hd
theorem M8{x:Str}{v:V}{u:Value}{pos:Pos}(hg:Gl X x)(hm:X.mg x=some u)(r:RelV v u)(hd:(x == ("__debug__":Str))=false:=by decide):PE X (.Name x pos) (tC v):=
 λ_ _ _ H _ I h=>wH I hg hm ⟨v,H,I,r,h⟩ hd
theorem DW{x:Str}{v:V}{u:Value}{pos:Pos}(hg:Gl X x)(hm:X.mg x=none)(hv:bootBuiltins x=some u)(r:RelV v u)(hn:x≠"__name__":=by decide)(hd:(x == ("__debug__":Str))=false:=by decide):PE X (.Name x pos) (tC v):=
 λ_ _ _ H _ I h=>mH I hg hm hv ⟨v,H,I,r,h⟩ hn hd
variable {a b:Expr}{ta tb:TE}{pos:Pos}
def PC(X:Cx)(op:CmpOp)(a b:Expr)(t:TE):Prop :=
 ∀(pins:List (Addr×Obj)) (s:Shared) (σ:St) (H:Hp) (Q:VK),Inv X pins σ H s->t σ H Q ->
  wpAny (model X.prog X.w) X.A (eval a X.env) (λv s₁=>wpAny (model X.prog X.w) X.A (eval b X.env) (λu s₂=>wpAny (model X.prog X.w) X.A (compareOp op v u) (EP X pins σ Q) X.xe s₂) X.xe s₁) X.xe s
theorem DX(b:Expr){op:CmpOp}(h:op≠.In)(h2:op≠.NotIn):behindInMarks op b=false:=by
 have e1:(op == CmpOp.In)=false:=by cases op<;>first | rfl | exact absurd rfl h
 have e2:(op == CmpOp.NotIn)=false:=by cases op<;>first | rfl | exact absurd rfl h2
 cases b<;>simp[behindInMarks,e1,e2]
def DY(ta:TE):TE:=λσ H Q=>ta σ H λx H1=>Q (.bl (decide (x=.non))) H1
def Ea(ta:TE):TE:=λσ H Q=>ta σ H λx H1=>Q (.bl (!decide (x=.non))) H1
theorem RelV.none_iff{x:V}{v:Value}(r:RelV x v):(v == Value.none)=decide (x=.non):=by
 cases x with
 |non=>cases r;rfl
 |bl _=>cases r;rfl
 |int _=>obtain⟨t,rfl⟩:=r;rfl
 |str _=>obtain⟨t,rfl⟩:=r;rfl
 |byt _=>obtain⟨t,rfl⟩:=r;rfl
 |flt _=>obtain⟨t,rfl⟩:=r;rfl
 |ref _=>cases r;rfl
 |ty _=>cases r;rfl
theorem Eb{j pos'}(ha:PE X a ta):PC X .Is a (.Constant .none j pos') (DY ta):=by
 intro pins s σ H Q I h
 refine thn (ha pins s σ H _ I h) λv s1 ⟨x,H1,I1,r1,q1⟩=>?_
 exact Constant_none (is_none_gen ⟨.bl _,H1,I1,by rw[r1.none_iff];rfl,q1⟩)
theorem Ec{j pos'}(ha:PE X a ta):PC X .IsNot a (.Constant .none j pos') (Ea ta):=by
 intro pins s σ H Q I h
 refine thn (ha pins s σ H _ I h) λv s1 ⟨x,H1,I1,r1,q1⟩=>?_
 exact Constant_none (isnot_none_gen ⟨.bl _,H1,I1,by rw[r1.none_iff];rfl,q1⟩)
def tB(t:TE):TT:=λσ H Q=>t σ H λx H1=>∃c,x=.bl c/\Q c H1
theorem wI{op:CmpOp}{t:TE}(h:PC X op a b t)(h1:behindInMarks op b=false:=by first | exact DX _ (by decide) (by decide) | rfl):PE X (.Compare a [op] [b] pos) t:=λpins s σ H Q I hw=>wpAny_Compare1 (h pins s σ H Q I hw) h1
theorem wJ{op:CmpOp}{t:TE}(h:PC X op a b t)(h1:behindInMarks op b=false:=by first | exact DX _ (by decide) (by decide) | rfl):PT X (.Compare a [op] [b] pos) (tB t):=by
 intro pins s σ H Q I hw;refine wpAny_isTrue_Compare1 (thn (h pins s σ H _ I hw) λv s1 h1=>thn h1 λu s2 h2=>thn h2 λc s3 ⟨x,H1,I1,r1,q1⟩=>?_) h1;obtain⟨d,rfl,q⟩:=q1;cases r1;exact wpAny_truthy_bool ⟨H1,I1,q⟩
variable {tA tB':TT}{rest:List Expr}
def Ed(t u:TT):TT:=λσ H Q=>t σ H λc H1=>if c=true then u σ H1 Q else Q false H1
def tOr(t u:TT):TT:=λσ H Q=>t σ H λc H1=>if c=true then Q true H1 else u σ H1 Q
def M9(t:TT):TT:=λσ H Q=>t σ H λc H1=>Q (!c) H1
theorem Nb(ha:PT X a tA):PW X (.BoolOp .And [a] pos) tA:=by
 intro wh pins s σ H Q I h;refine isTrue_and (thn (ha pins s σ H Q I h) λc s1 e=>?_)
 cases c with
 |true=>exact isTrue_and_nil e
 |false=>exact e
theorem Nf(ha:PT X a tA):PW X (.BoolOp .Or [a] pos) tA:=by
 intro wh pins s σ H Q I h;refine isTrue_or (thn (ha pins s σ H Q I h) λc s1 e=>?_)
 cases c with
 |false=>exact isTrue_or_nil e
 |true=>exact e
theorem Ng(ha:PT X a tA)(hb:PW X (.BoolOp .And (b::rest) pos) tB'):PW X (.BoolOp .And (a::b::rest) pos) (Ed tA tB'):=by
 intro wh pins s σ H Q I h;refine isTrue_and (thn (ha pins s σ H _ I h) λc s1 ⟨H1,I1,q1⟩=>?_)
 cases c with
 |true=>exact hb wh pins s1 σ H1 Q I1 q1
 |false=>exact⟨H1,I1,q1⟩
theorem Nh(ha:PT X a tA)(hb:PW X (.BoolOp .Or (b::rest) pos) tB'):PW X (.BoolOp .Or (a::b::rest) pos) (tOr tA tB'):=by
 intro wh pins s σ H Q I h;refine isTrue_or (thn (ha pins s σ H _ I h) λc s1 ⟨H1,I1,q1⟩=>?_)
 cases c with
 |true=>exact⟨H1,I1,q1⟩
 |false=>exact hb wh pins s1 σ H1 Q I1 q1
theorem Ni(ha:PT X a tA):PT X (.UnaryOp .Not a pos) (M9 tA):=by
 intro pins s σ H Q I h;exact isTrue_not (ha pins s σ H (λc H1=>Q (!c) H1) I h)
def Nj(ta tb:TE):TE:=λσ H Q=>ta σ H λx H1=>∃c,x=.bl c/\if c=true then tb σ H1 Q else Q (.bl false) H1
def Nk(ta tb:TE):TE:=λσ H Q=>ta σ H λx H1=>∃c,x=.bl c/\if c=true then Q (.bl true) H1 else tb σ H1 Q
def Nm(ta:TE):TE:=λσ H Q=>ta σ H λx H1=>∃c,x=.bl c/\Q (.bl (!c)) H1
theorem Np{op}{t:TE}(h:PE X a t):PE X (.BoolOp op [a] pos) t:=λpins s σ H Q I hw=>BoolOp_one (h pins s σ H Q I hw)
theorem Nq(ha:PE X a ta)(hb:PE X (.BoolOp .And (b::rest) pos) tb):PE X (.BoolOp .And (a::b::rest) pos) (Nj ta tb):=by
 intro pins s σ H Q I h;refine BoolOp_and (thn (ha pins s σ H _ I h) λv s1 ⟨x,H1,I1,r1,q1⟩=>?_);obtain⟨c,rfl,q1⟩:=q1;cases r1;refine wpAny_truthy_bool ?_
 cases c with
 |true=>exact hb pins s1 σ H1 Q I1 q1
 |false=>exact⟨.bl false,H1,I1,rfl,q1⟩
theorem Nr(ha:PE X a ta)(hb:PE X (.BoolOp .Or (b::rest) pos) tb):PE X (.BoolOp .Or (a::b::rest) pos) (Nk ta tb):=by
 intro pins s σ H Q I h;refine BoolOp_or (thn (ha pins s σ H _ I h) λv s1 ⟨x,H1,I1,r1,q1⟩=>?_);obtain⟨c,rfl,q1⟩:=q1;cases r1;refine wpAny_truthy_bool ?_
 cases c with
 |false=>exact hb pins s1 σ H1 Q I1 q1
 |true=>exact⟨.bl true,H1,I1,rfl,q1⟩
theorem Nt(ha:PE X a ta):PE X (.UnaryOp .Not a pos) (Nm ta):=by
 intro pins s σ H Q I h;refine UnaryOp_ (thn (ha pins s σ H _ I h) λv s1 ⟨x,H1,I1,r1,q1⟩=>?_);obtain⟨c,rfl,q1⟩:=q1;cases r1;exact not_of (wpAny_truthy_bool ⟨.bl (!c),H1,I1,rfl,q1⟩)
def tIf(t:TT)(ta tb:TE):TE:=λσ H Q=>t σ H λc H1=>if c=true then ta σ H1 Q else tb σ H1 Q
theorem Nu{c:Expr}(hc:PT X c tA)(ha:PE X a ta)(hb:PE X b tb):PE X (.IfExp c a b pos) (tIf tA ta tb):=by
 intro pins s σ H Q I h;refine wpAny_IfExp (thn (hc pins s σ H _ I h) λd s1 ⟨H1,I1,q1⟩=>?_)
 cases d with
 |true=>exact ha pins s1 σ H1 Q I1 q1
 |false=>exact hb pins s1 σ H1 Q I1 q1
end
def SqL(K:PySem.W.Frag)(H:Hp)(a:Addr)(xs:List V):Prop :=
 Rd H a (.lst xs) \/
  ∃(o:Obj) (its:Array Value) (n:Nat),K.lookup a=some o/\o.cls=.type "list"/\o.dict=none/\o.data=.seq its n/\its.size<=sizeLine/\aP xs its.toList
def SqT(K:PySem.W.Frag)(H:Hp)(a:Addr)(xs:List V):Prop :=
 Rd H a (.tup xs) \/
  ∃(o:Obj) (its:Array Value) (n:Nat),K.lookup a=some o/\o.cls=.type "tuple"/\o.data=.seq its n/\its.size<=sizeLine/\aP xs its.toList
def Nv:Value->Option V
 | .none=>some .non
 | .bool b=>some (.bl b)
 | .int i _=>some (.int i)
 | .str x _=>some (.str x)
 | .bytes b _=>some (.byt b)
 | .float b _=>some (.flt b)
 | .ref a=>some (.ref a)
 | .type n=>some (.ty n)
 | _=>none
theorem RelV.abs{x:V}{u:Value}(r:RelV x u):Nv u=some x:=by
 cases x with
 |non=>cases r;rfl
 |bl _=>cases r;rfl
 |int _=>obtain⟨t,rfl⟩:=r;rfl
 |str _=>obtain⟨t,rfl⟩:=r;rfl
 |byt _=>obtain⟨t,rfl⟩:=r;rfl
 |flt _=>obtain⟨t,rfl⟩:=r;rfl
 |ref _=>cases r;rfl
 |ty _=>cases r;rfl
theorem RelV.inj{x y:V}{u:Value}(r:RelV x u)(q:RelV y u):x=y:=zE (r.abs.symm.trans q.abs)
theorem aP.inj:∀{xs ys:List V}{us:List Value},aP xs us->aP ys us->xs=ys
 | _,_,_,.nil,.nil=>rfl
 | _,_,_,.cons r t,.cons r' t'=>by rw[r.inj r',aP.inj t t']
section
variable {X:Cx}{pins:List (Addr×Obj)}{σ:St}{H:Hp}{s:Shared}{a:Addr}{xs ys:List V}
theorem SqL.of{K:PySem.W.Frag}(h:H a=some (.lst xs)):SqL K H a xs:=.inl (.inl h)
theorem SqT.of{K:PySem.W.Frag}(h:H a=some (.tup xs)):SqT K H a xs:=.inl (.inl h)
theorem Inv.list(I:Inv X pins σ H s)(h:SqL X.K H a xs):∃its:List Value,aP xs its/\PlainL s.heap a its.toArray/\xs.length<=sizeLine:=by
 rcases h with h | ⟨o,its,n,hk,hc,hd,hs,hz,r⟩
 ·obtain⟨z,its,n,r,e⟩:=h.ok I.hok;exact⟨its,r,⟨_,n,e,rfl,rfl,rfl⟩,z⟩
 ·refine⟨its.toList,r,⟨o,n,I.kIn a o hk,hc,hd,by simpa using hs⟩,?_⟩;have e:=r.length;simp only[Array.length_toList] at e;omega
theorem Inv.tuple(I:Inv X pins σ H s)(h:SqT X.K H a xs):∃its:List Value,aP xs its/\IsTup s.heap a its.toArray/\xs.length<=sizeLine:=by
 rcases h with h | ⟨o,its,n,hk,hc,hs,hz,r⟩
 ·obtain⟨z,its,r,p⟩:=h.ok I.hok;exact⟨its,r,p,z⟩
 ·refine⟨its.toList,r,⟨o,I.kIn a o hk,hc,n,by simpa using hs⟩,?_⟩;have e:=r.length;simp only[Array.length_toList] at e;omega
theorem Inv.list_inj(I:Inv X pins σ H s)(h:SqL X.K H a xs)(h':SqL X.K H a ys):xs=ys:=by
 obtain⟨its,r,⟨o,n,e,_,_,d⟩,_⟩:=I.list h;obtain⟨its',r',⟨o',n',e',_,_,d'⟩,_⟩:=I.list h';rw[e] at e';cases e';rw[d] at d'
 injection d' with d1 _
 have:its=its':=by simpa using congrArg Array.toList d1
 subst this;exact r.inj r'
theorem Inv.tuple_inj(I:Inv X pins σ H s)(h:SqT X.K H a xs)(h':SqT X.K H a ys):xs=ys:=by
 obtain⟨its,r,⟨o,e,_,n,d⟩,_⟩:=I.tuple h;obtain⟨its',r',⟨o',e',_,n',d'⟩,_⟩:=I.tuple h';rw[e] at e';cases e';rw[d] at d'
 injection d' with d1 _
 have:its=its':=by simpa using congrArg Array.toList d1
 subst this;exact r.inj r'
end
abbrev Cx.wish(X:Cx)(E:Value->Shared->Prop):Cx:={X with xe:=E}
abbrev Cx.nox(X:Cx):Cx:=X.wish λ_ _=>False
theorem Cx.Ok.wish{X:Cx}(ok:X.Ok)(E:Value->Shared->Prop):(X.wish E).Ok :=
 ⟨ok.mod,ok.kind,ok.glob,ok.blt,ok.above,ok.inj,ok.has,ok.cab,ok.hd,ok.frames,ok.stk,ok.exf,ok.bs,ok.bsz,ok.noex,ok.exfs,ok.funs,ok.frf⟩
theorem Cx.Ok.unwish{X:Cx}{E:Value->Shared->Prop}(ok:(X.wish E).Ok):X.Ok :=
 ⟨ok.mod,ok.kind,ok.glob,ok.blt,ok.above,ok.inj,ok.has,ok.cab,ok.hd,ok.frames,ok.stk,ok.exf,ok.bs,ok.bsz,ok.noex,ok.exfs,ok.funs,ok.frf⟩
section
variable {X:Cx}{pins:List (Addr×Obj)}{σ:St}{H:Hp}{s:Shared}{E:Value->Shared->Prop}
theorem Inv.wish(I:Inv X pins σ H s)(E:Value->Shared->Prop):Inv (X.wish E) pins σ H s:=⟨I.ok.wish E,I.os,I.bare,I.base,I.loc,I.cell,I.free,I.freeC,I.pin,I.hok,I.len⟩
theorem Inv.unwish(I:Inv (X.wish E) pins σ H s):Inv X pins σ H s:=⟨I.ok.unwish,I.os,I.bare,I.base,I.loc,I.cell,I.free,I.freeC,I.pin,I.hok,I.len⟩
theorem SP.unwish{D:Ends}{f:Flow}{s':Shared}(h:SP (X.wish E) pins D f s'):SP X pins D f s':=by
 cases f with
 |next=>obtain⟨σ',H',I,q⟩:=h;exact⟨σ',H',I.unwish,q⟩
 |brk=>obtain⟨σ',H',I,q⟩:=h;exact⟨σ',H',I.unwish,q⟩
 |cont=>obtain⟨σ',H',I,q⟩:=h;exact⟨σ',H',I.unwish,q⟩
 |ret u=>obtain⟨v,σ',H',I,r,q⟩:=h;exact⟨v,σ',H',I.unwish,r,q⟩
theorem PE.nox{e:Expr}{t:TE}(h:PE X.nox e t):PE X e t:=λpins s σ H Q I hw =>
 zT (h pins s σ H Q (I.wish _) hw) (λ_ _ ⟨v,H',I',r,q⟩=>⟨v,H',I'.unwish,r,q⟩) λ_ _ z=>False.elim z
theorem PT.nox{e:Expr}{t:TT}(h:PT X.nox e t):PT X e t:=λpins s σ H Q I hw =>
 zT (h pins s σ H Q (I.wish _) hw) (λ_ _ ⟨H',I',q⟩=>⟨H',I'.unwish,q⟩) λ_ _ z=>False.elim z
theorem PSs.nox{st:List Stmt}{t:TS}(h:PSs X.nox st t):PSs X st t:=λpins s σ H D I hw =>
 zT (h pins s σ H D (I.wish _) hw) (λ_ _ q=>q.unwish) λ_ _ z=>False.elim z
end
section
variable {X:Cx}{st:Stmt}{rest:List Stmt}{t u:TS}{e:Expr}{te:TE}{pos:Pos}
def Nx:TS:=λD σ H=>D.nx σ H
def Ny(t u:TS):TS:=λD σ H=>t {D with nx:=u D} σ H
theorem Nz:PSs X [] Nx:=λ_ _ σ H _ I h=>wpAny_execs_nil ⟨σ,H,I,h⟩
theorem NB(h1:PS X st t)(h2:PSs X rest u):PSs X (st::rest) (Ny t u):=by
 intro pins s σ H D I h;refine wpAny_execs_cons (thn (h1 pins s σ H {D with nx:=u D} I h) λf s1 q=>?_)
 cases f with
 |next =>
  obtain⟨σ',H',I',q⟩:=q;exact h2 pins s1 σ' H' D I' q
 |ret v=>exact q
 |brk=>exact q
 |cont=>exact q
theorem Ef(h1:PS X st t):PSs X [st] t:=by
 intro pins s σ H D I h;refine wpAny_execs_cons (thn (h1 pins s σ H D I h) λf s1 q=>?_)
 cases f with
 |next=>exact wpAny_execs_nil q
 |ret v=>exact q
 |brk=>exact q
 |cont=>exact q
theorem Inv.quiet{pins:List (Addr×Obj)}{σ:St}{H:Hp}{s:Shared}(I:Inv X pins σ H s):interactive X.env=false:=by simp[interactive,I.ok.kind]
def NP(te:TE):TS:=λD σ H=>te σ H λ_ H1=>D.nx σ H1
theorem qy(he:PE X e te)(hs:swapsWith e none pos.line X.env=pure false:=by rfl):PS X (.Expr e pos) (NP te):=by
 intro pins s σ H D I h;exact wpAny_Expr_any (thn (he pins s σ H _ I h) λv s1 ⟨x,H1,I1,r1,q1⟩=>⟨σ,H1,I1,q1⟩) I.quiet hs
def NQ(te:TE):TS:=λD σ H=>te σ H D.rt
theorem Eg(he:PE X e te):PS X (.Return (some e) pos) (NQ te):=by
 intro pins s σ H D I h;exact wpAny_Return_some (thn (he pins s σ H _ I h) λv s1 ⟨x,H1,I1,r1,q1⟩=>⟨x,σ,H1,I1,r1,q1⟩)
def NT(c:TT)(t u:TS):TS:=λD σ H=>c σ H λb H1=>if b=true then t D σ H1 else u D σ H1
theorem NZ{c:Expr}{a b:List Stmt}{tc:TT}(hc:PT X c tc)(ha:PSs X a t)(hb:PSs X b u):PS X (.If c a b pos) (NT tc t u):=by
 intro pins s σ H D I h;refine wpAny_If (thn (hc pins s σ H _ I h) λd s1 ⟨H1,I1,q1⟩=>?_)
 cases d with
 |true=>exact ha pins s1 σ H1 D I1 q1
 |false=>exact hb pins s1 σ H1 D I1 q1
end
abbrev TG:=V->St->Hp->(St->Hp->Prop)->Prop
abbrev TGs:=List V->St->Hp->(St->Hp->Prop)->Prop
def PG(X:Cx)(target:Expr)(t:TG):Prop :=
 ∀(pins:List (Addr×Obj)) (s:Shared) (σ:St) (H:Hp) (v:V) (u:Value) (Q:St->Hp->Prop),Inv X pins σ H s->RelV v u->t v σ H Q ->
  wpAny (model X.prog X.w) X.A (assign target X.env u) (λ_ s'=>∃σ' H',Inv X pins σ' H' s'/\Q σ' H') X.xe s
def PGs(X:Cx)(ts:List Expr)(t:TGs):Prop :=
 ∀(pins:List (Addr×Obj)) (s:Shared) (σ:St) (H:Hp) (vs:List V) (us:List Value) (Q:St->Hp->Prop),Inv X pins σ H s->aP vs us->t vs σ H Q ->
  wpAny (model X.prog X.w) X.A (assignInOrder ((assignEach ts X.env).map (·.2)) us) (λ_ s'=>∃σ' H',Inv X pins σ' H' s'/\Q σ' H') X.xe s
section
variable {X:Cx}{pos:Pos}
def qz(i:Nat):TG:=λv σ H Q=>Q (σ.set i (some v)) H
theorem N5{i:Nat}{x:Str}(hN:X.N.Nodup)(hi:X.N[i]?=some x)(hx:Loc X.env.scope x)(hf:X.fn x=true\/X.env.scope.names.lookup x=some .local:=by first | exact .inl rfl | exact .inr rfl | assumption):PG X (.Name x pos) (qz i):=by
 intro pins s σ H v u Q I r h;exact wpAny_assign_Name (wG I hN hi hx r (λs' I'=>⟨_,H,I',h⟩) hf)
def N6:TGs:=λvs σ H Q=>vs=[]/\Q σ H
def N7(t:TG)(u:TGs):TGs:=λvs σ H Q=>∃v r,vs=v::r/\t v σ H λσ' H'=>u r σ' H' Q
theorem N8:PGs X [] N6:=by
 intro pins s σ H vs us Q I r h;obtain⟨e,h⟩:=h;subst e;cases r;exact assignInOrder_nil ⟨σ,H,I,h⟩
theorem Oa{e:Expr}{es:List Expr}{t:TG}{u:TGs}(h1:PG X e t)(h2:PGs X es u)
  (hs:(assignEach (e::es) X.env).map (·.2)=assign e X.env::(assignEach es X.env).map (·.2):=by rfl):PGs X (e::es) (N7 t u):=by
 intro pins s σ H vs us Q I r h;obtain⟨v,vr,e1,h⟩:=h;subst e1
 cases r with
 |cons r rr =>
  rw[hs];refine assignInOrder_cons (thn (h1 pins s σ H _ _ _ I r h) λ_ s1 ⟨σ1,H1,I1,q1⟩=>?_);exact h2 pins s1 σ1 H1 _ _ Q I1 rr q1
def Oc(K:PySem.W.Frag)(n:Nat)(t:TGs):TG:=λv σ H Q=>∃a xs,v=.ref a/\SqT K H a xs/\xs.length=n/\t xs σ H Q
theorem Od{es:List Expr}{k:Nat}{t:TGs}{n:Nat}(hc:X.calm=true)(h:PGs X es t)
  (hn:(assignEach es X.env).length=n:=by rfl) (hst:(assignEach es X.env).findIdx? (·.1)=none:=by rfl):PG X (.Tuple es k pos) (Oc X.K n t):=by
 intro pins s σ H v u Q I r hw;obtain⟨a,xs,e1,hq,hl,hw⟩:=hw;subst e1;cases r;obtain⟨its,rv,ht,hz⟩:=I.tuple hq
 refine assign_Tuple_tuple (I.ok.hd hc) ht (by simp[hn,<-hl,rv.length]) hst λh' hx=>?_
 have I1:Inv X pins σ H {s with heap:=h'}:=I.kept (t':=s.toks) λb o e=>hx b o (zC (zo e)) e
 exact h pins _ σ H xs _ Q I1 (by simpa using rv) hw
def tH(te:TE)(g:TG):TS:=λD σ H=>te σ H λx H1=>g x σ H1 D.nx
theorem Eh{i:Nat}{x:Str}{e:Expr}{te:TE}{pos':Pos}(hN:X.N.Nodup)(hi:X.N[i]?=some x)(hx:Loc X.env.scope x)(he:PE X e te)(hs:swapsWith e (some (.Name x pos')) pos.line X.env=pure false:=by rfl)(hf:X.fn x=true\/X.env.scope.names.lookup x=some .local:=by first | exact .inl rfl | exact .inr rfl | assumption):
  PS X (.Assign [.Name x pos'] e pos) (tH te (qz i)):=by
 intro pins s σ H D I h;refine wpAny_Assign_Name (thn (he pins s σ H _ I h) λv s1 ⟨y,H1,I1,r1,q1⟩=>?_) hs;exact wG I1 hN hi hx r1 (λs2 I2=>⟨_,H1,I2,q1⟩) hf
end
section
variable {X:Cx}{pos:Pos}
def Ei(c:TT)(tb:TS):TS:=λD σ H=>∃W:Nat->St->Hp->Prop,(∃m,W m σ H)/\∀m σ H,W m σ H ->
 c σ H λb H1=>if b=true then ∃N:St->Hp->Prop,(∀σ' H',N σ' H'->∃m',m'<m/\W m' σ' H')/\tb {D with nx:=N,ct:=N,bk:=D.nx} σ H1 else D.nx σ H1
theorem Oe{c:Expr}{body:List Stmt}{tc:TT}{tb:TS}(hp:PassesOwn (model X.prog X.w) X.A X.env X.xe)(hc:PT X c tc)(hb:PSs X body tb):PS X (.While c body [] pos) (Ei tc tb):=by
 intro pins s σ H D I h;obtain⟨W,⟨m0,w0⟩,turn⟩:=h;refine wpAny_While (codeAny_whileLoop (λn s'=>∃σ' H',Inv X pins σ' H' s'/\W n σ' H') ?_ m0 ⟨σ,H,I,w0⟩);rintro n s1 ⟨σ1,H1,I1,w1⟩;refine wpAny_passesOwn hp (thn (hc pins s1 σ1 H1 _ I1 (turn n σ1 H1 w1)) λb s2 ⟨H2,I2,q2⟩=>?_)
 cases b with
 |true =>
  obtain⟨N,hN,q2⟩:=q2;rw[if_pos rfl];refine wpAny_passesOwn hp (thn (hb pins s2 σ1 H2 _ I2 q2) λf s3 q3=>?_)
  cases f with
  |next =>
   obtain⟨σ3,H3,I3,n3⟩:=q3;obtain⟨m',hm,w3⟩:=hN σ3 H3 n3;exact⟨m',hm,σ3,H3,I3,w3⟩
  |cont =>
   obtain⟨σ3,H3,I3,n3⟩:=q3;obtain⟨m',hm,w3⟩:=hN σ3 H3 n3;exact⟨m',hm,σ3,H3,I3,w3⟩
  |brk=>exact q3
  |ret v=>exact q3
 |false =>
  rw[if_neg zq];exact wpAny_execs_nil ⟨σ1,H2,I2,q2⟩
end
structure It where
 go:Nat->Hp->Prop
 yld:Nat->Hp->V->Hp->Prop
 stop:Nat->Hp->Prop
def f9(X:Cx)(pins:List (Addr×Obj))(H:Hp)(b:Addr):Prop :=
 H b=none/\b≠X.env.locals/\b∉X.fs/\(b∈X.ex\/X.s₀.heap.objs.size<=b)/\(∀x c,X.env.cells.lookup x=some c->c≠b)/\∀p∈X.pn++pins,p.1≠b
theorem Inv.fpOk{X:Cx}{pins:List (Addr×Obj)}{σ:St}{H H':Hp}{s:Shared}{b:Addr}(I:Inv X pins σ H s)(hb:s.heap.objs.size<=b)(hn:H' b=none):f9 X pins H' b:=by
 refine⟨hn,Nat.ne_of_gt (zL I.lt hb),I.nofs hb,.inr (zH I.sz hb),λx c e z=>?_,λp hp z=>?_⟩
 ·obtain⟨v,q⟩:=I.cell x c e;exact absurd (zL q.lt (by rw[z];exact hb)) (jd _)
 ·exact absurd (zL (zo (I.pin p hp).1) (by rw[z];exact hb)) (jd _)
structure Turn(P:Program)(w:World)(K:PySem.W.Frag)(tg:Expr)(J:It)(fp:List Addr)(it:Addr)(tn:Nat->Heap->Prop):Prop where
 mem:it∈fp
 obj:∀i h,tn i h->∀b∈fp,∃o,h.get? b=some o/\∀v,o.data≠.cell v
 keep:∀i h h',tn i h->(∀b∈fp,∀o,h.get? b=some o->h'.get? b=some o)->tn i h'
 item:∀(X:Cx),X.prog=P->X.w=w->X.K=K->X.calm=true->∀(i:Nat) (pins:List (Addr×Obj)) (s:Shared) (σ:St) (H:Hp) (E:Value->Shared->Prop),Inv X pins σ H s->(∀b∈fp,f9 X pins H b)->tn i s.heap->J.go i H ->
  wpAny (model P w) X.A (pyNext (.ref it)) (λr s1=>∃u,r=some u /\
   wpAny (model P w) X.A (letOwnedTupleGo tg (.ref it) u) (λ_ s2=>∃x H',Inv X pins σ H' s2/\RelV x u/\J.yld i H x H'/\tn (i+1) s2.heap/\∀b∈fp,H' b=none) E s1) E s
 done:∀(X:Cx),X.prog=P->X.w=w->X.K=K->X.calm=true->∀(i:Nat) (pins:List (Addr×Obj)) (s:Shared) (σ:St) (H:Hp) (E:Value->Shared->Prop),Inv X pins σ H s->(∀b∈fp,f9 X pins H b)->tn i s.heap->J.stop i H ->
  wpAny (model P w) X.A (pyNext (.ref it)) (λr s1=>r=none/\Inv X pins σ H s1) E s
 self:∀(A:Around) (i:Nat) (s:Shared) (Q:Value->Shared->Prop) (E:Value->Shared->Prop),tn i s.heap->Q (.ref it) s->wpAny (model P w) A (pyIter (.ref it)) Q E s
abbrev TI:=St->Hp->(It->Hp->Prop)->Prop
def PIE(X:Cx)(pins:List (Addr×Obj))(σ:St)(tg:Expr)(R:It->Hp->Prop)(itv:Value)(s2:Shared):Prop :=
 ∃(it:Addr) (fp:List Addr) (tn:Nat->Heap->Prop) (J:It) (H':Hp),itv=.ref it/\Inv X pins σ H' s2/\Turn X.prog X.w X.K tg J fp it tn/\tn 0 s2.heap/\(∀b∈fp,f9 X pins H' b)/\R J H'
def PI(X:Cx)(tg iter:Expr)(wi:TI):Prop :=
 ∀(pins:List (Addr×Obj)) (s:Shared) (σ:St) (H:Hp) (R:It->Hp->Prop),Inv X pins σ H s->wi σ H R ->
  wpAny (model X.prog X.w) X.A (eval iter X.env) (λv s1=>wpAny (model X.prog X.w) X.A (pyIter v) (PIE X pins σ tg R) X.xe s1) X.xe s
theorem mJ{M:Model}{A:Around}{E:Value->Shared->Prop}{s:Shared}{tg:Expr}{it:Addr}{u:Value}{o:Obj}{n:String}{vs:Array Value}{Q:Unit->Shared->Prop}(ho:s.heap.get? it=some o)(hc:o.cls=.type n)(hd:o.data=.fields vs)
  (hn:["enumerate","zip","dict_itemiterator","dict_reverseitemiterator","odict_iterator","itertools.zip_longest","itertools.pairwise"].contains n=false) (hQ:Q () s):wpAny M A (letOwnedTupleGo tg (.ref it) u) Q E s:=by
 unfold letOwnedTupleGo
 cases tg<;>first
  | exact zc hQ
  | (cases u<;>first
    | exact zc hQ
    | (refine za (wpAny_load ho ?_)
       rw[hc,hd];show wpAny M A (if(["enumerate","zip","dict_itemiterator","dict_reverseitemiterator","odict_iterator","itertools.zip_longest","itertools.pairwise"].contains n&&vs[0]? == some (rawInt _))=true then _ else _) Q E s;rw[if_neg (by intro h;rw[hn,Bool.false_and] at h;cases h)]
       exact zc hQ))
def Itl(K:PySem.W.Frag)(a:Addr):It :=
 ⟨λi H=>∃xs x,SqL K H a xs/\xs[i]?=some x,λi H x H'=>H'=H/\∀xs,SqL K H a xs->xs[i]?=some x,λi H=>∃xs,SqL K H a xs/\xs.length<=i⟩
def Itt(K:PySem.W.Frag)(a:Addr):It :=
 ⟨λi H=>∃xs x,SqT K H a xs/\xs[i]?=some x,λi H x H'=>H'=H/\∀xs,SqT K H a xs->xs[i]?=some x,λi H=>∃xs,SqT K H a xs/\xs.length<=i⟩
def Itr(lo:Int)(n:Nat):It:=⟨λi _=>i<n,λi H x H'=>H'=H/\x=.int (lo+i),λi _=>n<=i⟩
theorem Og{P:Program}{w:World}{K:PySem.W.Frag}{tg:Expr}(a it:Addr):Turn P w K tg (Itl K a) [it] it (λi h=>h.IsListIter it a i) where
 mem:=by simp
 obj:=λi h st b hb=>by
  have e:b=it:=by simpa using hb
  subst e;obtain⟨o,e,c,d⟩:=st;exact⟨o,e,λv z=>by rw[d] at z;cases z⟩
 keep:=λi h h' st k=>st.at λo e=>k it (by simp) o e
 item:=by
  intro X hP hw hK hc i pins s σ H E I hf st hg;subst hP hw hK;obtain⟨xs,x,hq,hx⟩:=hg;obtain⟨its,rv,p,hz⟩:=I.list hq;obtain⟨u,hu,ru⟩:=rv.get hx;obtain⟨f0,f1,f2,f3,f4,f5⟩:=hf it (by simp)
  refine wpAny_pyNext_list_item st p.isList (x:=u) (by simpa using hu) λh' st' sb=>?_
  have I1:Inv X pins σ H {s with heap:=h'}:=I.turned (t':=s.toks) (λb o hb e=>(sb.2 b hb).trans e) f0 f1 f3 f4 f5;obtain⟨o,e,c,d⟩:=id st';exact⟨u,rfl,mJ (s:={s with heap:=h'}) e c d (by decide) ⟨x,H,I1,ru,⟨rfl,λys hy=>by rw[I.list_inj hy hq];exact hx⟩,st',λb hb=>(hf b hb).1⟩⟩
 done:=by
  intro X hP hw hK hc i pins s σ H E I hf st hg;subst hP hw hK;obtain⟨xs,hq,hx⟩:=hg;obtain⟨its,rv,p,hz⟩:=I.list hq;obtain⟨f0,f1,f2,f3,f4,f5⟩:=hf it (by simp);have hl:=rv.length
  exact wpAny_pyNext_list_end (I.ok.hd hc) st p.isList (by simp;omega) λh' eb=>⟨rfl,I.turned (t':=s.toks) (λb o hb e=>eb b o hb e) f0 f1 f3 f4 f5⟩
 self:=λ_ _ _ _ _ st h=>wpAny_pyIter_listiter st h
theorem Oh{P:Program}{w:World}{K:PySem.W.Frag}{tg:Expr}(a it:Addr):Turn P w K tg (Itt K a) [it] it (λi h=>h.IsTupleIter it a i) where
 mem:=by simp
 obj:=λi h st b hb=>by
  have e:b=it:=by simpa using hb
  subst e;obtain⟨o,e,c,d⟩:=st;exact⟨o,e,λv z=>by rw[d] at z;cases z⟩
 keep:=λi h h' st k=>st.at λo e=>k it (by simp) o e
 item:=by
  intro X hP hw hK hc i pins s σ H E I hf st hg;subst hP hw hK;obtain⟨xs,x,hq,hx⟩:=hg;obtain⟨its,rv,p,hz⟩:=I.tuple hq;obtain⟨u,hu,ru⟩:=rv.get hx;obtain⟨f0,f1,f2,f3,f4,f5⟩:=hf it (by simp)
  refine wpAny_pyNext_tuple_item st (show s.heap.IsTuple a its.toArray from p) (x:=u) (by simpa using hu) λh' st' sb=>?_
  have I1:Inv X pins σ H {s with heap:=h'}:=I.turned (t':=s.toks) (λb o hb e=>(sb.2 b hb).trans e) f0 f1 f3 f4 f5;obtain⟨o,e,c,d⟩:=id st';exact⟨u,rfl,mJ (s:={s with heap:=h'}) e c d (by decide) ⟨x,H,I1,ru,⟨rfl,λys hy=>by rw[I.tuple_inj hy hq];exact hx⟩,st',λb hb=>(hf b hb).1⟩⟩
 done:=by
  intro X hP hw hK hc i pins s σ H E I hf st hg;subst hP hw hK;obtain⟨xs,hq,hx⟩:=hg;obtain⟨its,rv,p,hz⟩:=I.tuple hq;obtain⟨f0,f1,f2,f3,f4,f5⟩:=hf it (by simp);have hl:=rv.length
  exact wpAny_pyNext_tuple_end (I.ok.hd hc) st (show s.heap.IsTuple a its.toArray from p) (by simp;omega) λh' eb=>⟨rfl,I.turned (t':=s.toks) (λb o hb e=>eb b o hb e) f0 f1 f3 f4 f5⟩
 self:=λ_ _ _ _ _ st h=>wpAny_pyIter_tupleiter st h
theorem Oi{P:Program}{w:World}{K:PySem.W.Frag}{tg:Expr}(it:Addr)(lo:Int)(n:Nat):Turn P w K tg (Itr lo n) [it] it (λi h=>IsRangeIter h it (lo+(i:Nat) * 1) ((n:Int) - (i:Nat)) 1) where
 mem:=by simp
 obj:=λi h st b hb=>by
  have e:b=it:=by simpa using hb
  subst e
  exact⟨_,st,λv z=>by
   have z':Data.fields _=Data.cell v:=z
   cases z'⟩
 keep:=λi h h' st k=>k it (by simp) _ st
 item:=by
  intro X hP hw hK hc i pins s σ H E I hf st hg;subst hP hw hK;obtain⟨f0,f1,f2,f3,f4,f5⟩:=hf it (by simp);have W:=Walks.range (prog:=X.prog) (w:=X.w) (I.ok.hd hc) it lo 1 n
  refine W.item i s _ _ hg st λv h' tk hv st' kk=>?_
  obtain⟨t,rfl⟩:=hv;have I1:Inv X pins σ H {s with heap:=h',toks:=tk}:=I.turned (λb o hb e=>kk b o (by simpa using hb) e) f0 f1 f3 f4 f5;refine⟨_,rfl,mJ (s:={s with heap:=h',toks:=tk}) (n:="range_iterator") st' rfl rfl (by decide) ⟨.int (lo+i),H,I1,⟨t,?_⟩,⟨rfl,rfl⟩,st',λb hb=>(hf b hb).1⟩⟩;rw[Int.mul_one]
 done:=by
  intro X hP hw hK hc i pins s σ H E I hf st hg;subst hP hw hK;obtain⟨f0,f1,f2,f3,f4,f5⟩:=hf it (by simp)
  exact wpAny_pyNext_range_end (I.ok.hd hc) st (by have:n<=i:=hg;omega) λh' eb=>⟨rfl,I.turned (t':=s.toks) (λb o hb e=>eb b o hb e) f0 f1 f3 f4 f5⟩
 self:=λ_ _ _ _ _ st h=>wpAny_pyIter_rangeiter st h
section
variable {X:Cx}{tg:Expr}
def Ej(K:PySem.W.Frag)(tl:TE):TI:=λσ H R=>tl σ H λx H1=>∃a,x=.ref a/\(∃xs,SqL K H1 a xs)/\R (Itl K a) H1
def Oj(K:PySem.W.Frag)(tl:TE):TI:=λσ H R=>tl σ H λx H1=>∃a,x=.ref a/\(∃xs,SqT K H1 a xs)/\R (Itt K a) H1
theorem wK{l:Expr}{tl:TE}(hl:PE X l tl):PI X tg l (Ej X.K tl):=by
 intro pins s σ H R I h
 refine thn (hl pins s σ H _ I h) λv s1 ⟨x,H1,I1,r1,q1⟩=>?_
 obtain⟨a,e,⟨xs,hq⟩,q⟩:=q1;subst e;cases r1;obtain⟨its,rv,p,hz⟩:=I1.list hq;refine wpAny_pyIter_list p.isList ?_;refine⟨s1.heap.objs.size,[s1.heap.objs.size],_,_,H1,rfl,I1.kept (t':=s1.toks) λb o e=>zn _ e,Og a _,⟨_,zB _ rfl,rfl,rfl⟩,λb hb=>?_,q⟩
 have e:b=s1.heap.objs.size:=by simpa using hb
 subst e;exact I1.fpOk (zd _) (I1.hok.fresh (zd _))
theorem Ol{l:Expr}{tl:TE}(hl:PE X l tl):PI X tg l (Oj X.K tl):=by
 intro pins s σ H R I h
 refine thn (hl pins s σ H _ I h) λv s1 ⟨x,H1,I1,r1,q1⟩=>?_
 obtain⟨a,e,⟨xs,hq⟩,q⟩:=q1;subst e;cases r1;obtain⟨its,rv,p,hz⟩:=I1.tuple hq;refine wpAny_pyIter_tuple (show s1.heap.IsTuple a its.toArray from p) ?_;refine⟨s1.heap.objs.size,[s1.heap.objs.size],_,_,H1,rfl,I1.kept (t':=s1.toks) λb o e=>zn _ e,Oh a _,⟨_,zB _ rfl,rfl,rfl⟩,λb hb=>?_,q⟩
 have e:b=s1.heap.objs.size:=by simpa using hb
 subst e;exact I1.fpOk (zd _) (I1.hok.fresh (zd _))
theorem Om{pins:List (Addr×Obj)}{σ:St}{H:Hp}{s:Shared}{R:It->Hp->Prop}{E:Value->Shared->Prop}{lo hi:Int}{t u v:Tok}{tk:Nat}(I:Inv X pins σ H s)(h1:-(2 ^ 62)<=lo)(h2:lo<2 ^ 62)(h3:-(2 ^ 62)<=hi)(h4:hi<2 ^ 62)
  (q:R (Itr lo (hi - lo).toNat) H):wpAny (model X.prog X.w) X.A (pyIter (.ref s.heap.objs.size)) (PIE X pins σ tg R) E {s with heap:=s.heap.push {cls:=.type "range",data:=.fields #[.int lo t,.int hi u,.int 1 v]},toks:=tk}:=by
 refine wpAny_pyIter_range (IsRange.new ..) (small_one h1 h2 h3 h4) ?_
 have I1:Inv X pins σ H {s with heap:=s.heap.push {cls:=.type "range",data:=.fields #[.int lo t,.int hi u,.int 1 v]},toks:=tk}:=I.kept λb o e=>zn _ e
 refine⟨(s.heap.push {cls:=.type "range",data:=.fields #[.int lo t,.int hi u,.int 1 v]}).objs.size,[(s.heap.push {cls:=.type "range",data:=.fields #[.int lo t,.int hi u,.int 1 v]}).objs.size],_,_,H,rfl,
  I1.kept (t':=tk) λb o e=>zn _ e,Oi _ lo (hi - lo).toNat,?_,λb hb=>?_,q⟩
 ·have e1:lo+((0:Nat):Int) * 1=lo:=by simp
  have e2:(((hi - lo).toNat:Nat):Int) - ((0:Nat):Int)=Builtin.Range.rangeSize lo hi 1:=by rw[rangeSize_one];split<;>omega
  show IsRangeIter _ _ (lo+((0:Nat):Int) * 1) ((((hi - lo).toNat:Nat):Int) - ((0:Nat):Int)) 1;rw[e1,e2];exact zB _ rfl
 ·have e:b=(s.heap.push {cls:=.type "range",data:=.fields #[.int lo t,.int hi u,.int 1 v]}).objs.size:=by simpa using hb
  subst e;exact I1.fpOk (zd _) (I1.hok.fresh (zd _))
def Oo(ta:TA):TI:=λσ H R=>ta σ H λvs H1=>∃j:Int,vs=[.int j]/\-(2 ^ 62)<=j/\j<2 ^ 62/\R (Itr 0 j.toNat) H1
theorem Oq{a:Expr}{ta:TA}{p pos:Pos}(hg:Gl X "range")(hm:X.mg "range" = none)(ha:PA X [a] ta)(hs:starEach [a] X.env=[(false,eval a X.env)]:=by rfl):PI X tg (.Call (.Name "range" p) [a] [] pos) (Oo ta):=by
 intro pins s σ H R I h;refine Call_ (mH I hg hm boot_range (PyProof.Rows.callWith_type1 (thn (ha pos pins s σ H _ I h) λus s1 ⟨vs,H1,I1,r1,q1⟩=>?_) hs rfl));obtain⟨j,e,q1,q2,q⟩:=q1;subst e
 cases r1 with
 |cons r rr =>
  cases rr;obtain⟨t,rfl⟩:=r;exact call_range_1 (Om I1 (by omega) (by omega) q1 q2 (by simpa using q))
def wL(wi:TI)(g:TG)(tb:TS):TS:=λD σ H=>wi σ H λJ H1=>∃W:Nat->Nat->St->Hp->Prop,(∃m,W 0 m σ H1)/\∀i m σ H,W i m σ H ->
 (J.stop i H/\D.nx σ H)\/(J.go i H/\∃N:St->Hp->Prop,(∀σ' H',N σ' H'->∃m',m'<m/\W (i+1) m' σ' H')/\∀x H',J.yld i H x H'->g x σ H' λσ2 H2=>tb {D with nx:=N,ct:=N,bk:=D.nx} σ2 H2)
def qC(fp:List Addr)(h:Heap):List (Addr×Obj):=fp.filterMap λb=>(h.get? b).map λo=>(b,o)
theorem tK{fp:List Addr}{h:Heap}{b:Addr}{o:Obj}(hb:b∈fp)(e:h.get? b=some o):(b,o)∈qC fp h:=List.mem_filterMap.mpr ⟨b,hb,by rw[e];rfl⟩
theorem Ot{fp:List Addr}{h:Heap}{p:Addr×Obj}(hp:p∈qC fp h):p.1∈fp/\h.get? p.1=some p.2:=by
 obtain⟨b,hb,e⟩:=List.mem_filterMap.mp hp
 cases q:h.get? b with
 |none=>rw[q] at e;cases e
 |some o =>
  rw[q] at e;have e':(b,o)=p:=zE e;subst e';exact⟨hb,q⟩
theorem Inv.pinned{pins:List (Addr×Obj)}{σ:St}{H:Hp}{s:Shared}{fp:List Addr}(I:Inv X pins σ H s)(hf:∀b∈fp,f9 X pins H b)(ho:∀b∈fp,∃o,s.heap.get? b=some o/\∀v,o.data≠.cell v):Inv X (pins++qC fp s.heap) σ H s :=
 I.pins_of λp hp=>(zA.mp hp).elim (λz=>I.pin p (zU _ z)) λz=>by
  obtain⟨hb,e⟩:=Ot z;obtain⟨f0,f1,f2,_⟩:=hf p.1 hb;obtain⟨o,e',d⟩:=ho p.1 hb;rw[e] at e';cases e';exact⟨e,f0,f1,f2,d⟩
theorem Inv.unpinned{pins pl:List (Addr×Obj)}{σ:St}{H:Hp}{s:Shared}(I:Inv X (pins++pl) σ H s):Inv X pins σ H s:=I.pins_of λp hp=>I.pin p (zU _ (jv _ hp))
theorem Ek{iter:Expr}{body:List Stmt}{wi:TI}{g:TG}{tb:TS}{pos:Pos}(hp:PassesOwn (model X.prog X.w) X.A X.env X.xe)(hc:X.calm=true)(hi:PI X tg iter wi)(hg:PG X tg g)(hb:PSs X body tb)
  (hs:∀x,foldedSetIterable iter X.env x=pure x:=by intro _;rfl):PS X (.For tg iter body [] pos) (wL wi g tb):=by
 intro pins s σ H D I h;refine wpAny_For (thn (hi pins s σ H _ I h) λv s1 h1=>thn h1 λitv s2 h2=>?_) hs;obtain⟨it,fp,tn,J,H2,e,I2,T,st2,f2,W,⟨m0,w0⟩,turn⟩:=h2;subst e
 have stat:∀{H':Hp},(∀b∈fp,H' b=none)->∀b∈fp,f9 X pins H' b:=λhn b hb=>⟨hn b hb,(f2 b hb).2⟩
 refine codeAny_forLoop_any (λn s'=>∃i σ' H',Inv X pins σ' H' s'/\tn i s'.heap/\(∀b∈fp,H' b=none)/\W i n σ' H') ?_ m0 ⟨0,σ,H2,I2,st2,λb hb=>(f2 b hb).1,w0⟩;rintro n s3 ⟨i,σ3,H3,I3,st3,fr3,w3⟩
 rcases turn i n σ3 H3 w3 with⟨stop,qn⟩ | ⟨go,N,hN,step⟩
 ·refine wpAny_passesOwn hp (thn (T.done X rfl rfl rfl hc i pins s3 σ3 H3 X.xe I3 (stat fr3) st3 stop) λr s4 ⟨hr,I4⟩=>?_);subst hr;exact wpAny_execs_nil ⟨σ3,H3,I4,qn⟩
 ·refine wpAny_passesOwn hp (thn (T.item X rfl rfl rfl hc i pins s3 σ3 H3 X.xe I3 (stat fr3) st3 go) λr s4 ⟨u,hr,h4⟩=>?_);subst hr;refine wpAny_passesOwn hp (thn h4 λ_ s5 ⟨x,H5,I5,r5,y5,st5,fr5⟩=>?_);have I5':=I5.pinned (stat fr5) (T.obj _ _ st5);refine wpAny_passesOwn hp (thn (hg _ s5 σ3 H5 x u _ I5' r5 (step x H5 y5)) λ_ s6 ⟨σ6,H6,I6,q6⟩=>?_);refine wpAny_passesOwn hp (thn (hb _ s6 σ6 H6 _ I6 q6) λf s7 q7=>?_)
  have again:∀{σ7:St}{H7:Hp},Inv X (pins++qC fp s5.heap) σ7 H7 s7->N σ7 H7->∃m,m<n/\∃i σ' H',Inv X pins σ' H' s7/\tn i s7.heap/\(∀b∈fp,H' b=none)/\W i m σ' H':=λ{σ7 H7} I7 n7=>by
   obtain⟨m',hm,w7⟩:=hN σ7 H7 n7;refine⟨m',hm,i+1,σ7,H7,I7.unpinned,T.keep _ _ _ st5 λb hb o e=>(I7.pin (b,o) (zU _ (zU _ (tK hb e)))).1,λb hb=>?_,w7⟩;obtain⟨o,e,d⟩:=T.obj _ _ st5 b hb;exact(I7.pin (b,o) (zU _ (zU _ (tK hb e)))).2.1
  cases f with
  |next=>obtain⟨σ7,H7,I7,n7⟩:=q7;exact again I7 n7
  |cont=>obtain⟨σ7,H7,I7,n7⟩:=q7;exact again I7 n7
  |brk=>obtain⟨σ7,H7,I7,q7⟩:=q7;exact⟨σ7,H7,I7.unpinned,q7⟩
  |ret v=>obtain⟨x7,σ7,H7,I7,r7,q7⟩:=q7;exact⟨x7,σ7,H7,I7.unpinned,r7,q7⟩
end
abbrev R2:=V->V->Hp->VK->Prop
def OpR(X:Cx)(f:Value->Value->Sem Value)(r:R2):Prop :=
 ∀(pins:List (Addr×Obj)) (s:Shared) (σ:St) (H:Hp) (x y:V) (v u:Value) (Q:VK),Inv X pins σ H s->RelV x v->RelV y u->r x y H Q ->
  wpAny (model X.prog X.w) X.A (f v u) (EP X pins σ Q) X.xe s
def UnR(X:Cx)(f:Value->Sem Value)(r:V->Hp->VK->Prop):Prop :=
 ∀(pins:List (Addr×Obj)) (s:Shared) (σ:St) (H:Hp) (x:V) (v:Value) (Q:VK),Inv X pins σ H s->RelV x v->r x H Q ->
  wpAny (model X.prog X.w) X.A (f v) (EP X pins σ Q) X.xe s
def jB(X:Cx)(f:Value)(r:List V->Hp->VK->Prop):Prop :=
 ∀(pins:List (Addr×Obj)) (s:Shared) (σ:St) (H:Hp) (xs:List V) (us:List Value) (Q:VK),Inv X pins σ H s->aP xs us->r xs H Q ->
  wpAny (model X.prog X.w) X.A (call f us) (EP X pins σ Q) X.xe s
def Ou(X:Cx)(r:V->Hp->(Bool->Hp->Prop)->Prop):Prop :=
 ∀(pins:List (Addr×Obj)) (s:Shared) (σ:St) (H:Hp) (x:V) (v:Value) (Q:Bool->Hp->Prop),Inv X pins σ H s->RelV x v->r x H Q ->
  wpAny (model X.prog X.w) X.A (truthy v) (TP X pins σ Q) X.xe s
def tOp(r:R2)(ta tb:TE):TE:=λσ H Q=>ta σ H λx H1=>tb σ H1 λy H2=>r x y H2 Q
def tUn(r:V->Hp->VK->Prop)(ta:TE):TE:=λσ H Q=>ta σ H λx H1=>r x H1 Q
def rI(C:Int->Int->Prop)(g:Int->Int->V):R2:=λx y H Q=>∃i j,x=.int i/\y=.int j/\C i j/\Q (g i j) H
def rI0(g:Int->Int->V):R2:=λx y H Q=>∃i j,x=.int i/\y=.int j/\Q (g i j) H
def rU(g:Int->V):V->Hp->VK->Prop:=λx H Q=>∃i,x=.int i/\Q (g i) H
section
variable {X:Cx}{a b c:Expr}{ta tb tc:TE}{pos:Pos}
theorem wM(ha:PE X a ta)(hb:PE X b tb){pins:List (Addr×Obj)}{s:Shared}{σ:St}{H:Hp}{R:V->V->Hp->Prop}(I:Inv X pins σ H s)
  (h:ta σ H λx H1=>tb σ H1 λy H2=>R x y H2) {Q:Value->Shared->Prop}{f:Value->Value->Sem Value}
  (hf:∀v u s2 x y H2,Inv X pins σ H2 s2->RelV x v->RelV y u->R x y H2->wpAny (model X.prog X.w) X.A (f v u) Q X.xe s2):
  wpAny (model X.prog X.w) X.A (eval a X.env) (λv s₁=>wpAny (model X.prog X.w) X.A (eval b X.env) (λu s₂=>wpAny (model X.prog X.w) X.A (f v u) Q X.xe s₂) X.xe s₁) X.xe s:=by
 refine thn (ha pins s σ H _ I h) λv s1 ⟨x,H1,I1,r1,q1⟩=>?_
 refine thn (hb pins s1 σ H1 _ I1 q1) λu s2 ⟨y,H2,I2,r2,q2⟩=>?_
 exact hf v u s2 x y H2 I2 r1 r2 q2
theorem Ov{op:Operator}{r:R2}(ho:OpR X (binaryOp op) r)(ha:PE X a ta)(hb:PE X b tb):PE X (.BinOp a op b pos) (tOp r ta tb):=by
 intro pins s σ H Q I h;exact wpAny_BinOp (wM ha hb I h λv u s2 x y H2 I2 rx ry q=>ho pins s2 σ H2 x y v u Q I2 rx ry q)
theorem Ox{op:UnaryOp}{r:V->Hp->VK->Prop}(ho:UnR X (unaryOp op) r)(ha:PE X a ta):PE X (.UnaryOp op a pos) (tUn r ta):=by
 intro pins s σ H Q I h;exact UnaryOp_ (thn (ha pins s σ H _ I h) λv s1 ⟨x,H1,I1,r1,q1⟩=>ho pins s1 σ H1 x v Q I1 r1 q1)
theorem opI{f:Value->Value->Sem Value}{C:Int->Int->Prop}{g:Int->Int->Int}
  (rule:∀(i j:Int) (t u:Tok) (s:Shared) (Q:Value->Shared->Prop) (E:Value->Shared->Prop),C i j->Q (.int (g i j) s.toks) {s with toks:=s.toks+1}->wpAny (model X.prog X.w) X.A (f (.int i t) (.int j u)) Q E s):
  OpR X f (rI C λi j=>.int (g i j)):=by
 intro pins s σ H x y v u Q I rx ry h;obtain⟨i,j,rfl,rfl,hc,q⟩:=h;obtain⟨t,rfl⟩:=rx;obtain⟨t',rfl⟩:=ry;exact rule i j t t' s _ _ hc ⟨.int (g i j),H,I.tok _,⟨_,rfl⟩,q⟩
theorem El{f:Value->Value->Sem Value}{g:Int->Int->Int}
  (rule:∀(i j:Int) (t u:Tok) (s:Shared) (Q:Value->Shared->Prop) (E:Value->Shared->Prop),Q (.int (g i j) s.toks) {s with toks:=s.toks+1}->wpAny (model X.prog X.w) X.A (f (.int i t) (.int j u)) Q E s):
  OpR X f (rI0 λi j=>.int (g i j)):=by
 intro pins s σ H x y v u Q I rx ry h;obtain⟨i,j,rfl,rfl,q⟩:=h;obtain⟨t,rfl⟩:=rx;obtain⟨t',rfl⟩:=ry;exact rule i j t t' s _ _ ⟨.int (g i j),H,I.tok _,⟨_,rfl⟩,q⟩
theorem tL{f:Value->Value->Sem Value}{g:Int->Int->Bool}
  (rule:∀(i j:Int) (t u:Tok) (s:Shared) (Q:Value->Shared->Prop) (E:Value->Shared->Prop),Q (.bool (g i j)) s->wpAny (model X.prog X.w) X.A (f (.int i t) (.int j u)) Q E s):
  OpR X f (rI0 λi j=>.bl (g i j)):=by
 intro pins s σ H x y v u Q I rx ry h;obtain⟨i,j,rfl,rfl,q⟩:=h;obtain⟨t,rfl⟩:=rx;obtain⟨t',rfl⟩:=ry;exact rule i j t t' s _ _ ⟨.bl (g i j),H,I,rfl,q⟩
def Oz(i j:Int):Prop:=0<j/\j<1073741824
def OD(i j:Int):Prop:=0<=j/\j<=1000000/\i.natAbs<2 ^ 64
def wN(i j:Int):Prop:=(-(2 ^ 64)<i/\i<2 ^ 64)\/(-(2 ^ 64)<j/\j<2 ^ 64)
theorem wN.ok{i j:Int}(h:wN i j):IntMulOk i j:=by
 rcases h with⟨h1,h2⟩ | ⟨h1,h2⟩
 ·exact .of_left (intBits_le_64 h1 h2)
 ·exact .of_right (intBits_le_64 h1 h2)
theorem OJ:OpR X (binaryOp .Add) (rI0 λi j=>.int (i+j)):=El λ_ _ _ _ _ _ _ q=>add_int q
theorem Pa:OpR X (binaryOp .Sub) (rI0 λi j=>.int (i - j)):=El λ_ _ _ _ _ _ _ q=>sub_int q
theorem Pb:OpR X (binaryOp .Mult) (rI wN λi j=>.int (i * j)):=opI λ_ _ _ _ _ _ _ hc q=>mul_int q hc.ok
theorem Pg:OpR X (binaryOp .FloorDiv) (rI Oz λi j=>.int (i / j)):=opI λi j _ _ _ _ _ hc q=>by
 have h1:(0:Int)<j:=hc.1;have h2:j<1073741824:=hc.2;exact floordiv_int (by omega) (by rw[Int.fdiv_eq_ediv_of_nonneg i (by omega)];exact q) (.inl (PyProof.noPylong_small (by omega)))
theorem Ph:OpR X (binaryOp .Mod) (rI (λ_ j=>0<j) λi j=>.int (i % j)):=opI λi j _ _ _ _ _ hc q=>by
 have h1:(0:Int)<j:=hc;exact mod_int' (by omega) (by rw[Int.fmod_eq_emod_of_nonneg i (by omega)];exact q)
theorem Pj:OpR X (binaryOp .Pow) (rI OD λi j=>.int (i ^ j.toNat)):=opI λ_ _ _ _ _ _ _ hc q=>pow_int_small hc.1 hc.2.1 hc.2.2 q
theorem unI{f:Value->Sem Value}{g:Int->Int}
  (rule:∀(i:Int) (t:Tok) (s:Shared) (Q:Value->Shared->Prop) (E:Value->Shared->Prop),Q (.int (g i) s.toks) {s with toks:=s.toks+1}->wpAny (model X.prog X.w) X.A (f (.int i t)) Q E s):
  UnR X f (rU λi=>.int (g i)):=by
 intro pins s σ H x v Q I rx h;obtain⟨i,rfl,q⟩:=h;obtain⟨t,rfl⟩:=rx;exact rule i t s _ _ ⟨.int (g i),H,I.tok _,⟨_,rfl⟩,q⟩
theorem Pn:UnR X (unaryOp .USub) (rU λi=>.int (-i)):=unI λ_ _ _ _ _ q=>neg_int q
theorem Pq:OpR X (binaryOp .Add) (λx y H Q=>∃i k,x=.int i/\y=.bl k/\Q (.int (i+b2i k)) H):=by
 intro pins s σ H x y v u Q I rx ry h;obtain⟨i,k,rfl,rfl,q⟩:=h;obtain⟨t,rfl⟩:=rx;cases ry;exact add_int_bool ⟨.int (i+b2i k),H,I.tok _,⟨_,rfl⟩,q⟩
end
def Em:V->V->Bool
 | .non,.non=>true | .non,.int _=>true | .int _,.non=>true | .non,.bl _=>true | .bl _,.non=>true | .non,.str _=>true | .str _,.non=>true
 | .int _,.int _=>true | .bl _,.bl _=>true | .str _,.str _=>true | .byt _,.byt _=>true
 | .int _,.str _=>true | .str _,.int _=>true | .bl _,.str _=>true | .str _,.bl _=>true
 | _,_=>false
def rEq:R2:=λx y H Q=>Em x y=true/\Q (.bl (decide (x=y))) H
def rNe:R2:=λx y H Q=>Em x y=true/\Q (.bl (!decide (x=y))) H
theorem En{i j:Int}:decide (V.int i=V.int j)=(i == j):=by
 rw[Bool.eq_iff_iff];simp
theorem Eo{i j:Bool}:decide (V.bl i=V.bl j)=(i == j):=by
 rw[Bool.eq_iff_iff];simp
theorem Ep{i j:Str}:decide (V.str i=V.str j)=(i == j):=by
 rw[Bool.eq_iff_iff];simp
theorem Er{i j:Array UInt8}:decide (V.byt i=V.byt j)=(i.toList == j.toList):=by
 rw[Bool.eq_iff_iff];cases i;cases j;simp
section
variable {X:Cx}{a b c:Expr}{ta tb tc:TE}{pos:Pos}
theorem cJ{pins:List (Addr×Obj)}{σ:St}{H:Hp}{s:Shared}{Q:VK}{k k':Bool}(I:Inv X pins σ H s)(q:Q (.bl k) H)(e:k=k'):EP X pins σ Q (.bool k') s:=by
 subst e;exact⟨.bl k,H,I,rfl,q⟩
theorem wO:OpR X (compareOp .Eq) rEq:=by
 intro pins s σ H x y v u Q I rx ry h;obtain⟨hs,q⟩:=h
 cases x with
 |non =>
  cases rx
  cases y with
  |non=>cases ry;exact PySem.EqNone.eq_none_none (cJ I q (by simp))
  |bl j=>cases ry;exact PySem.EqNone.eq_none_bool (cJ I q (by simp))
  |int j=>obtain⟨t',rfl⟩:=ry;exact PySem.EqNone.eq_none_int (cJ I q (by simp))
  |str j=>obtain⟨t',rfl⟩:=ry;exact PySem.EqNone.eq_none_str (cJ I q (by simp))
  | _=>exact absurd (show false=true from hs) zq
 |bl i =>
  cases rx
  cases y with
  |non=>cases ry;exact PySem.EqNone.eq_bool_none (cJ I q (by simp))
  |bl j=>cases ry;exact eq_bool (cJ I q Eo)
  |str j=>obtain⟨t',rfl⟩:=ry;exact PySem.EqMixed.eq_bool_str (cJ I q (by simp))
  | _=>exact absurd (show false=true from hs) zq
 |int i =>
  obtain⟨t,rfl⟩:=rx
  cases y with
  |non=>cases ry;exact PySem.EqNone.eq_int_none (cJ I q (by simp))
  |int j=>obtain⟨t',rfl⟩:=ry;exact eq_int (cJ I q En)
  |str j=>obtain⟨t',rfl⟩:=ry;exact PySem.EqMixed.eq_int_str (cJ I q (by simp))
  | _=>exact absurd (show false=true from hs) zq
 |str i =>
  obtain⟨t,rfl⟩:=rx
  cases y with
  |non=>cases ry;exact PySem.EqNone.eq_str_none (cJ I q (by simp))
  |bl j=>cases ry;exact PySem.EqMixed.eq_str_bool (cJ I q (by simp))
  |int j=>obtain⟨t',rfl⟩:=ry;exact PySem.EqMixed.eq_str_int (cJ I q (by simp))
  |str j=>obtain⟨t',rfl⟩:=ry;exact eq_str (cJ I q Ep)
  | _=>exact absurd (show false=true from hs) zq
 |byt i =>
  obtain⟨t,rfl⟩:=rx
  cases y with
  |byt j=>obtain⟨t',rfl⟩:=ry;exact PySem.W.eq_bytes (cJ I q Er)
  | _=>exact absurd (show false=true from hs) zq
 | _=>cases y<;>exact absurd (show false=true from hs) zq
theorem wQ:OpR X (compareOp .NotEq) rNe:=by
 intro pins s σ H x y v u Q I rx ry h;obtain⟨hs,q⟩:=h
 cases x with
 |non =>
  cases rx
  cases y with
  |non=>cases ry;exact PySem.EqNone.ne_none_none (cJ I q (by simp))
  |bl j=>cases ry;exact PySem.EqNone.ne_none_bool (cJ I q (by simp))
  |int j=>obtain⟨t',rfl⟩:=ry;exact PySem.EqNone.ne_none_int (cJ I q (by simp))
  |str j=>obtain⟨t',rfl⟩:=ry;exact PySem.EqNone.ne_none_str (cJ I q (by simp))
  | _=>exact absurd (show false=true from hs) zq
 |bl i =>
  cases rx
  cases y with
  |non=>cases ry;exact PySem.EqNone.ne_bool_none (cJ I q (by simp))
  |bl j=>cases ry;exact ne_bool (cJ I q (congrArg not Eo))
  |str j=>obtain⟨t',rfl⟩:=ry;exact PySem.EqMixed.ne_bool_str (cJ I q (by simp))
  | _=>exact absurd (show false=true from hs) zq
 |int i =>
  obtain⟨t,rfl⟩:=rx
  cases y with
  |non=>cases ry;exact PySem.EqNone.ne_int_none (cJ I q (by simp))
  |int j=>obtain⟨t',rfl⟩:=ry;exact ne_int (cJ I q (congrArg not En))
  |str j=>obtain⟨t',rfl⟩:=ry;exact PySem.EqMixed.ne_int_str (cJ I q (by simp))
  | _=>exact absurd (show false=true from hs) zq
 |str i =>
  obtain⟨t,rfl⟩:=rx
  cases y with
  |non=>cases ry;exact PySem.EqNone.ne_str_none (cJ I q (by simp))
  |bl j=>cases ry;exact PySem.EqMixed.ne_str_bool (cJ I q (by simp))
  |int j=>obtain⟨t',rfl⟩:=ry;exact PySem.EqMixed.ne_str_int (cJ I q (by simp))
  |str j=>obtain⟨t',rfl⟩:=ry;exact ne_str (cJ I q (congrArg not Ep))
  | _=>exact absurd (show false=true from hs) zq
 |byt i =>
  obtain⟨t,rfl⟩:=rx
  cases y with
  |byt j=>obtain⟨t',rfl⟩:=ry;exact PySem.W.ne_bytes (cJ I q (congrArg not Er))
  | _=>exact absurd (show false=true from hs) zq
 | _=>cases y<;>exact absurd (show false=true from hs) zq
theorem Pu:OpR X (compareOp .Lt) (rI0 λi j=>.bl (decide (i<j))):=tL λ_ _ _ _ _ _ _ q=>lt_int q
theorem Px:OpR X (compareOp .LtE) (rI0 λi j=>.bl (decide (i<=j))):=tL λ_ _ _ _ _ _ _ q=>le_int q
theorem Py:OpR X (compareOp .Gt) (rI0 λi j=>.bl (decide (j<i))):=tL λ_ _ _ _ _ _ _ q=>gt_int q
theorem Pz:OpR X (compareOp .GtE) (rI0 λi j=>.bl (decide (j<=i))):=tL λ_ _ _ _ _ _ _ q=>ge_int q
theorem cT(b:Expr){op:CmpOp}(h:op≠.In:=by decide)(h2:op≠.NotIn:=by decide):behindInMarks op b=false:=by
 have e1:(op == CmpOp.In)=false:=by cases op<;>first | rfl | exact absurd rfl h
 have e2:(op == CmpOp.NotIn)=false:=by cases op<;>first | rfl | exact absurd rfl h2
 cases b<;>simp[behindInMarks,e1,e2]
theorem PB{op:CmpOp}{r:R2}(ho:OpR X (compareOp op) r)(ha:PE X a ta)(hb:PE X b tb)(hm:behindInMarks op b=false):PE X (.Compare a [op] [b] pos) (tOp r ta tb):=by
 intro pins s σ H Q I h;exact wpAny_Compare1 (wM ha hb I h λv u s2 x y H2 I2 rx ry q=>ho pins s2 σ H2 x y v u Q I2 rx ry q) hm
def wR(t:TE):TT:=λσ H Q=>t σ H λx H'=>∃k,x=.bl k/\Q k H'
theorem PJ{op:CmpOp}{r:R2}(ho:OpR X (compareOp op) r)(ha:PE X a ta)(hb:PE X b tb)(hm:behindInMarks op b=false):PT X (.Compare a [op] [b] pos) (wR (tOp r ta tb)):=by
 intro pins s σ H Q I h
 refine wpAny_isTrue_Compare1 (thn (ha pins s σ H _ I h) λv s1 ⟨x,H1,I1,r1,q1⟩=>thn (hb pins s1 σ H1 _ I1 q1) λu s2 ⟨y,H2,I2,r2,q2⟩ =>
  thn (ho pins s2 σ H2 x y v u _ I2 r1 r2 q2) λc s3 ⟨z,H3,I3,r3,k,e,q3⟩=>?_) hm
 subst e;cases r3;exact wpAny_truthy_bool ⟨H3,I3,q3⟩
def wU(K:PySem.W.Frag)(x:V)(H:Hp)(k:Bool):Prop :=
 match x with
 | .non=>k=false
 | .bl b=>k=b
 | .int i=>k=(i != 0)
 | .str y=>y.length<=sizeLine/\k=((y.length:Int) != 0)
 | .byt y=>y.size<=sizeLine/\k=((y.size:Int) != 0)
 | .ref p=>(∃xs,SqL K H p xs/\k = !xs.isEmpty)\/(∃xs,SqT K H p xs/\k = !xs.isEmpty)\/∃kvs,H p=some (.dK kvs)/\k = !kvs.isEmpty
 | _=>False
theorem PK{κ:Type}{kvs:List (κ×V)}{vs:List (κ×Value)}(r:KV kvs vs):(!vs.isEmpty) = !kvs.isEmpty:=by
 cases r<;>rfl
theorem Es{xs:List V}{its:List Value}(r:aP xs its):(!its.toArray.isEmpty) = !xs.isEmpty:=by
 cases r<;>simp
theorem qD:(sizeLine:Nat)<2 ^ 63:=by rw[sizeLine_eq];decide
theorem PL:Ou X (λx H Q=>∃k,wU X.K x H k/\Q k H):=by
 intro pins s σ H x v Q I rx h;obtain⟨k,e,q⟩:=h;have hl:=qD;have hs:sizeLine=16777216:=sizeLine_eq
 cases x with
 |non =>
  cases rx;have e':k=false:=e;subst e';exact truthy_none ⟨H,I,q⟩
 |bl b =>
  cases rx;have e':k=b:=e;subst e';exact wpAny_truthy_bool ⟨H,I,q⟩
 |int i =>
  obtain⟨t,rfl⟩:=rx;have e':k=(i != 0):=e;subst e';exact PySem.P.truthy_int ⟨H,I,q⟩
 |str y =>
  obtain⟨t,rfl⟩:=rx;obtain⟨hy,e'⟩:y.length<=sizeLine/\k=((y.length:Int) != 0):=e;subst e';exact PySem.P.truthy_str (by omega) ⟨H,I.tok _,q⟩
 |byt y =>
  obtain⟨t,rfl⟩:=rx;obtain⟨hy,e'⟩:y.size<=sizeLine/\k=((y.size:Int) != 0):=e;subst e';exact PySem.W.truthy_bytes (by omega) ⟨H,I.tok _,q⟩
 |ref p =>
  cases rx;have e':(∃xs,SqL X.K H p xs/\k = !xs.isEmpty)\/(∃xs,SqT X.K H p xs/\k = !xs.isEmpty)\/∃kvs,H p=some (.dK kvs)/\k = !kvs.isEmpty:=e
  rcases e' with⟨xs,hx,e'⟩ | ⟨xs,hx,e'⟩ | ⟨kvs,hx,e'⟩
  ·subst e';obtain⟨its,r,pl,hz⟩:=I.list hx;have hlen:=r.length;exact wpAny_truthy_list pl.isList (by simp only[zG];omega) ⟨H,I.tok _,by rw[Es r];exact q⟩
  ·subst e';obtain⟨its,r,pl,hz⟩:=I.tuple hx;have hlen:=r.length;exact truthy_tuple pl (by simp only[zG];omega) ⟨H,I.tok _,by rw[Es r];exact q⟩
  ·subst e';obtain⟨hz,hS,vs,r,m⟩:kvs.length<=sizeLine/\(p == sysModules)=false/\∃vs,KV kvs vs/\s.heap.DictOf (cR X.prog X.w) p vs:=I.hok p _ hx;have hlen:kvs.length=vs.length:=Paired.length r;exact wpAny_truthy_dict hS m (by omega) ⟨H,I.tok _,by rw[PK r];exact q⟩
 | _=>exact(show False from e).elim
theorem PN(ha:PE X a ta)(he:∀whole,isTrue a X.env whole=(do let v <-whole;standAt a.pos;holding [v] (truthy v))):
  PT X a (λσ H Q=>ta σ H λx H'=>∃k,wU X.K x H' k/\Q k H'):=by
 intro pins s σ H Q I h;exact isTrue_plain (thn (ha pins s σ H _ I h) λv s1 ⟨x,H1,I1,r1,q1⟩=>PL pins s1 σ H1 x v Q I1 r1 q1) (he _)
theorem PP:OpR X (binaryOp .Add) (λx y H Q=>∃i j,x=.str i/\y=.str j/\i.length+j.length<=sizeLine/\Q (.str (i++j)) H):=by
 intro pins s σ H x y v u Q I rx ry h;obtain⟨i,j,rfl,rfl,hz,q⟩:=h;obtain⟨t,rfl⟩:=rx;obtain⟨t',rfl⟩:=ry;exact add_str (λt' tk=>⟨.str (i++j),H,I.tok _,⟨_,rfl⟩,q⟩) hz
theorem vals1{x:V}{us:List Value}(r:aP [x] us):∃u,us=[u]/\RelV x u:=by
 cases r with
 |cons r1 r2=>cases r2;exact⟨_,rfl,r1⟩
theorem vals2{x y:V}{us:List Value}(r:aP [x,y] us):∃u w',us=[u,w']/\RelV x u/\RelV y w':=by
 cases r with
 |cons r1 r2 =>
  cases r2 with
  |cons r3 r4=>cases r4;exact⟨_,_,rfl,r1,r3⟩
def PQ(K:PySem.W.Frag)(x:V)(H:Hp)(n:Nat):Prop :=
 match x with
 | .str y=>y.length<=sizeLine/\n=y.length
 | .byt y=>y.size<=sizeLine/\n=y.size
 | .ref p=>(∃xs,SqL K H p xs/\n=xs.length)\/∃xs,SqT K H p xs/\n=xs.length
 | _=>False
theorem call_len:jB X (.builtin "len") (λxs H Q=>∃x n,xs=[x]/\PQ X.K x H n/\Q (.int n) H):=by
 intro pins s σ H xs us Q I r h;obtain⟨x,n,rfl,e,q⟩:=h;obtain⟨u,rfl,rx⟩:=vals1 r;have hl:=qD;have hs:sizeLine=16777216:=sizeLine_eq
 cases x with
 |str y =>
  obtain⟨t,rfl⟩:=rx;obtain⟨hy,e'⟩:y.length<=sizeLine/\n=y.length:=e;subst e';exact len_str (by omega) ⟨.int _,H,I.tok _,⟨_,rfl⟩,q⟩
 |byt y =>
  obtain⟨t,rfl⟩:=rx;obtain⟨hy,e'⟩:y.size<=sizeLine/\n=y.size:=e;subst e';exact PySem.W.len_bytes (by omega) ⟨.int _,H,I.tok _,⟨_,rfl⟩,q⟩
 |ref p =>
  cases rx;have e':(∃xs,SqL X.K H p xs/\n=xs.length)\/∃xs,SqT X.K H p xs/\n=xs.length:=e
  rcases e' with⟨xs,hx,e'⟩ | ⟨xs,hx,e'⟩
  ·subst e';obtain⟨its,r',pl,hz⟩:=I.list hx;have hlen:=r'.length;exact Calls.call_len_list pl.isList (by simp only[zG];omega) ⟨.int xs.length,H,I.tok _,⟨_,by simp only[zG];rw[hlen]⟩,q⟩
  ·subst e';obtain⟨its,r',pl,hz⟩:=I.tuple hx;have hlen:=r'.length;exact len_tuple pl (by simp only[zG];omega) ⟨.int xs.length,H,I.tok _,⟨_,by simp only[zG];rw[hlen]⟩,q⟩
 | _=>exact(show False from e).elim
end
structure mK(h:Heap)(x dx C:Addr)(mA:Str->Option Value):Prop where
 obj:h.get? x=some (PySem.W.instObj C dx)
 ns:h.Ns1 dx mA
 ne:dx≠x
theorem PX{h:Heap}{dx:Addr}{mA:Str->Option Value}(n:h.Ns1 dx mA):∃od,h.get? dx=some od/\∀name,PySem.W.lookIn name od=some (mA name):=by
 obtain⟨o,es,ep,ho,hd,hk,_,hm⟩:=n;refine⟨o,ho,λname=>?_⟩;have e:=hm name;unfold nsFind findBy at e;rw[<-Array.find?_toList] at e;unfold PySem.W.lookIn;rw[hd];dsimp only
 split
 ·rename_i y q;rw[q] at e;exact congrArg some e
 ·rename_i q;rw[q] at e
  have a:es.toList.any (·.refKey)=false:=by
   rw[List.any_eq_false];intro y hy;obtain⟨z,t,hkey⟩:=hk y (Array.mem_toList_iff.mp hy);simp[DictEntry.refKey,hkey]
  have a':¬es.toList.any (·.refKey)=true:=by rw[a];exact zq
  rw[if_neg a'];exact congrArg some e
theorem mK.look{h:Heap}{x dx C:Addr}{mA:Str->Option Value}(I:mK h x dx C mA):∃od,PySem.W.InstAt h x (PySem.W.instObj C dx) C (some od)/\∀name,PySem.W.lookIn name od=some (mA name):=
 let ⟨od,ho,hl⟩:=PX I.ns
 ⟨od,⟨I.obj,rfl,rfl,ho⟩,hl⟩
section
variable {prog:Program}{w:World}{A:Around}{E:Value->Shared->Prop}{s:Shared}{K:PySem.W.Frag}{x dx C f:Addr}{mA:Str->Option Value}{name:Str}{v:Value}
theorem P0{expr:Bool}{Q:Value->Shared->Prop}(X:K.In s.heap)(I:mK s.heap x dx C mA)(hg:PySem.W.plainGet K C name=true)(hh:PySem.W.hasDictIn K C=true)
  (ha:PySem.W.findIn K (.ref C) name=some none) (hv:mA name=some v) (hv':PySem.W.handedIn v=true) (h:Q v {s with toks:=s.toks+1}):
  wpAny (model prog w) A (getAttr (.ref x) name expr) Q E s:=by
 obtain⟨od,J,hl⟩:=I.look;exact PySem.W.get_value X J (PySem.W.plainGet_of hg).1 (PySem.W.findObj_own hh ha rfl (by rw[hl,hv])) hv' h
theorem Qa{pl:Sem Bool}{Q:Value×List Value->Shared->Prop}(X:K.In s.heap)(I:mK s.heap x dx C mA)(hg:PySem.W.plainGet K C name=true)
  (hf:PySem.W.findIn K (.ref C) name=some (some (.ref f))) (ht:PySem.W.isFn K (.ref f)=true) (hv:mA name=none) (h:Q (.ref f,[.ref x]) s):
  wpAny (model prog w) A (getMethod (.ref x) name pl) Q E s:=by
 obtain⟨od,J,hl⟩:=I.look;exact PySem.W.method_fn X J (PySem.W.plainGet_of hg).1 (PySem.W.plainGet_of hg).2 hf (beq_iff_eq.mp ht) (by show(PySem.W.lookIn name od).map (·.isSome)=some false;rw[hl,hv];rfl) h
theorem Qc{ns:List Str}{Q:Unit->Shared->Prop}(X:K.In s.heap)(I:mK s.heap x dx C mA)
  (hs:PySem.W.findIn K (.ref C) "__setattr__" = some (some (.builtin "object.__setattr__"))) (hp:PySem.W.plainOver K C=true) (ht:PySem.W.takerIn K C name=some none) (hh:PySem.W.hasDictIn K C=true)
  (hw:PySem.Within mA ns) (hsz:ns.length<=sizeLine)
  (h:∀h',mK h' x dx C (λy=>if y=name then some v else mA y)->Heap.SameBut dx s.heap h'->Q () {s with heap:=h',toks:=s.toks+2}):
  wpAny (model prog w) A (setAttr (.ref x) name v) Q E s:=by
 obtain⟨od,J,hl⟩:=I.look;refine PySem.W.set_plain X J hs (PySem.W.osa_open (s:={s with toks:=s.toks+1}) (r:=none) X J hp ht λb=>?_);obtain⟨cd,hc,hd'⟩:=PySem.W.any_some hh;have hx:s.heap.get? x=some ⟨.ref C,some dx,.plain,#[]⟩:=I.obj;refine za (zc (za (za (wpAny_loadPart hx (za (PySem.W.Looks.here (s:={s with toks:=s.toks+1}) (PySem.W.looks_clsIn X hc) ?_))))));rw[hd'];refine zc (a:=some dx) (za (zc (za ?_)))
 refine wpAny_nsSet1 (s:={s with toks:=s.toks+1}) I.ns λh' hn2 hs2=>?_
 obtain⟨oD,esD,epD,hoD,hdD,hcD⟩:=hn2.count (PySem.Within.cons name v hw);refine za (wpAny_lookBehind hoD (by rw[hdD];exact pastItsLine_dict (zH hcD (by rw[zI];omega))) ?_);exact zc (h _ ⟨(hs2.2 _ (Ne.symm I.ne)).trans I.obj,hn2,I.ne⟩ hs2)
theorem Qd{R:Result->Shared->Prop}{vs:List Value}{kw:List (Str×Value)}(X:K.In s.heap)(hm:PySem.W.makesIn K C=true)
  (hi:PySem.W.findIn K (.ref C) "__init__" = some (some (.ref f))) (hf:PySem.W.typeIn K (.ref f)=some (.type "function"))
  (h:codeAny (model prog w) (A.under (.builtin "type.__call__" ⟨.ref C::vs,kw⟩)) (.call (.ref f) ⟨.ref (s.heap.objs.size+1)::vs,kw⟩) (PySem.W.InitBack (s.heap.objs.size+1) R)
   {s with heap:=(s.heap.push PySem.W.emptyDict).push (PySem.W.instObj C s.heap.objs.size)}):
  codeAny (model prog w) A (.call (.ref C) ⟨vs,kw⟩) R s:=by
 obtain⟨hh,g,d,t,os⟩:=s;exact PySem.W.make_core (PySem.W.makes_of X hm) (PySem.W.looks_findIn X hi) (λself=>PySem.W.bind_fn X self hf) (.inl rfl) h
end
def dW(f:Str)(v:V):List (Str×V)->List (Str×V)
 | []=>[(f,v)]
 | (g,x)::r=>if g=f then(g,v)::r else(g,x)::dW f v r
theorem Et(f g:Str)(v:V):∀fs:List (Str×V),(dW f v fs).lookup g=if g=f then some v else fs.lookup g
 | []=>by
  show List.lookup g [(f,v)]=_
  by_cases h:g=f
  ·have hb:(g == f)=true:=beq_iff_eq.mpr h;simp only[List.lookup,hb,if_pos h]
  ·have hb:(g == f)=false:=beq_eq_false_iff_ne.mpr h;simp only[List.lookup,hb,if_neg h]
 | (k,x)::r=>by
  have ih:=Et f g v r;rw[show dW f v ((k,x)::r)=(if k=f then(k,v)::r else(k,x)::dW f v r) from rfl]
  by_cases hk:k=f
  ·rw[if_pos hk]
   by_cases h:g=k
   ·have hb:(g == k)=true:=beq_iff_eq.mpr h;simp only[List.lookup,hb,if_pos (h.trans hk)]
   ·have hb:(g == k)=false:=beq_eq_false_iff_ne.mpr h;simp only[List.lookup,hb,if_neg (λe:g=f=>h (e.trans hk.symm))]
  ·rw[if_neg hk]
   by_cases h:g=k
   ·have hb:(g == k)=true:=beq_iff_eq.mpr h;simp only[List.lookup,hb,if_neg (λe:g=f=>hk (h.symm.trans e))]
   ·have hb:(g == k)=false:=beq_eq_false_iff_ne.mpr h;simp only[List.lookup,hb];exact ih
theorem wV(f:Str)(v:V):∀fs:List (Str×V),f∈(dW f v fs).map (·.1)/\∀g,g∈fs.map (·.1)->g∈(dW f v fs).map (·.1)
 | []=>⟨by simp[dW],λg h=>by simp at h⟩
 | (k,x)::r=>by
  obtain⟨i1,i2⟩:=wV f v r;rw[show dW f v ((k,x)::r)=(if k=f then(k,v)::r else(k,x)::dW f v r) from rfl]
  by_cases hk:k=f
  ·rw[if_pos hk];subst hk;exact⟨by simp,λg h=>by simpa using h⟩
  ·rw[if_neg hk];refine⟨?_,λg h=>?_⟩
   ·rw[zh];exact zD _ i1
   ·rw[zh] at h ⊢
    rcases zF.mp h with e | e
    ·exact zF.mpr (.inl e)
    ·exact zD _ (i2 g e)
theorem Eu(f:Str)(v:V):∀fs:List (Str×V),(dW f v fs).length<=fs.length+1
 | []=>by simp[dW]
 | (k,x)::r=>by
  have ih:=Eu f v r;rw[show dW f v ((k,x)::r)=(if k=f then(k,v)::r else(k,x)::dW f v r) from rfl]
  by_cases hk:k=f
  ·rw[if_pos hk,zI,zI];omega
  ·rw[if_neg hk,zI,zI];omega
theorem dU.some_of{v:V}{o:Option Value}(r:dU (some v) o):∃u,o=some u/\RelV v u:=by
 cases o with
 |none=>exact(show False from r).elim
 |some u=>exact⟨u,rfl,r⟩
theorem dU.none_of{o:Option Value}(r:dU none o):o=none:=by
 cases o with
 |none=>rfl
 |some u=>exact(show False from r).elim
theorem Qe{v:V}{u:Value}(r:RelV v u):PySem.W.handedIn u=true:=by
 cases v with
 |non=>cases(show u=Value.none from r);rfl
 |bl b=>cases(show u=Value.bool b from r);rfl
 |int i=>obtain⟨t,e⟩:=(show ∃t,u=Value.int i t from r);cases e;rfl
 |str x=>obtain⟨t,e⟩:=(show ∃t,u=Value.str x t from r);cases e;rfl
 |byt b=>obtain⟨t,e⟩:=(show ∃t,u=Value.bytes b t from r);cases e;rfl
 |flt b=>obtain⟨t,e⟩:=(show ∃t,u=Value.float b t from r);cases e;rfl
 |ref a=>cases(show u=Value.ref a from r);rfl
 |ty n=>cases(show u=Value.type n from r);rfl
section
variable {P:Program}{w:World}{H H':Hp}{h h':Heap}{a C dx:Addr}{fs fs':List (Str×V)}
theorem tO(hok:HOk P w H h)(e:H a=some (.ins C dx fs)):∃mA,mK h a dx C mA/\(∀f,dU (fs.lookup f) (mA f))/\PySem.Within mA (fs.map (·.1))/\fs.length<=1000/\H dx=some (.own a):=by
 obtain⟨d,z,ne,ob,mA,n,r,q⟩:=(show bU P w H h a (.ins C dx fs) from hok a _ e);exact⟨mA,⟨ob,n,ne⟩,r,q,z,d⟩
end
structure Cls(K:PySem.W.Frag)(C:Addr):Prop where
 pg:PySem.W.plainGet K C Str.empty=true
 hd:PySem.W.hasDictIn K C=true
 po:PySem.W.plainOver K C=true
 sa:PySem.W.findIn K (.ref C) "__setattr__" = some (some (.builtin "object.__setattr__"))
theorem Cls.get{K:PySem.W.Frag}{C:Addr}(c:Cls K C)(f:Str):PySem.W.plainGet K C f=true:=c.pg
def mL(K:PySem.W.Frag)(C:Addr)(f:Str):Prop:=PySem.W.findIn K (.ref C) f=some none
theorem mL.taker{K:PySem.W.Frag}{C:Addr}{f:Str}(n:mL K C f):PySem.W.takerIn K C f=some none:=by
 unfold PySem.W.takerIn;rw[show PySem.W.findIn K (.ref C) f=some none from n];rfl
structure Con(K:PySem.W.Frag)(C:Addr)(f:Str)(v:V)(u:Value):Prop where
 at_:PySem.W.findIn K (.ref C) f=some (some u)
 rel:RelV v u
 get:PySem.W.specialIn K u "__get__" = some none
 cp:PySem.W.copiedNames.contains f=false
structure mO(K:PySem.W.Frag)(C:Addr)(m:Str)(f:Addr):Prop where
 at_:PySem.W.findIn K (.ref C) m=some (some (.ref f))
 fn:PySem.W.isFn K (.ref f)=true
 kp:PySem.W.keepIn K (.ref f)=true
section
variable {X:Cx}{pins:List (Addr×Obj)}{σ:St}{H:Hp}{s:Shared}{a C dx:Addr}{fs:List (Str×V)}{f:Str}{v:V}{A:Around}{E:Value->Shared->Prop}
theorem Qf{b:Bool}{Q:Value->Shared->Prop}(I:Inv X pins σ H s)(e:H a=some (.ins C dx fs))(c:Cls X.K C)(n:mL X.K C f)(l:fs.lookup f=some v)
  (h:∀u s',Inv X pins σ H s'->RelV v u->Q u s'):wpAny (model X.prog X.w) A (getAttr (.ref a) f b) Q E s:=by
 obtain⟨mA,O,r,_,_,_⟩:=tO I.hok e;obtain⟨u,hu,ru⟩:=dU.some_of (v:=v) (o:=mA f) (by rw[<-l];exact r f);exact P0 I.kIn O (c.get f) c.hd n hu (Qe ru) (h u _ (I.tok _) ru)
theorem Ew{m:Str}{g:Addr}{pl:Sem Bool}{Q:Value×List Value->Shared->Prop}(I:Inv X pins σ H s)(e:H a=some (.ins C dx fs))(c:Cls X.K C)(k:mO X.K C m g)(l:fs.lookup m=none)
  (h:Q (.ref g,[.ref a]) s):wpAny (model X.prog X.w) A (getMethod (.ref a) m pl) Q E s:=by
 obtain⟨mA,O,r,_,_,_⟩:=tO I.hok e;have hn:mA m=none:=dU.none_of (by rw[<-l];exact r m);exact Qa I.kIn O (c.get m) k.at_ k.fn hn h
theorem Qg{y:V}{u:Value}{Q:Unit->Shared->Prop}(I:Inv X pins σ H s)(e:H a=some (.ins C dx fs))(c:Cls X.K C)(n:mL X.K C f)(hl:fs.length<1000)(ry:RelV y u)
  (h:∀s',Inv X pins σ (upd H a (.ins C dx (dW f y fs))) s'->Q () s'):wpAny (model X.prog X.w) A (setAttr (.ref a) f u) Q E s:=by
 obtain⟨mA,O,r,wi,_,ho⟩:=tO I.hok e
 have hz:(fs.map (·.1)).length<=sizeLine:=by rw[zj,sizeLine_eq];omega
 refine Qc I.kIn O c.sa c.po n.taker c.hd wi hz λh' O' sb=>h _ ?_
 have hd:∃o,h'.get? dx=some o:=let ⟨o,_,_,e',_⟩:=O'.ns;⟨o,e'⟩;refine I.write (x:=a) (e:=dx) (by rw[e];exact True.intro) (.inr ho) (λb q hb z=>(sb.2 b hb).trans z) hd ?_;refine⟨by rw[aG O.ne];exact ho,?_,O.ne,O'.obj,_,O'.ns,λg=>?_,λg hg=>?_⟩
 ·have:=Eu f y fs;omega
 ·show dU ((dW f y fs).lookup g) (if g=f then some u else mA g);rw[Et]
  by_cases q:g=f
  ·rw[if_pos q,if_pos q];exact ry
  ·rw[if_neg q,if_neg q];exact r g
 ·by_cases q:g=f
  ·rw[q];exact(wV f y fs).1
  ·refine(wV f y fs).2 g (wi g λz=>hg ?_);show(if g=f then some u else mA g)=none;rw[if_neg q];exact z
theorem Inv.made(I:Inv X pins σ H s):Inv X pins σ (upd (upd H s.heap.objs.size (.own (s.heap.objs.size+1))) (s.heap.objs.size+1) (.ins C s.heap.objs.size []))
  {s with heap:=(s.heap.push PySem.W.emptyDict).push (PySem.W.instObj C s.heap.objs.size)}:=by
 have e1:(s.heap.push PySem.W.emptyDict).get? s.heap.objs.size=some PySem.W.emptyDict:=zB s.heap rfl
 have e2:((s.heap.push PySem.W.emptyDict).push (PySem.W.instObj C s.heap.objs.size)).get? (s.heap.objs.size+1)=some (PySem.W.instObj C s.heap.objs.size):=by
  have:=zB (s.heap.push PySem.W.emptyDict) (o:=PySem.W.instObj C s.heap.objs.size) rfl
  rwa [Heap.size_push] at this
 have e3:(s.heap.push PySem.W.emptyDict).Ns s.heap.objs.size (λ_=>none):=⟨PySem.W.emptyDict,#[],_,e1,rfl,(λe he=>absurd he (by simp)),λ_=>rfl⟩;have I1:=I.laid (a:=s.heap.objs.size) (o:=.own (s.heap.objs.size+1)) (h':=s.heap.push PySem.W.emptyDict) (t':=s.toks) (λb u q=>zn _ q) (zd _) ⟨_,e1⟩;refine I1.laid (a:=s.heap.objs.size+1) (o:=.ins C s.heap.objs.size []) (t':=s.toks) (λb u q=>zn _ q) (Nat.le_of_eq (Heap.size_push _ _)) ?_;have ne:s.heap.objs.size≠s.heap.objs.size+1:=zC (jr _);refine⟨by rw[aG ne,bF],Nat.zero_le _,ne,e2,λ_=>none,(Heap.Ns1.of_empty e3).at λo q=>zn _ q,λ_=>True.intro,λy hy=>absurd rfl hy⟩
theorem Qh{prog:Program}{w:World}{env:Env}{e:Expr}{f:Str}{pos:Pos}{s:Shared}{Q:Value->Shared->Prop}(hb:attributeBase e f env (eval e env)=eval e env)
  (h:wpAny (model prog w) A (eval e env) (λo s₁=>wpAny (model prog w) A (getAttr o f true) Q E s₁) E s):wpAny (model prog w) A (eval (.Attribute e f pos) env) Q E s :=
 Attribute_any_ h (by rw[arm_eval_Attribute,hb])
end
def Qi(K:PySem.W.Frag)(ta:TE)(f:Str):TE:=λσ H Q=>ta σ H λx H1=>∃a C dx fs v,x=.ref a/\H1 a=some (.ins C dx fs)/\Cls K C/\mL K C f/\fs.lookup f=some v/\Q v H1
def Qj(K:PySem.W.Frag)(ta tv:TE)(f:Str):TS:=λD σ H=>tv σ H λy H1=>ta σ H1 λx H2=>∃a C dx fs,x=.ref a/\H2 a=some (.ins C dx fs)/\Cls K C/\mL K C f/\fs.length<1000 /\
 D.nx σ (upd H2 a (.ins C dx (dW f y fs)))
section
variable {X:Cx}{o e value:Expr}{f:Str}{pos pos' tpos:Pos}{ta tv:TE}
theorem Qk(he:PE X e ta)(hb:attributeBase e f X.env (eval e X.env)=eval e X.env):PE X (.Attribute e f pos) (Qi X.K ta f):=by
 intro pins s σ H Q I h;refine Qh hb (thn (he pins s σ H _ I h) λu s1 ⟨x,H1,I1,rx,a,C,dx,fs,v,ex,ea,c,n,l,q⟩=>?_);subst ex;obtain rfl:u=Value.ref a:=rx
 exact Qf I1 ea c n l λu' s2 I2 ru=>⟨v,H1,I2,ru,q⟩
theorem Ql(ha:PE X o ta)(hv:PE X value tv)(hs:swapsWith value (some (.Attribute o f pos')) pos.line X.env=pure false):PS X (.Assign [.Attribute o f pos'] value pos) (Qj X.K ta tv f):=by
 intro pins s σ H D I h;refine plainObj_wpAny_Assign_Attribute (thn (hv pins s σ H _ I h) λu s1 ⟨y,H1,I1,ry,q⟩=>thn (ha pins s1 σ H1 _ I1 q) λov s2 ⟨x,H2,I2,rx,a,C,dx,fs,ex,ea,c,n,l,q2⟩=>?_) hs;subst ex;obtain rfl:ov=Value.ref a:=rx
 exact Qg I2 ea c n l ry λs3 I3=>⟨σ,_,I3,q2⟩
end
section
variable {X:Cx}{pins:List (Addr×Obj)}{σ:St}{H:Hp}{s:Shared}{A:Around}{E:Value->Shared->Prop}{Q:Value->Shared->Prop}{c:Value}{b:Bool}
inductive ik (K:PySem.W.Frag) (H:Hp):V->Value->Prop where
 | non:ik K H .non (.type "NoneType")
 | bl (x:Bool):ik K H (.bl x) (.type "bool")
 | int (i:Int):ik K H (.int i) (.type "int")
 | str (x:Str):ik K H (.str x) (.type "str")
 | flt (x:UInt64):ik K H (.flt x) (.type "float")
 | lst {a:Addr}{xs:List V} (e:H a=some (.lst xs)):ik K H (.ref a) (.type "list")
 | frz {a:Addr}{o:Obj}{xs:List V} (e:H a=some (.frz o (.lst xs))):ik K H (.ref a) (.type "list")
 | tup {a:Addr}{xs:List V} (e:H a=some (.tup xs)):ik K H (.ref a) (.type "tuple")
 | dK {a:Addr}{kvs:List (Key×V)} (e:H a=some (.dK kvs)):ik K H (.ref a) (.type "dict")
 | dT {a:Addr}{kvs:List (List Key×V)} (e:H a=some (.dT kvs)):ik K H (.ref a) (.type "dict")
 | ins {a C dx:Addr}{fs:List (Str×V)} (e:H a=some (.ins C dx fs)) (cl:Cls K C) (ha:PySem.W.findIn K (.ref C) "__class__" = some (some (.builtin "object.__class__")))
   (hn:PySem.W.specialIn K (.builtin "object.__class__") "__get__" = some (some (.builtin "getset_descriptor.__get__"))) (htk:PySem.W.takesIn K (.builtin "object.__class__")=some true)
   (hm:PySem.W.mroIn K C (.type "object")=some true):ik K H (.ref a) (.ref C)
theorem qF{x:V}{u t:Value}(I:Inv X pins σ H s)(rx:RelV x u)(ty:ik X.K H x t)(e:PySem.W.kitOne X.K t c=some b)(h:∀tk,Q (.bool b) {s with toks:=tk}):
  wpAny (model X.prog X.w) A (call (.builtin "isinstance") [u,c]) Q E s:=by
 cases ty with
 |non=>cases(show u=Value.none from rx);exact PySem.W.kia_one PySem.W.kitx_none I.kIn True.intro e (λz=>nomatch z) h
 |bl y=>cases(show u=Value.bool y from rx);exact PySem.W.kia_one PySem.W.kitx_bool I.kIn True.intro e (λz=>nomatch z) h
 |int i=>obtain⟨t,q⟩:=(show ∃t,u=Value.int i t from rx);cases q;exact PySem.W.kia_one PySem.W.kitx_int I.kIn True.intro e (λz=>nomatch z) h
 |str y=>obtain⟨t,q⟩:=(show ∃t,u=Value.str y t from rx);cases q;exact PySem.W.kia_one PySem.W.kitx_str I.kIn True.intro e (λz=>nomatch z) h
 |flt y=>obtain⟨t,q⟩:=(show ∃t,u=Value.float y t from rx);cases q;exact PySem.W.kia_one PySem.W.kitx_float I.kIn True.intro e (λz=>nomatch z) h
 | @lst a xs ea =>
  cases(show u=Value.ref a from rx);obtain⟨_,_,n,_,h1⟩:=(show bU X.prog X.w H s.heap a (.lst xs) from I.hok a _ ea);exact PySem.W.kia_one PySem.W.kitx_list I.kIn ⟨_,h1,rfl⟩ e (λz=>nomatch z) h
 | @frz a ob xs ea =>
  cases(show u=Value.ref a from rx);obtain⟨_,_,_,n,_,h1⟩:=(show bU X.prog X.w H s.heap a (.frz ob (.lst xs)) from I.hok a _ ea);exact PySem.W.kia_one PySem.W.kitx_list I.kIn ⟨_,h1,rfl⟩ e (λz=>nomatch z) h
 | @tup a xs ea =>
  cases(show u=Value.ref a from rx);obtain⟨_,_,_,p⟩:=(show bU X.prog X.w H s.heap a (.tup xs) from I.hok a _ ea);obtain⟨o,h1,h2,_⟩:=p;exact PySem.W.kia_one PySem.W.kitx_tuple I.kIn ⟨o,h1,h2⟩ e (λz=>nomatch z) h
 | @dK a kvs ea =>
  cases(show u=Value.ref a from rx);obtain⟨_,_,vs,_,p⟩:=(show bU X.prog X.w H s.heap a (.dK kvs) from I.hok a _ ea);obtain⟨o,es,ep,h1,h2,_⟩:=p;exact PySem.W.kia_one PySem.W.kitx_dict I.kIn ⟨o,h1,h2.1⟩ e (λz=>nomatch z) h
 | @dT a kvs ea =>
  cases(show u=Value.ref a from rx);obtain⟨_,_,xs,_,o,es,ep,h1,h2,_⟩:=(show bU X.prog X.w H s.heap a (.dT kvs) from I.hok a _ ea);exact PySem.W.kia_one PySem.W.kitx_dict I.kIn ⟨o,h1,h2.1⟩ e (λz=>nomatch z) h
 | @ins a C dx fs ea cl ha hn htk hm =>
  cases(show u=Value.ref a from rx);obtain⟨mA,O,_⟩:=tO I.hok ea;obtain⟨od,J,_⟩:=O.look;exact PySem.W.kia_one (PySem.W.kitx_own (cl.get _) cl.hd ha hn htk hm) I.kIn J e (λz=>nomatch z) h
end
structure aX(k:Nat)(A:Around):Prop where
 hd:A.handled=none
 dp:A.depth+3 * k+5<recursionLimit
 un:A.units+16 * k+200<cLine
theorem aX.mono{j k:Nat}{A:Around}(r:aX k A)(h:j<=k):aX j A:=⟨r.hd,by have:=r.dp;omega,by have:=r.un;omega⟩
theorem aX.deeper{k:Nat}{A:Around}(r:aX (k+1) A)(env:Env):aX k (A.deeper env):=
 ⟨r.hd,by have:=r.dp;show A.depth+1+3 * k+5<_;omega,by have:=r.un;show A.units+3+16 * k+200<_;omega⟩
theorem aX.in1{k:Nat}{A:Around}(r:aX (k+1) A):aX k A.in1 :=
 ⟨r.hd,by have:=r.dp;show A.depth+3 * k+5<_;omega,by have:=r.un;show A.units+1+16 * k+200<_;omega⟩
theorem Qm{A:Around}{C:Addr}{us:List Value}{kw:List (Str×Value)}:(A.under (.builtin "type.__call__" ⟨.ref C::us,kw⟩)).depth=A.depth+1:=by
 first | rfl | simp[Around.under,Code.weight,Code.isCreation,Code.isGuard,Code.isCaller,Code.frames,Code.isFrame,guardIds]
theorem Qn{A:Around}{C:Addr}{us:List Value}{kw:List (Str×Value)}:(A.under (.builtin "type.__call__" ⟨.ref C::us,kw⟩)).units=A.units+1:=by
 first | rfl | simp[Around.under,Code.cUnits,Code.frames,Code.isFrame]
theorem aX.make{k:Nat}{A:Around}(r:aX (k+1) A)(C:Addr)(us:List Value)(kw:List (Str×Value)):aX k (A.under (.builtin "type.__call__" ⟨.ref C::us,kw⟩)):=
 ⟨r.hd,by have:=r.dp;rw[Qm];omega,by have:=r.un;rw[Qn];omega⟩
theorem aX.depth{k:Nat}{A:Around}(r:aX k A):A.depth<recursionLimit:=by have:=r.dp;omega
theorem aX.units{k:Nat}{A:Around}(r:aX k A):A.units+64<cLine:=by have:=r.un;omega
def Ex:TA:=λ_ H Q=>Q [] H
def Qo(ta:TE)(tr:TA):TA:=λσ H Q=>ta σ H λx H1=>tr σ H1 λxs H2=>Q (x::xs) H2
section
variable {X:Cx}{e:Expr}{es:List Expr}{te:TE}{t:TA}{pos:Pos}
theorem jQ:PA X [] Ex:=λ_ _ _ _ H Q I h=>Calls.spliced_nil ⟨[],H,I,.nil,h⟩
theorem gJ(ha:PE X e te)(hr:PA X es t)(hs:starEach (e::es) X.env=(false,eval e X.env)::starEach es X.env:=by rfl):PA X (e::es) (Qo te t):=by
 intro pos pins s σ H Q I h;rw[hs];show wpAny _ _ (spliced ((false,eval e X.env)::backTo pos (starEach es X.env))) _ _ s;refine Calls.spliced_cons (thn (ha pins s σ H _ I h) λu s1 ⟨x,H1,I1,r1,q1⟩=>?_)
 exact thn (hr pos pins s1 σ H1 _ I1 q1) λus s2 ⟨xs,H2,I2,r2,q2⟩=>⟨x::xs,H2,I2,.cons r1 r2,q2⟩
def Qp(t:TA):TE:=λσ H Q=>t σ H λxs H1=>xs.length<=sizeLine/\∀p,H1 p=none->Q (.ref p) (upd H1 p (.tup xs))
def Qq(t:TA):TE:=λσ H Q=>t σ H λxs H1=>xs.length<=sizeLine/\∀p,H1 p=none->Q (.ref p) (upd H1 p (.lst xs))
theorem Qs{x1}(h:PA X es t):PE X (.Tuple es x1 pos) (Qp t):=by
 intro pins s σ H Q I hq;refine wpAny_Tuple_spliced (thn (h pos pins s σ H _ I hq) λus s1 ⟨xs,H1,I1,r,z,q⟩=>⟨by rw[<-r.length];exact z,?_⟩);have hf:H1 s1.heap.objs.size=none:=I1.hok.fresh (zd _);refine⟨.ref s1.heap.objs.size,upd H1 s1.heap.objs.size (.tup xs),I1.laid (t':=s1.toks) (λb u e=>zn _ e) (zd _) ?_,rfl,q _ hf⟩;exact⟨z,us,r,⟨_,zB _ rfl,rfl,_,rfl⟩⟩
theorem Qt(h:PA X es t):PE X (.List es pos) (Qq t):=by
 intro pins s σ H Q I hq;refine wpAny_List_spliced (thn (h pos pins s σ H _ I hq) λus s1 ⟨xs,H1,I1,r,z,q⟩=>⟨by rw[<-r.length];exact z,?_⟩);have hf:H1 s1.heap.objs.size=none:=I1.hok.fresh (zd _);refine⟨.ref s1.heap.objs.size,upd H1 s1.heap.objs.size (.lst xs),I1.laid (t':=s1.toks) (λb u e=>zn _ e) (zd _) ?_,rfl,q _ hf⟩;exact⟨z,us,0,r,zB _ rfl⟩
end
abbrev Sp:=List V->Hp->VK->XK->Prop
abbrev CXT:=List Env->Hp->Shared->XK->Value->Shared->Prop
structure gK(P:Program)(w:World)(K:PySem.W.Frag)(mg:Str->Option Value)(base:Heap)(A:Around)(outer:List Env)(s:Shared)(H:Hp):Prop where
 frames:A.frames=some outer
 mod:Mod K mg base
 bs:∀b o,base.get? b=some o->s.heap.get? b=some o/\H b=none
 bsz:base.objs.size<=s.heap.objs.size
 funs:s.heap.FunFrames base outer
 frf:∀b∈frs outer,H b=none
 hok:HOk P w H s.heap
 bare:AllBare s.gens
def CE(outer:List Env)(P:Program)(w:World)(H:Hp)(s:Shared)(Q:VK)(u:Value)(s':Shared):Prop :=
 ∃v H',s'.os=s.os/\AllBare s'.gens/\Un (frs outer) [] H H' s.heap s'.heap/\HOk P w H' s'.heap/\RelV v u/\Q v H'
def CR(CX:CXT)(outer:List Env)(P:Program)(w:World)(H:Hp)(s:Shared)(Q:VK)(E:XK)(r:Result)(s':Shared):Prop :=
 match r with
 | .ok (.ret u)=>CE outer P w H s Q u s'
 | .ok _=>False
 | .error e=>CX outer H s E e s'
structure cA(P:Program)(w:World)(K:PySem.W.Frag)(mg:Str->Option Value)(base:Heap)(CX:CXT)(k:Nat)(f:Addr)(fd:FuncData)(ps:List Str)(sp:Sp):Prop where
 len:∀vs H Q E,sp vs H Q E->vs.length=ps.length
 run:∀(A:Around) (outer:List Env) (s:Shared) (H:Hp) (args:Args) (us:List Value) (vs:List V) (Q:VK) (E:XK),aX k A->gK P w K mg base A outer s H->BindsTo s fd args (ps.zip us)->aP vs us->sp vs H Q E ->
  codeAny (model P w) A (.call (.ref f) args) (CR CX outer P w H s Q E) s
theorem cA.mono{P:Program}{w:World}{K:PySem.W.Frag}{mg:Str->Option Value}{base:Heap}{CX:CXT}{j k:Nat}{f:Addr}{fd:FuncData}{ps:List Str}{sp:Sp}(F:cA P w K mg base CX j f fd ps sp)(h:j<=k):
  cA P w K mg base CX k f fd ps sp:=⟨F.len,λA outer s H args us vs Q E hr=>F.run A outer s H args us vs Q E (hr.mono h)⟩
theorem cA.imp{P:Program}{w:World}{K:PySem.W.Frag}{mg:Str->Option Value}{base:Heap}{CX:CXT}{k:Nat}{f:Addr}{fd:FuncData}{ps:List Str}{sp sp':Sp}(F:cA P w K mg base CX k f fd ps sp)
  (h:∀vs H Q E,sp' vs H Q E->sp vs H Q E):cA P w K mg base CX k f fd ps sp' :=
 ⟨λvs H Q E q=>F.len vs H Q E (h _ _ _ _ q),λA outer s H args us vs Q E hr he hb hv hs=>F.run A outer s H args us vs Q E hr he hb hv (h _ _ _ _ hs)⟩
theorem gK.make{P:Program}{w:World}{K:PySem.W.Frag}{mg:Str->Option Value}{base:Heap}{A:Around}{outer:List Env}{s:Shared}{H:Hp}(e:gK P w K mg base A outer s H)(C:Addr)(us:List Value)(kw:List (Str×Value)):
  gK P w K mg base (A.under (.builtin "type.__call__" ⟨.ref C::us,kw⟩)) outer s H:=⟨by first | exact e.frames | (simpa [Around.under,Code.envs,Code.isFrame,pushEnvs] using e.frames),e.mod,e.bs,e.bsz,e.funs,e.frf,e.hok,e.bare⟩
theorem gK.in1{P:Program}{w:World}{K:PySem.W.Frag}{mg:Str->Option Value}{base:Heap}{A:Around}{outer:List Env}{s:Shared}{H:Hp}(e:gK P w K mg base A outer s H):
  gK P w K mg base A.in1 outer s H:=⟨e.frames,e.mod,e.bs,e.bsz,e.funs,e.frf,e.hok,e.bare⟩
section
variable {X:Cx}{pins:List (Addr×Obj)}{σ:St}{H:Hp}{s s':Shared}
theorem Inv.env0(I:Inv X pins σ H s):gK X.prog X.w X.K X.mg X.base X.A X.stack s H :=
 ⟨I.ok.frames,I.ok.mod,I.bs,zH I.ok.bsz I.sz,I.stack,I.stkFree,I.hok,I.bare⟩
theorem Inv.after{Q:VK}{u:Value}(I:Inv X pins σ H s)(h:CE X.stack X.prog X.w H s Q u s'):EP X pins σ Q u s':=by
 obtain⟨v,H',os,bare,un,hok,r,q⟩:=h;obtain⟨hh,g,d,t,os'⟩:=s';obtain rfl:os'=s.os:=os;exact⟨v,H',I.call (h':=hh) (g':=g) (d':=d) (t':=t) (ch:=[]) un hok bare (λb z=>absurd z (by simp)),r,q⟩
end
def wW(sp:Sp)(dvs:List V)(E:XK)(t:TA):TE:=λσ H Q=>t σ H λvs H1=>sp (vs++dvs) H1 Q E
def wX(C:Addr)(m:Str)(sp:Sp)(dvs:List V)(E:XK)(ta:TE)(t:TA):TE:=λσ H Q=>ta σ H λx H1=>∃a dx fs,x=.ref a/\H1 a=some (.ins C dx fs)/\fs.lookup m=none /\
 t σ H1 λvs H2=>sp (x::(vs++dvs)) H2 Q E
def Ey(C:Addr)(sp:Sp)(dvs:List V)(E:XK)(t:TA):TE:=λσ H Q=>t σ H λvs H1=>∀x dx,H1 x=none->H1 dx=none->dx≠x ->
 sp (.ref x::(vs++dvs)) (upd (upd H1 dx (.own x)) x (.ins C dx [])) (λv H2=>v=.non/\Q (.ref x) H2) E
def Binds(K:PySem.W.Frag)(fd:FuncData)(ps:List Str)(ds:List Value):Prop :=
 ∀(s:Shared) (us:List Value),K.In s.heap->(us++ds).length=ps.length->BindsTo s fd ⟨us,[]⟩ (ps.zip (us++ds))
theorem Binds.all{K:PySem.W.Frag}{fd:FuncData}{ps:List Str}(h:∀us:List Value,us.length=ps.length->bindArgs fd ⟨us,[]⟩=pure (ps.zip us)):Binds K fd ps []:=λs us _ hl=>by
 rw[je] at hl ⊢;exact .of_eq (h us hl)
def mQ(CX:CXT)(X:Cx)(E:XK):Prop:=∀(pins:List (Addr×Obj)) (σ:St) (H:Hp) (s:Shared) (e:Value) (s':Shared),Inv X pins σ H s->CX X.stack H s E e s'->X.xe e s'
section
variable {X:Cx}{CX:CXT}{k:Nat}{f C:Addr}{fd:FuncData}{ps:List Str}{sp:Sp}{dvs:List V}{ds:List Value}{E:XK}{x m:Str}{p pos apos:Pos}{e o:Expr}{es:List Expr}{ta:TE}{t:TA}
theorem wY{pins:List (Addr×Obj)}{σ:St}{H:Hp}{s:Shared}{Q:VK}{us:List Value}{vs:List V}(F:cA X.prog X.w X.K X.mg X.base CX k f fd ps sp)(hr:aX k X.A)(hb:Binds X.K fd ps ds)(hd:aP dvs ds)(hx:mQ CX X E)
  (I:Inv X pins σ H s) (r:aP vs us) (h:sp (vs++dvs) H Q E):wpAny (model X.prog X.w) X.A (call (.ref f) us) (EP X pins σ Q) X.xe s:=by
 have r2:aP (vs++dvs) (us++ds):=r.append hd
 have hl:(us++ds).length=ps.length:=by rw[<-r2.length];exact F.len _ _ _ _ h
 refine wpAny_call (codeAny_mono (F.run X.A X.stack s H ⟨us,[]⟩ (us++ds) (vs++dvs) Q E hr I.env0 (hb s us I.kIn hl) r2 h) λr s' hq=>?_)
 cases r with
 |error e=>exact hx pins σ H s e s' I hq
 |ok fl =>
  cases fl with
  |ret u=>exact I.after hq
  |next=>exact False.elim hq
  |brk=>exact False.elim hq
  |cont=>exact False.elim hq
theorem Qu(F:cA X.prog X.w X.K X.mg X.base CX k f fd ps sp)(hr:aX k X.A)(hg:Gl X x)(hm:X.mg x=some (.ref f))(hk:PySem.W.keepIn X.K (.ref f)=true)(hb:Binds X.K fd ps ds)(hd:aP dvs ds)(hx:mQ CX X E)
  (ha:PA X (e::es) t) (hdb:(x == ("__debug__":Str))=false:=by decide) (he:starEach (e::es) X.env=(false,eval e X.env)::starEach es X.env:=by rfl) (hpl:(backTo pos (starEach es X.env)).any (·.1)=false:=by rfl):
  PE X (.Call (.Name x p) (e::es) [] pos) (wW sp dvs E t):=by
 intro pins s σ H Q I h;refine wpAny_Call_Name_kw (wH I hg hm ?_ hdb);refine PySem.W.callWith_K (h₀:=X.base) I.ok.mod.kin hk (thn (ha pos pins s σ H _ I h) λus s1 ⟨vs,H1,I1,r,q⟩=>⟨I1.kIn,?_⟩) he hpl;exact wY F hr hb hd hx I1 r q
theorem Qv{pl:Sem Bool}(he:PE X o ta)(c:Cls X.K C)(hm:mO X.K C m f)(F:cA X.prog X.w X.K X.mg X.base CX k f fd ps sp)(hr:aX k X.A)(hb:Binds X.K fd ps ds)(hd:aP dvs ds)(hx:mQ CX X E)(ha:PA X (e::es) t)
  (hst:starEach (e::es) X.env=(false,eval e X.env)::starEach es X.env:=by rfl) (hpl:(backTo pos (starEach es X.env)).any (·.1)=false:=by rfl)
  (ht:eval (.Call (.Attribute o m apos) (e::es) [] pos) X.env=(do
   let ov <-eval o X.env
   standAt apos.atName
   let (f,first) <-holding [ov] (getMethod ov m pl)
   callWith pos f first (backTo pos (starEach (e::es) X.env)) (backToKw pos (keywordEach [] X.env))):=by rfl):
  PE X (.Call (.Attribute o m apos) (e::es) [] pos) (wX C m sp dvs E ta t):=by
 intro pins s σ H Q I h;refine PySem.W.methodCall_KW (pl:=pl) (thn (he pins s σ H _ I h) λu s1 ⟨x,H1,I1,rx,a,dx,fs,ex,ea,l,q⟩=>?_) ht;subst ex;obtain rfl:u=Value.ref a:=rx;refine Ew I1 ea c hm l ?_;refine PySem.W.callWith_K (first:=[.ref a]) (h₀:=X.base) I.ok.mod.kin hm.kp (thn (ha pos pins s1 σ H1 _ I1 q) λus s2 ⟨vs,H2,I2,r,q2⟩=>⟨I2.kIn,?_⟩) hst hpl;exact wY (us:=.ref a::us) (vs:=.ref a::vs) F hr hb hd hx I2 (.cons rfl r) q2
theorem Qw{pl:Sem Bool}(he:PE X o ta)(c:Cls X.K C)(hm:mO X.K C m f)(F:cA X.prog X.w X.K X.mg X.base CX k f fd ps sp)(hr:aX k X.A)(hb:Binds X.K fd ps ds)(hd:aP dvs ds)(hx:mQ CX X E)
  (ht:eval (.Call (.Attribute o m apos) [] [] pos) X.env=(do
   let ov <-eval o X.env
   standAt apos.atName
   let (f,first) <-holding [ov] (getMethod ov m pl)
   callWith pos f first (backTo pos (starEach [] X.env)) (backToKw pos (keywordEach [] X.env))):=by rfl):
  PE X (.Call (.Attribute o m apos) [] [] pos) (wX C m sp dvs E ta Ex):=by
 intro pins s σ H Q I h;refine PySem.W.methodCall_KW (pl:=pl) (thn (he pins s σ H _ I h) λu s1 ⟨x,H1,I1,rx,a,dx,fs,ex,ea,l,q⟩=>?_) ht;subst ex;obtain rfl:u=Value.ref a:=rx;refine Ew I1 ea c hm l ?_;exact PySem.W.callWith_K0 (first:=[.ref a]) I1.kIn hm.kp (wY (us:=[.ref a]) (vs:=[.ref a]) F hr hb hd hx I1 (.cons rfl .nil) q)
structure Mk(K:PySem.W.Frag)(C f:Addr):Prop where
 makes:PySem.W.makesIn K C=true
 init:PySem.W.findIn K (.ref C) "__init__" = some (some (.ref f))
 fn:PySem.W.isFn K (.ref f)=true
 kp:PySem.W.keepIn K (.ref C)=true
theorem Qx{pins:List (Addr×Obj)}{σ:St}{H:Hp}{s:Shared}{Q:VK}{us:List Value}{vs:List V}(M:Mk X.K C f)(F:cA X.prog X.w X.K X.mg X.base CX k f fd ps sp)(hr:aX (k+1) X.A)(hb:Binds X.K fd ps ds)(hd:aP dvs ds)
  (hx:mQ CX X E) (I:Inv X pins σ H s) (r:aP vs us)
  (h:∀x dx,H x=none->H dx=none->dx≠x->sp (.ref x::(vs++dvs)) (upd (upd H dx (.own x)) x (.ins C dx [])) (λv H2=>v=.non/\Q (.ref x) H2) E):
  wpAny (model X.prog X.w) X.A (call (.ref C) us) (EP X pins σ Q) X.xe s:=by
 have hq:=h (s.heap.objs.size+1) s.heap.objs.size (I.hok.fresh (Nat.le_succ _)) (I.hok.fresh (zd _)) (zC (jr _));have I2:=Inv.made (C:=C) I;have r2:aP (V.ref (s.heap.objs.size+1)::(vs++dvs)) (Value.ref (s.heap.objs.size+1)::(us++ds)):=.cons rfl (r.append hd)
 have hl:(Value.ref (s.heap.objs.size+1)::us++ds).length=ps.length:=by
  have e:=r2.length;rw[F.len _ _ _ _ hq] at e;exact e.symm
 refine wpAny_call (Qd (f:=f) I.kIn M.makes M.init (beq_iff_eq.mp M.fn) (codeAny_mono (F.run _ X.stack _ _ ⟨Value.ref (s.heap.objs.size+1)::us,[]⟩ (Value.ref (s.heap.objs.size+1)::(us++ds)) _ _ E (hr.make C us [])
  (I2.env0.make C us []) (hb _ (Value.ref (s.heap.objs.size+1)::us) I2.kIn hl) r2 hq) λr s' hq'=>?_))
 cases r with
 |error e=>exact hx pins σ _ _ e s' I2 hq'
 |ok fl =>
  cases fl with
  |ret u =>
   obtain⟨v,H',I3,rv,ev,q3⟩:=I2.after hq';subst ev;exact⟨rv,⟨V.ref (s.heap.objs.size+1),H',I3,rfl,q3⟩⟩
  |next=>exact False.elim hq'
  |brk=>exact False.elim hq'
  |cont=>exact False.elim hq'
theorem Qy(M:Mk X.K C f)(F:cA X.prog X.w X.K X.mg X.base CX k f fd ps sp)(hr:aX (k+1) X.A)(hg:Gl X x)(hm:X.mg x=some (.ref C))(hb:Binds X.K fd ps ds)(hd:aP dvs ds)(hx:mQ CX X E)
  (ha:PA X (e::es) t) (hdb:(x == ("__debug__":Str))=false:=by decide) (he:starEach (e::es) X.env=(false,eval e X.env)::starEach es X.env:=by rfl) (hpl:(backTo pos (starEach es X.env)).any (·.1)=false:=by rfl):
  PE X (.Call (.Name x p) (e::es) [] pos) (Ey C sp dvs E t):=by
 intro pins s σ H Q I h;refine wpAny_Call_Name_kw (wH I hg hm ?_ hdb);refine PySem.W.callWith_K (h₀:=X.base) I.ok.mod.kin M.kp (thn (ha pos pins s σ H _ I h) λus s1 ⟨vs,H1,I1,r,q⟩=>⟨I1.kIn,?_⟩) he hpl;exact Qx M F hr hb hd hx I1 r q
end
section
variable {X:Cx}{CX:CXT}{k:Nat}{f C:Addr}{fd:FuncData}{ps ks:List Str}{sp:Sp}{E:XK}{x m:Str}{p pos apos kpos:Pos}{e o:Expr}{es:List Expr}{kws:List Keyword}{te ta:TE}{t tk:TA}{nm:Option Str}
structure QyK(K:PySem.W.Frag)(fd:FuncData)(ps ks:List Str)(g:List Value->List Value->List Value)(gV:List V->List V->List V):Prop where
 to:∀(s:Shared) (us ws:List Value),K.In s.heap->(g us ws).length=ps.length->BindsTo s fd ⟨us,ks.zip ws⟩ (ps.zip (g us ws))
 rel:∀{vs:List V}{us:List Value}{zs:List V}{ws:List Value},aP vs us->aP zs ws->aP (gV vs zs) (g us ws)
variable {g:List Value->List Value->List Value}{gV:List V->List V->List V}
end
structure bN(N P:List Str)(sc:Scope):Prop where
 kind:sc.kind=.function
 co:sc.isCoroutine=false
 gen:sc.isGenerator=false
 nd:N.Nodup
 pre:N.take P.length=P
 par:∀x∈P,sc.names.lookup x=some .local\/sc.names.lookup x=some .cell
 nofree:∀y∈sc.names,y.2≠.free
theorem Ez{kindOf:Str->Option NameKind}{x:Str}:∀{binds:List (Str×Value)}{m:Str->Option Value},(∀v,(x,v)∉binds)->bindL kindOf binds m x=m x
 | [],_,_=>rfl
 | (n,v)::r,m,h=>by
  unfold bindL;rw[Ez λw hw=>h w (zD _ hw)]
  split
  ·have:x≠n:=by rintro rfl;exact h v zr
   simp[this]
  ·rfl
theorem EY{kindOf:Str->Option NameKind}{x:Str}:∀{binds:List (Str×Value)}{m:Str->Option Value},(∀v,(x,v)∉binds)->bindC kindOf binds m x=m x
 | [],_,_=>rfl
 | (n,v)::r,m,h=>by
  unfold bindC;rw[EY λw hw=>h w (zD _ hw)]
  split
  ·rfl
  ·have:x≠n:=by rintro rfl;exact h v zr
   simp[this]
theorem Fb{kindOf:Str->Option NameKind}{x:Str}{v:Value}:∀{P:List Str}{vs:List Value}{i:Nat}{m:Str->Option Value},P.Nodup->P[i]?=some x->vs[i]?=some v->kindOf x=some .local ->
  bindL kindOf (P.zip vs) m x=some v
 | [],_,_,_,_,h,_,_=>by simp at h
 | _::_,[],_,_,_,_,h,_=>by simp at h
 |p::P,w::vs,0,m,nd,h1,h2,hk=>by
  simp at h1 h2;subst h1;subst h2
  show bindL kindOf ((p,w)::P.zip vs) m p=_;unfold bindL;rw[Ez λv hv=>(List.nodup_cons.mp nd).1 (List.of_mem_zip hv).1,if_pos hk];simp
 |p::P,w::vs,i+1,m,nd,h1,h2,hk=>by
  show bindL kindOf ((p,w)::P.zip vs) m x=_;unfold bindL;exact Fb (i:=i) (List.nodup_cons.mp nd).2 (by simpa using h1) (by simpa using h2) hk
theorem Fd{kindOf:Str->Option NameKind}{x:Str}{v:Value}:∀{P:List Str}{vs:List Value}{i:Nat}{m:Str->Option Value},P.Nodup->P[i]?=some x->vs[i]?=some v->kindOf x≠some .local ->
  bindC kindOf (P.zip vs) m x=some v
 | [],_,_,_,_,h,_,_=>by simp at h
 | _::_,[],_,_,_,_,h,_=>by simp at h
 |p::P,w::vs,0,m,nd,h1,h2,hk=>by
  simp at h1 h2;subst h1;subst h2
  show bindC kindOf ((p,w)::P.zip vs) m p=_;unfold bindC;rw[EY λv hv=>(List.nodup_cons.mp nd).1 (List.of_mem_zip hv).1,if_neg hk];simp
 |p::P,w::vs,i+1,m,nd,h1,h2,hk=>by
  show bindC kindOf ((p,w)::P.zip vs) m x=_;unfold bindC;exact Fd (i:=i) (List.nodup_cons.mp nd).2 (by simpa using h1) (by simpa using h2) hk
def start(N:List Str)(vs:List V):St:=vs.map some++List.replicate (N.length - vs.length) none
def il(CX:CXT)(P:Program)(w:World)(K:PySem.W.Frag)(mg:Str->Option Value)(base:Heap)(N:List Str)(qual:Str)(scope:Scope)(f:Addr)(cd:Value)(A:Around)(outer:List Env)(s:Shared)(H:Hp)(E:XK):Cx where
 prog:=P
 w:=w
 K:=K
 mg:=mg
 base:=base
 A:=A.deeper (envOfC qual scope s.heap.objs.size f cd)
 N:=N
 s₀:=s
 H₀:=H
 env:=envOfC qual scope s.heap.objs.size f cd
 outer:=outer
 stack:=envOfC qual scope s.heap.objs.size f cd::outer
 ex:=[]
 calm:=true
 fn:=λ_=>true
 pn:=[]
 xe:=λe s'=>wpAny (model P w) (A.deeper (envOfC qual scope s.heap.objs.size f cd)) (leaving (envOfC qual scope s.heap.objs.size f cd) e) (λ_ s''=>CX outer H s E e s'') (λe' s''=>CX outer H s E e' s'') s'
theorem Fe{sc:Scope}{n:Nat}{x:Str}(h:sc.names.lookup x=some .cell):∃c,(cellsFrom n sc.names []).lookup x=some c:=by
 have q:=PySem.W.cellsFrom_some sc.names n [] (.inl h);exact Option.isSome_iff_exists.mp q
theorem Qz{CX:CXT}{P:Program}{w:World}{K:PySem.W.Frag}{mg:Str->Option Value}{base:Heap}{N ps:List Str}{qual:Str}{scope:Scope}{f:Addr}{cd:Value}{A:Around}{outer:List Env}{s s1:Shared}{H:Hp}{E:XK}{us:List Value}{vs:List V}
  (S:bN N ps scope) (hd:A.handled=none) (e0:gK P w K mg base A outer s H) (hl:vs.length=ps.length) (r:aP vs us)
  (x:InCallC s s.heap.objs.size (bindL (envOfC qual scope s.heap.objs.size f cd).kindOf (ps.zip us) λ_=>none) (cellsFrom (s.heap.objs.size+1) scope.names []) (bindC (envOfC qual scope s.heap.objs.size f cd).kindOf (ps.zip us) λ_=>none) s1):
  Inv (il CX P w K mg base N qual scope f cd A outer s H E) [] (start N vs) H s1:=by
 have hpl:ps.length<=N.length:=by have:=congrArg List.length S.pre;rw[List.length_take] at this;omega
 obtain⟨h1,tk,rfl,hk⟩:=x.done
 have noA:∀b:Addr,b∉(il CX P w K mg base N qual scope f cd A outer s H E).ex:=λb z=>absurd (show b∈([]:List Addr) from z) (by simp)
 refine⟨⟨e0.mod,S.kind,rfl,rfl,zd _,λy z c h1 h2=>?_,λy hy=>?_,λy c _ h=>?_,λ_=>hd,Around.frames_deeper e0.frames,.inr ⟨rfl,rfl⟩,λb z=>absurd z (noA b),e0.bs,e0.bsz,λb _ _=>noA b,λb z=>absurd z (noA b),e0.funs,e0.frf⟩,
  rfl,e0.bare,Un.kept hk,⟨_,x.toInCall.ns,λi y v h1 h2 h3=>?_⟩,λy c h=>⟨_,x.cell y c h⟩,e0.hok.fresh (zd _),λy c h=>?_,λp hp=>absurd (show p∈([]:List (Addr×Obj)) from hp) (by simp),e0.hok.kept hk,?_⟩
 ·exact name_of_addr x.apart (PySem.mem_of_lookup h1) (PySem.mem_of_lookup h2)
 ·have hy:scope.names.lookup y=some .cell\/scope.names.lookup y=some .free:=hy
  rcases hy with hy | hy
  ·exact Fe hy
  ·exact absurd rfl (S.nofree _ (PySem.mem_of_lookup hy))
 ·exact Nat.le_of_lt (x.above y c (PySem.mem_of_lookup h))
 ·have hi:i<vs.length:=by
   unfold start at h2
   by_cases hi:i<vs.length
   ·exact hi
   ·rw[zJ (by simpa using hi)] at h2;rw[List.getElem?_replicate] at h2
    split at h2<;>cases h2
  have ha:vs[i]?=some v:=by
   unfold start at h2;rw[zK (by simpa using hi),zy] at h2
   cases e:vs[i]? with
   |none=>rw[e] at h2;cases h2
   |some a=>rw[e] at h2;cases h2;rfl
  obtain⟨u,hu,rv⟩:=r.get ha
  have hp:ps[i]?=some y:=by
   rw[<-S.pre,List.getElem?_take_of_lt (by omega)];exact h1
  have ndP:ps.Nodup:=by rw[<-S.pre];exact S.nd.sublist (List.take_sublist _ _)
  refine⟨u,rv,?_⟩
  rcases S.par y (zO hp) with k | k
  ·exact .inl ⟨k,Fb ndP hp hu k⟩
  ·obtain⟨c,e⟩:=Fe (n:=s.heap.objs.size+1) k;refine .inr ⟨.inl k,c,e,?_⟩;have q:=x.cell y c e;rw[Fd ndP hp hu (by show scope.names.lookup y≠_;rw[k];decide)] at q;exact q
 ·exact e0.hok.fresh (Nat.le_of_lt (x.above y c (PySem.mem_of_lookup h)))
 ·unfold start;show _=N.length;rw[zv,zj,List.length_replicate];omega
theorem Ff{CX:CXT}{P:Program}{w:World}{K:PySem.W.Frag}{mg:Str->Option Value}{base:Heap}{k:Nat}{f:Addr}{name qual:Str}{params:Arguments}{body:List Stmt}{scope:Scope}{dV kV doc pm cdv ct oc:Value}{an od:Option Addr}
  {osl:Array (Option Value)}{N ps:List Str}{sp:Sp} (lk:K.lookup f=some ⟨oc,od,.func (PySem.W.fnOf name qual params body scope dV kV doc pm an cdv ct),osl⟩) (hcd:PySem.W.codeIn K cdv qual=true) (S:bN N ps scope)
  (len:∀vs H Q E,sp vs H Q E->vs.length=ps.length)
  (hbody:∀(A:Around) (outer:List Env) (s:Shared) (H:Hp) (vs:List V) (Q:VK) (E:XK),aX k (A.deeper (envOfC qual scope s.heap.objs.size f cdv))->sp vs H Q E ->
   ∃t,PSs (il CX P w K mg base N qual scope f cdv A outer s H E) body t/\t {nx:=λ_ H'=>Q .non H',rt:=Q} (start N vs) H):
  cA P w K mg base CX (k+1) f (PySem.W.fnOf name qual params body scope dV kV doc pm an cdv ct) ps sp:=by
 refine⟨len,λA outer s H args us vs Q E hr e0 hb r hsp=>?_⟩;have hl:=len _ _ _ _ hsp
 have KX:K.In s.heap:=e0.mod.kin.keeps λb o e=>(e0.bs b o e).1
 have lim:s.heap.NoLimit:=e0.mod.nolimit.keeps λb o e=>(e0.bs b o e).1
 have hkind:∀y∈ps.zip us,scope.names.lookup y.1=some .local\/(scope.names.lookup y.1=some .cell/\((cellsFrom (s.heap.objs.size+1) scope.names []).lookup y.1).isSome=true):=λ⟨n,v⟩ hy=>by
  rcases S.par n (List.of_mem_zip hy).1 with q | q
  ·exact .inl q
  ·exact .inr ⟨q,PySem.W.cellsFrom_some _ _ _ (.inl q)⟩
 refine codeAny_call_function hr.depth (KX _ _ lk) rfl S.co S.gen rfl (PySem.W.codeRec_of KX hcd) (hb _ _ _ _ ?_)
 refine wpAny_newFunctionEnv_cells S.kind hkind λenv he s1 x=>?_
 subst he;refine⟨lim.keeps x.toInCall.keep,codeAny_func ?_⟩;obtain⟨t,ht,hq⟩:=hbody A outer s H vs Q E (hr.deeper _) hsp;have I:Inv (il CX P w K mg base N qual scope f cdv A outer s H E) [] (start N vs) H s1:=Qz S hr.hd e0 hl r x
 refine zT (ht [] s1 (start N vs) H _ I hq) (λfl s' hs=>?_) λe s' hs=>hs
 have fin:∀{σ':St}{H':Hp}{v:V}{u:Value},Inv (il CX P w K mg base N qual scope f cdv A outer s H E) [] σ' H' s'->RelV v u->Q v H'->CE outer P w H s Q u s' :=
  λ{σ' H' v u} J rv q=>⟨v,H',J.os,J.bare,J.base,J.hok,rv,q⟩
 cases fl with
 |ret u =>
  obtain⟨v,σ',H',J,rv,q⟩:=hs;exact fin J rv q
 |next =>
  obtain⟨σ',H',J,q⟩:=hs;exact fin (v:=V.non) (u:=Value.none) J rfl q
 |brk =>
  obtain⟨_,_,_,q⟩:=hs;exact False.elim q
 |cont =>
  obtain⟨_,_,_,q⟩:=hs;exact False.elim q
section
variable {X:Cx}{x:Str}{p pos:Pos}{e:Expr}{es:List Expr}{t:TA}{id T:String}{r:List V->Hp->VK->Prop}
def tCB(r:List V->Hp->VK->Prop)(t:TA):TE:=λσ H Q=>t σ H λvs H1=>r vs H1 Q
theorem qG(hc:jB X (.builtin id) r)(hg:Gl X x)(hm:X.mg x=none)(hv:bootBuiltins x=some (.builtin id))(ha:PA X (e::es) t)(hn:x≠"__name__":=by decide)(hdb:(x == ("__debug__":Str))=false:=by decide)
  (he:starEach (e::es) X.env=(false,eval e X.env)::starEach es X.env:=by rfl) (hpl:(backTo pos (starEach es X.env)).any (·.1)=false:=by rfl):PE X (.Call (.Name x p) (e::es) [] pos) (tCB r t):=by
 intro pins s σ H Q I h;refine wpAny_Call_Name_kw (mH I hg hm hv ?_ hn hdb);exact PyProof.Rows.callWith_builtin1 (thn (ha pos pins s σ H _ I h) λus s1 ⟨vs,H1,I1,r1,q1⟩=>hc pins s1 σ H1 vs us Q I1 r1 q1) he hpl
theorem QB(hc:jB X (.type T) r)(hg:Gl X x)(hm:X.mg x=none)(hv:bootBuiltins x=some (.type T))(ha:PA X (e::es) t)(hn:x≠"__name__":=by decide)(hdb:(x == ("__debug__":Str))=false:=by decide)
  (he:starEach (e::es) X.env=(false,eval e X.env)::starEach es X.env:=by rfl) (hpl:(backTo pos (starEach es X.env)).any (·.1)=false:=by rfl):PE X (.Call (.Name x p) (e::es) [] pos) (tCB r t):=by
 intro pins s σ H Q I h;refine wpAny_Call_Name_kw (mH I hg hm hv ?_ hn hdb);exact PyProof.Rows.callWith_type1 (thn (ha pos pins s σ H _ I h) λus s1 ⟨vs,H1,I1,r1,q1⟩=>hc pins s1 σ H1 vs us Q I1 r1 q1) he hpl
end
end L2
namespace HT
open PySem PyProof.Rows
section
open PySem.SeqAt
open PySem.AutoSeq1 (wpAny_loadPart')
open PySem.MeetsSeq PySem.MeetsSeq2 PySem.MeetsSeq3
end
section
variable {prog:Program}{w:World}{A:Around}{E:Value->Shared->Prop}{s:Shared}
theorem cat_tup{t b:Addr}{vs ws:List Value}{Q:Value->Shared->Prop}(ht:IsTup s.heap t vs.toArray)(hb:IsTup s.heap b ws.toArray)(hv:vs≠[])
  (h1:ws=[]->Q (.ref t) s) (h2:ws≠[]->Q (.ref s.heap.objs.size) {s with heap:=s.heap.push {cls:=.type "tuple",data:=.seq (vs++ws).toArray}})
  (hsz:vs.length+ws.length<=sizeLine):wpAny (model prog w) A (binaryOp .Add (.ref t) (.ref b)) Q E s:=by
 obtain⟨⟨cls,dd,data,sl⟩,ho,hc,n,hd⟩:=id ht;obtain⟨⟨cls2,dd2,data2,sl2⟩,ho2,hc2,n2,hd2⟩:=id hb;simp only at hc hd hc2 hd2;subst hc hd hc2 hd2
 have e:vs.toArray++ws.toArray=(vs++ws).toArray:=by simp
 by_cases hw:ws=[]
 ·exact concat_meets ⟨_,ho,rfl⟩ ⟨_,ho2,rfl⟩ noFill_tuple_add seq_tuple_add PySem.F.slot_tuple_add PySem.F.entry_tuple_add (PySem.F.args_tuple_add_2 _ _)
   (tuple_addW1 t b vs.toArray ws.toArray n n2 dd dd2 sl sl2 (by simpa using hv) (by simp[hw])) ⟨ho,ho2,h1 hw⟩
 ·refine concat_meets ⟨_,ho,rfl⟩ ⟨_,ho2,rfl⟩ noFill_tuple_add seq_tuple_add PySem.F.slot_tuple_add PySem.F.entry_tuple_add (PySem.F.args_tuple_add_2 _ _)
   (tuple_addW2 t b vs.toArray ws.toArray n n2 dd dd2 sl sl2 (by simpa using hv) (by simpa using hw) (by rw[zG,zG];exact hsz)) ⟨ho,ho2,?_⟩
  rw[e];exact h2 hw
def sIx(n d:Nat):Option Int->Nat
 |none=>d
 |some v=>if v<0 then(v+(n:Int)).toNat else min v.toNat n
theorem sIx_nat(n d k:Nat):sIx n d (some (k:Int))=min k n:=by
 show(if(k:Int)<0 then((k:Int)+(n:Int)).toNat else min (k:Int).toNat n)=min k n;rw[if_neg (by omega),Int.toNat_natCast]
theorem sIx_le(n d:Nat)(hd:d<=n)(o:Option Int):sIx n d o<=n:=by
 cases o with
 |none=>exact hd
 |some v =>
  show(if v<0 then(v+(n:Int)).toNat else min v.toNat n)<=n
  by_cases hv:v<0
  ·rw[if_pos hv];omega
  ·rw[if_neg hv];exact Nat.min_le_right _ _
theorem Fg(v:Int)(n d:Nat):(if v<0 then max (v+(n:Int)) 0 else min v (n:Int))=((sIx n d (some v):Nat):Int):=by
 show(if v<0 then max (v+(n:Int)) 0 else min v (n:Int))=(((if v<0 then(v+(n:Int)).toNat else min v.toNat n):Nat):Int)
 by_cases hv:v<0
 ·simp only[if_pos hv];omega
 ·simp only[if_neg hv];omega
theorem QC(lo hi:Option Int)(n:Nat):Builtin.Slice.sliceAdjust lo hi 1 (n:Int)=(((sIx n 0 lo:Nat):Int),((sIx n n hi:Nat):Int)):=by
 have h1:¬((1:Int)<0):=by omega
 unfold Builtin.Slice.sliceAdjust;simp only[h1,if_false];refine Prod.ext ?_ ?_
 ·cases lo with
  |none=>rfl
  |some v=>exact Fg v n 0
 ·cases hi with
  |none=>rfl
  |some v=>exact Fg v n n
theorem QD(i j:Nat):Builtin.Slice.slicePlaces (i:Int) (j:Int) 1=j - i:=by
 unfold Builtin.Slice.slicePlaces
 have h1:(1:Int)>0:=by omega
 simp only[h1,if_true,Int.ediv_one]
 split<;>omega
theorem Fj{v:Value}{o:Option Int}{Q:Option Int->Shared->Prop}(p:IsPart v o)(h:Q o s):wpAny (model prog w) A (Builtin.Slice.slicePartIndex v) Q E s:=by
 cases p with
 |none=>exact slicePart_none h
 |int i t=>exact slicePart_int h
theorem sliceApplied_gen{sl:Addr}{vl vu:Value}{lo hi:Option Int}{n:Nat}{Q:Int×Int×Nat->Shared->Prop}(hs:s.heap.IsSliceOf sl vl vu .none)(pl:IsPart vl lo)(pu:IsPart vu hi)
  (h:Q (((sIx n 0 lo:Nat):Int),1,sIx n n hi - sIx n 0 lo) s):wpAny (model prog w) A (Builtin.Slice.sliceApplied (.ref sl) (pure (n:Int))) Q E s:=by
 obtain⟨os,hos,hcs,hds⟩:=id hs;unfold Builtin.Slice.sliceApplied Builtin.Slice.sliceFields;refine za (za (wpAny_field hos hds (x:=vl) rfl (za (wpAny_field hos hds (x:=vu) rfl (za (wpAny_field hos hds (x:=.none) rfl (zc ?_)))))));refine za (slicePart_none ?_);show wpAny _ _ (if((1:Int) == 0)=true then _ else _) _ _ s;rw[if_neg (by decide)];refine za (Fj pl (za (Fj pu (za (zc ?_)))));show wpAny _ _ (match Builtin.Slice.sliceAdjust lo hi 1 (n:Int) with | (lo,hi)=>pure (lo,(1:Int),Builtin.Slice.slicePlaces lo hi 1)) _ _ s;rw[QC lo hi n];show wpAny _ _ (pure (((sIx n 0 lo:Nat):Int),(1:Int),Builtin.Slice.slicePlaces ((sIx n 0 lo:Nat):Int) ((sIx n n hi:Nat):Int) 1)) _ _ s
 rw[QD];exact zc h
theorem QF(xs:Array Value)(i k:Nat):((List.range k).filterMap λ(m:Nat)=>xs[((i:Int)+(m:Int) * 1).toNat]?).toArray=((xs.toList.drop i).take k).toArray:=by
 have e:(λ(m:Nat)=>xs[((i:Int)+(m:Int) * 1).toNat]?)=λm=>xs[i+m]?:=by
  funext m
  have:((i:Int)+(m:Int) * 1).toNat=i+m:=by omega
  rw[this]
 rw[e]
 have:=pick_run xs i k
 rw[List.filterMap_map] at this
 have e2:((λx=>xs[x]?) ∘ λx=>i+x)=λm=>xs[i+m]?:=rfl
 rw[e2] at this;rw[this]
theorem getItem_tuple_cut{t sl:Addr}{items:Array Value}{vl vu:Value}{lo hi:Option Int}{Q:Value->Shared->Prop}(ht:IsTup s.heap t items)(hs:s.heap.IsSliceOf sl vl vu .none)(pl:IsPart vl lo)(pu:IsPart vu hi)
  (hw:¬(sIx items.size 0 lo=0/\sIx items.size items.size hi=items.size))
  (h:Q (.ref s.heap.objs.size) {s with heap:=s.heap.push {cls:=.type "tuple",data:=.seq ((items.toList.drop (sIx items.size 0 lo)).take (sIx items.size items.size hi - sIx items.size 0 lo)).toArray}})
  (hsz:items.size<=sizeLine):wpAny (model prog w) A (getItem (.ref t) (.ref sl)) Q E s:=by
 have htake:sizeOk (.seq ((items.toList.drop (sIx items.size 0 lo)).take (sIx items.size items.size hi - sIx items.size 0 lo)).toArray):=by
  show((items.toList.drop (sIx items.size 0 lo)).take (sIx items.size items.size hi - sIx items.size 0 lo)).toArray.size<=sizeLine;rw[zG,List.length_take,List.length_drop,Array.length_toList];omega
 have hj:sIx items.size items.size hi<=items.size:=sIx_le _ _ (zd _) hi;obtain⟨os,hos,hcs,hds⟩:=id hs;have hTs:s.TypeIs (.ref sl) "slice":=⟨os,hos,hcs⟩;unfold getItem
 try with_reducible refine zQ ?_
 first | refine za (zc ?_) | skip
 refine za (wpAny_sequenceKey ht.typeIs (by decide) ?_)
 refine za (wpAny_callSpecial?_slot (name:=Str.ofString "__getitem__") ht.typeIs PyProof.Rows.slot_tuple_getitem
  (wpAny_call_entry PyProof.Rows.slot_tuple_getitem ht.typeIs entry_tuple_getitem ?_ (args_tuple_getitem _ _)))
 show wpAny _ _ (Builtin.Tuple.tupleItemsOf (.ref t) >>= _) _ _ s;refine za (tupleItemsOf_ ht ?_);refine za (wpAny_typeOf hTs ?_);rw[if_pos (by decide)];refine za (sliceApplied_gen hs pl pu ?_)
 have hno:¬((((sIx items.size 0 lo:Nat):Int) == 0&&(1:Int) == 1&&(sIx items.size items.size hi - sIx items.size 0 lo) == items.size)=true):=by
  intro q;rw[zw,zw] at q;have q1:((sIx items.size 0 lo:Nat):Int)=0:=eq_of_beq q.1.1;have q2:sIx items.size items.size hi - sIx items.size 0 lo=items.size:=eq_of_beq q.2;exact hw ⟨by omega,by omega⟩
 show wpAny _ _ (if(((sIx items.size 0 lo:Nat):Int) == 0&&(1:Int) == 1&&(sIx items.size items.size hi - sIx items.size 0 lo) == items.size)=true then _ else _) _ _ s;rw[if_neg hno,QF]
 first
  | exact za (m:=Builtin.Tuple.tupleExact _) (wpAny_newObj_type (zc ⟨_,rfl,zc h⟩) htake)
  | exact za (m:=Builtin.Tuple.tupleExact _) (wpAny_newObj_type (za (zc (zc ⟨_,rfl,zc h⟩))) htake)
  | exact za (za (m:=Builtin.Tuple.tupleExact _) (wpAny_newObj_type (zc (zc ⟨_,rfl,zc h⟩)) htake))
  | exact za (za (m:=Builtin.Tuple.tupleExact _) (wpAny_newObj_type (zc ⟨_,rfl,zc h⟩) htake))
end
end HT
namespace L2
open PySem PySem.Spec PyProof.Rows
abbrev TO:=St->Hp->(Option Int->Hp->Prop)->Prop
def PO(X:Cx)(e:Option Expr)(t:TO):Prop :=
 ∀(pins:List (Addr×Obj)) (s:Shared) (σ:St) (H:Hp) (Q:Option Int->Hp->Prop),Inv X pins σ H s->t σ H Q ->
  wpAny (model X.prog X.w) X.A (evalPart e X.env) (λu s'=>∃o H',Inv X pins σ H' s'/\IsPart u o/\Q o H') X.xe s
def QG(t:TE):TO:=λσ H Q=>t σ H λx H1=>∃i,x=.int i/\Q (some i) H1
section
variable {X:Cx}{e:Expr}{te:TE}{lo hi:Option Expr}{tl th:TO}{pos p2:Pos}
theorem QH(h:PE X e te):PO X (some e) (QG te):=by
 intro pins s σ H Q I hw;rw[evalPart_some]
 refine thn (h pins s σ H _ I hw) λu s1 ⟨x,H1,I1,r1,q1⟩=>?_
 obtain⟨i,rfl,q⟩:=q1;obtain⟨t,rfl⟩:=r1;exact⟨some i,H1,I1,.int i t,q⟩
def SlR(X:Cx)(r:V->Option Int->Option Int->Hp->VK->Prop):Prop :=
 ∀(pins:List (Addr×Obj)) (s:Shared) (σ:St) (H:Hp) (x:V) (v vl vu:Value) (lo hi:Option Int) (sl:Addr) (Q:VK),Inv X pins σ H s->RelV x v->s.heap.IsSliceOf sl vl vu .none->IsPart vl lo->IsPart vu hi->r x lo hi H Q ->
  ∃T id,typeLookup (.type T) "__getitem__" = pure (some (.builtin id))/\s.TypeIs v T/\wpAny (model X.prog X.w) X.A (getItem v (.ref sl)) (EP X pins σ Q) X.xe s
def tSl(r:V->Option Int->Option Int->Hp->VK->Prop)(te:TE)(tl th:TO):TE:=λσ H Q=>te σ H λx H1=>tl σ H1 λl H2=>th σ H2 λu H3=>r x l u H3 Q
theorem QJ{r:V->Option Int->Option Int->Hp->VK->Prop}(hr:SlR X r)(he:PE X e te)(hl:PO X lo tl)(hu:PO X hi th):PE X (.Subscript e (.Slice lo hi none p2) pos) (tSl r te tl th):=by
 intro pins s σ H Q I h;refine Subscript_ (thn (he pins s σ H _ I h) λv s1 ⟨x,H1,I1,r1,q1⟩=>?_);refine wpAny_Slice (thn (hl pins s1 σ H1 _ I1 q1) λvl s2 ⟨l,H2,I2,pl,q2⟩=>thn (hu pins s2 σ H2 _ I2 q2) λvu s3 ⟨u,H3,I3,pu,q3⟩=>?_);rw[evalPart_none];refine zc ?_
 have I4:Inv X pins σ H3 {s3 with heap:=s3.heap.push {cls:=.type "slice",data:=.fields #[vl,vu,.none]}}:=I3.kept (t':=s3.toks) λb ob q=>zn _ q
 obtain⟨T,id,hT,ht,hg⟩:=hr pins {s3 with heap:=s3.heap.push {cls:=.type "slice",data:=.fields #[vl,vu,.none]}} σ H3 x v vl vu l u s3.heap.objs.size Q I4 r1 (Heap.IsSliceOf.new ..) pl pu q3;show wpAny (model X.prog X.w) X.A (subscriptTail e (.Slice lo hi none p2) v (.ref s3.heap.objs.size)) (EP X pins σ Q) X.xe {s3 with heap:=s3.heap.push {cls:=.type "slice",data:=.fields #[vl,vu,.none]}};exact tail_any (ops:=[.ref s3.heap.objs.size,v]) ht hT hg (by with_unfolding_all rfl)
def jR(xs:List V)(lo hi:Option Int):List V:=(xs.drop (HT.sIx xs.length 0 lo)).take (HT.sIx xs.length xs.length hi - HT.sIx xs.length 0 lo)
theorem Fo(xs:List V)(lo hi:Option Int):(jR xs lo hi).length<=xs.length:=by
 unfold jR;rw[List.length_take,List.length_drop];omega
def QK(K:PySem.W.Frag):V->Option Int->Option Int->Hp->VK->Prop:=λx lo hi H Q=>∃a xs,x=.ref a/\SqT K H a xs /\
 ¬(HT.sIx xs.length 0 lo=0/\HT.sIx xs.length xs.length hi=xs.length)/\∀p,H p=none->Q (.ref p) (upd H p (.tup (jR xs lo hi)))
theorem QL:SlR X (QK X.K):=by
 intro pins s σ H x v vl vu lo hi sl Q I rx hs pl pu h;obtain⟨a,xs,rfl,hx,hw,q⟩:=h;cases rx;obtain⟨its,r,ht,hz⟩:=I.tuple hx
 have hlen:its.toArray.size=xs.length:=by rw[zG];exact r.length.symm
 refine⟨"tuple",_,PyProof.Rows.slot_tuple_getitem.lookup,ht.typeIs,?_⟩;refine HT.getItem_tuple_cut ht hs pl pu (by rw[hlen];exact hw) ?_ (by rw[hlen];exact hz);rw[hlen];refine⟨.ref s.heap.objs.size,_,I.laid (t':=s.toks) (o:=.tup (jR xs lo hi)) (λb ob q=>zn _ q) (zd _) ?_,rfl,q _ (I.hok.fresh (zd _))⟩;exact⟨zH (Fo xs lo hi) hz,_,(r.drop (HT.sIx xs.length 0 lo)).take (HT.sIx xs.length xs.length hi - HT.sIx xs.length 0 lo),IsTup.new _ _⟩
def QM(K:PySem.W.Frag):R2:=λx y H Q=>∃a b xs ys,x=.ref a/\y=.ref b/\SqT K H a xs/\SqT K H b ys/\xs≠[]/\xs.length+ys.length<=sizeLine /\
 (ys=[]->Q (.ref a) H)/\(ys≠[]->∀p,H p=none->Q (.ref p) (upd H p (.tup (xs++ys))))
theorem aP.nil_iff{xs:List V}{us:List Value}(r:aP xs us):us=[]↔xs=[]:=by
 cases r with
 |nil=>simp
 |cons _ _=>simp
theorem QQ:OpR X (binaryOp .Add) (QM X.K):=by
 intro pins s σ H x y v u Q I rx ry h;obtain⟨a,b,xs,ys,rfl,rfl,ha,hb,hx,hz,q1,q2⟩:=h;cases rx;cases ry;obtain⟨its,r1,p1,_⟩:=I.tuple ha;obtain⟨its2,r2,p2,_⟩:=I.tuple hb;refine HT.cat_tup p1 p2 (λz=>hx (r1.nil_iff.mp z)) (λz=>⟨.ref a,H,I,rfl,q1 (r2.nil_iff.mp z)⟩) (λz=>?_) (by rw[<-r1.length,<-r2.length];exact hz);refine⟨.ref s.heap.objs.size,_,I.laid (t':=s.toks) (o:=.tup (xs++ys)) (λb ob q=>zn _ q) (zd _) ?_,rfl,q2 (λw=>z (r2.nil_iff.mpr w)) _ (I.hok.fresh (zd _))⟩;exact⟨by rw[zv];exact hz,_,r1.append r2,IsTup.new _ _⟩
end
def ixN(n:Nat)(i:Int):Option Nat:=if 0<=i then(if i<n then some i.toNat else none) else if -(n:Int)<=i then some (i+n).toNat else none
def atI{α:Type}(xs:List α)(i:Int):Option α:=(ixN xs.length i).bind λj=>xs[j]?
theorem QR{n:Nat}{i:Int}{j:Nat}(h:ixN n i=some j):seqIndex? i n=some j/\j<n/\-(n:Int)<=i/\i<n:=by
 unfold ixN at h
 by_cases h0:0<=i
 ·rw[if_pos h0] at h
  by_cases h1:i<n
  ·rw[if_pos h1] at h;have e:i.toNat=j:=zE h;exact⟨by rw[seqIndex_of h0 h1,e],by omega,by omega,h1⟩
  ·rw[if_neg h1] at h;cases h
 ·rw[if_neg h0] at h
  by_cases h1:-(n:Int)<=i
  ·rw[if_pos h1] at h;have e:(i+n).toNat=j:=zE h;exact⟨by rw[seqIndex_neg (by omega) h1,e],by omega,h1,by omega⟩
  ·rw[if_neg h1] at h;cases h
theorem wZ{α:Type}{xs:List α}{i:Int}{v:α}(h:atI xs i=some v):∃j,seqIndex? i xs.length=some j/\xs[j]?=some v/\j<xs.length/\-(xs.length:Int)<=i/\i<xs.length:=by
 unfold atI at h
 cases e:ixN xs.length i with
 |none=>rw[e] at h;cases h
 |some j =>
  rw[e] at h;obtain⟨h1,h2,h3,h4⟩:=QR e;exact⟨j,h1,h,h2,h3,h4⟩
def tQ(b:Expr):Prop:=∀o i,subscripted b false o i=operate [o,i] (getItem o i)
def IxR(X:Cx)(r:R2):Prop :=
 ∀(value slice:Expr) (pins:List (Addr×Obj)) (s:Shared) (σ:St) (H:Hp) (x y:V) (v u:Value) (Q:VK),Inv X pins σ H s->RelV x v->RelV y u->r x y H Q ->
  subscripted slice false v u=operate [v,u] (getItem v u)->wpAny (model X.prog X.w) X.A (subscriptTail value slice v u) (EP X pins σ Q) X.xe s
def MtR(X:Cx)(id:String)(r:V->List V->Hp->VK->Prop):Prop :=
 ∀(pins:List (Addr×Obj)) (s:Shared) (σ:St) (H:Hp) (x:V) (xs:List V) (v:Value) (us:List Value) (Q:VK),Inv X pins σ H s->RelV x v->aP xs us->r x xs H Q ->
  wpAny (model X.prog X.w) X.A (call (.builtin id) (v::us)) (EP X pins σ Q) X.xe s
section
variable {X:Cx}{a b:Expr}{ta tb:TE}{pos:Pos}
theorem QS{r:R2}(hr:IxR X r)(ha:PE X a ta)(hb:PE X b tb)(hs:tQ b):PE X (.Subscript a b pos) (tOp r ta tb):=by
 intro pins s σ H Q I h;exact Subscript_ (wM ha hb I h λv u s2 x y H2 I2 rx ry q=>hr a b pins s2 σ H2 x y v u Q I2 rx ry q (hs _ _))
def QT(K:PySem.W.Frag):R2:=λx y H Q=>∃p xs i v,x=.ref p/\y=.int i/\SqL K H p xs/\atI xs i=some v/\Q v H
def QV(K:PySem.W.Frag):R2:=λx y H Q=>∃p xs i v,x=.ref p/\y=.int i/\SqT K H p xs/\atI xs i=some v/\Q v H
def QW:R2:=λx y H Q=>∃z i c,x=.str z/\y=.int i/\z.length<=sizeLine/\atI z.cps.toList i=some c/\Q (.str ⟨#[c]⟩) H
theorem QX:IxR X (QT X.K):=by
 intro value slice pins s σ H x y v u Q I rx ry h hs;obtain⟨p,xs,i,z,rfl,rfl,hq,he,q⟩:=h;cases rx;obtain⟨t,rfl⟩:=ry;obtain⟨its,r,pl,hz⟩:=I.list hq;obtain⟨j,h1,h2,h3,h4,h5⟩:=wZ he;obtain⟨w,ew,rw'⟩:=r.get h2;have hl:=r.length;have hn:=qD;have fin:EP X pins σ Q w s:=⟨z,H,I,rw',q⟩
 by_cases h0:0<=i
 ·have hj:i.toNat=j:=by
   rw[seqIndex_of h0 h5] at h1;exact zE h1
  exact item_listR pl.isList h0 (by omega) (by rw[hj];simpa using ew) fin hs
 ·have hj:(i+(its.toArray.size:Int)).toNat=j:=by
   rw[seqIndex_neg (by omega) h4] at h1;rw[zG,<-hl];exact zE h1
  exact subscriptTail_builtinR (x:=w) pl.isList.typeIs slot_list_getitem.lookup
   (wpAny_getItem_list_neg (Q:=λr s'=>r=w/\EP X pins σ Q r s') pl.isList (by omega) (by rw[zG]<;>omega) (by omega) (by rw[hj];simpa using ew) ⟨rfl,fin⟩) hs
theorem QZ:IxR X (QV X.K):=by
 intro value slice pins s σ H x y v u Q I rx ry h hs;obtain⟨p,xs,i,z,rfl,rfl,hq,he,q⟩:=h;cases rx;obtain⟨t,rfl⟩:=ry;obtain⟨its,r,pl,hz⟩:=I.tuple hq;obtain⟨j,h1,h2,h3,h4,h5⟩:=wZ he;obtain⟨w,ew,rw'⟩:=r.get h2;have hl:=r.length;have hn:=qD;have fin:EP X pins σ Q w s:=⟨z,H,I,rw',q⟩;exact subscriptTail_builtinR (x:=w) pl.typeIs slot_tuple_getitem.lookup
  (getItem_tuple (j:=j) (Q:=λr s'=>r=w/\EP X pins σ Q r s') pl (by omega) (by omega) (by rw[zG,<-hl];exact h1) (by simpa using ew) ⟨rfl,fin⟩) hs
theorem Q0:IxR X QW:=by
 intro value slice pins s σ H x y v u Q I rx ry h hs;obtain⟨z,i,c,rfl,rfl,hz,he,q⟩:=h;obtain⟨t,rfl⟩:=rx;obtain⟨t',rfl⟩:=ry;obtain⟨j,h1,h2,h3,h4,h5⟩:=wZ he
 have hl:z.cps.toList.length=z.length:=by simp[Str.length]
 rw[hl] at h1 h4 h5;have hn:=qD
 exact tail_any (typeIs_str s z t) slot_str_getitem.lookup (getItem_str (c:=c) (by
  have e1:decide (i < -(2 ^ 63:Int))=false:=zp (by omega);have e2:decide (i>=2 ^ 63)=false:=zp (by omega)
  rw[e1,e2,Bool.or_false]) (by rw[h1];simpa using h2) ⟨.str ⟨#[c]⟩,H,I.tok _,⟨_,rfl⟩,q⟩) hs
theorem Inv.lst{pins:List (Addr×Obj)}{σ:St}{H:Hp}{s:Shared}{p:Addr}{xs:List V}(I:Inv X pins σ H s)(h:H p=some (.lst xs)):
  ∃(its:List Value) (n:Nat),aP xs its/\s.heap.get? p=some {cls:=.type "list",data:=.seq its.toArray n}/\xs.length<=sizeLine:=by
 obtain⟨z,its,n,r,e⟩:=I.hok p _ h;exact⟨its,n,r,e,z⟩
theorem Fp(lo hi:Option Int)(n:Nat):(sliceBounds lo hi none n).1=((HT.sIx n 0 lo:Nat):Int)/\(sliceBounds lo hi none n).2.1=((HT.sIx n n hi:Nat):Int)/\(sliceBounds lo hi none n).2.2=1:=by
 refine⟨?_,?_,rfl⟩
 ·cases lo with
  |none=>simp[sliceBounds,HT.sIx]
  |some i =>
   simp only[sliceBounds,HT.sIx,Option.getD_none,show(1:Int)>0 by decide,if_true]
   by_cases h:i<0
   ·simp only[h,if_true]<;>omega
   ·simp only[h,if_false]<;>omega
 ·cases hi with
  |none=>simp[sliceBounds,HT.sIx]
  |some i =>
   simp only[sliceBounds,HT.sIx,Option.getD_none,show(1:Int)>0 by decide,if_true]
   by_cases h:i<0
   ·simp only[h,if_true]<;>omega
   ·simp only[h,if_false]<;>omega
theorem Q3(its:List Value)(lo hi:Option Int):slicePick its.toArray lo hi none=((its.drop (HT.sIx its.length 0 lo)).take (HT.sIx its.length its.length hi - HT.sIx its.length 0 lo)).toArray:=by
 obtain⟨h1,h2,h3⟩:=Fp lo hi its.toArray.size;unfold slicePick;rw[h1,h2,h3]
 simp only[sliceRange_one,pick_run,zG]<;>rfl
def Q4(K:PySem.W.Frag):V->Option Int->Option Int->Hp->VK->Prop:=λx lo hi H Q=>∃a xs,x=.ref a/\SqL K H a xs/\∀p,H p=none->Q (.ref p) (upd H p (.lst (jR xs lo hi)))
theorem Q5:SlR X (Q4 X.K):=by
 intro pins s σ H x v vl vu lo hi sl Q I rx hs pl pu h;obtain⟨a,xs,rfl,hx,q⟩:=h;cases rx;obtain⟨its,r,ht,hz⟩:=I.list hx;have hlen:=r.length;refine⟨"list",_,slot_list_getitem.lookup,ht.isList.typeIs,?_⟩;refine wpAny_getItem_list_slice ht.isList hs pl pu .none (by simp) ?_ (by rw[zG]<;>omega);rw[Q3,<-hlen];refine⟨.ref s.heap.objs.size,_,I.laid (t':=s.toks) (o:=.lst (jR xs lo hi)) (λb ob q=>zn _ q) (zd _) ?_,rfl,q _ (I.hok.fresh (zd _))⟩;exact⟨zH (Fo xs lo hi) hz,_,0,(r.drop (HT.sIx xs.length 0 lo)).take (HT.sIx xs.length xs.length hi - HT.sIx xs.length 0 lo),zB _ rfl⟩
def eqV:V->V->Bool
 | .non,.non=>true
 | .bl a,.bl b=>a == b
 | .bl a,.int b=>(if a then 1 else 0) == b
 | .int a,.bl b=>a == (if b then 1 else 0)
 | .int a,.int b=>a == b
 | .str a,.str b=>a == b
 | _,_=>false
theorem Fq:jB X (.type "list") (λxs H Q=>∃p ys,xs=[.ref p]/\(SqL X.K H p ys\/SqT X.K H p ys)/\∀l,H l=none->Q (.ref l) (upd H l (.lst ys))):=by
 intro pins s σ H xs us Q I r h;obtain⟨p,ys,rfl,hq,q⟩:=h;obtain⟨u,rfl,rx⟩:=vals1 r;cases rx;have fin:∀(its:List Value),aP ys its->ys.length<=sizeLine->∀(h':Heap) (c':Nat),(∀b o',s.heap.get? b=some o'->h'.get? b=some o') ->
   h'.get? s.heap.objs.size=some {cls:=.type "list",dict:=none,data:=.seq its.toArray c',slots:=#[]}->EP X pins σ Q (.ref s.heap.objs.size) {s with heap:=h'}:=λits r' hz h' c' kp e =>
  ⟨.ref s.heap.objs.size,_,I.laid (t':=s.toks) kp (zd _) (show bU X.prog X.w _ h' _ (.lst ys) from⟨hz,its,c',r',e⟩),rfl,q _ (I.hok.fresh (zd _))⟩
 rcases hq with hq | hq
 ·obtain⟨its,r',pl,hz⟩:=I.list hq;have hlen:=r'.length;obtain⟨o,ho,hc,n,hd⟩:=pl.isList;exact call_list_seq p (.inl rfl) ho hc hd (λh' c' kp e=>fin its r' hz h' c' kp e) (by simp only[zG]<;>omega)
 ·obtain⟨its,r',pl,hz⟩:=I.tuple hq;have hlen:=r'.length;obtain⟨o,ho,hc,n,hd⟩:=pl;exact call_list_seq p (.inr rfl) ho hc hd (λh' c' kp e=>fin its r' hz h' c' kp e) (by simp only[zG]<;>omega)
def tyV(K:PySem.W.Frag)(T:String)(x:V)(H:Hp):Prop:=match x with
 | .str _=>T = "str"
 | .int _=>T = "int"
 | .ref p=>(T = "list"/\∃xs,SqL K H p xs)\/(T = "tuple"/\∃o,K.lookup p=some o/\o.cls=.type "tuple"/\o.dict=none) \/
   (T = "dict"/\((∃kvs,H p=some (.dK kvs))\/∃kvs,H p=some (.dT kvs)))\/(T = "set"/\∃S n,H p=some (.set S n))
 | _=>False
theorem Ft{pins:List (Addr×Obj)}{σ:St}{H:Hp}{s:Shared}{T:String}{x:V}{v:Value}(I:Inv X pins σ H s)(r:RelV x v)(ty:tyV X.K T x H):
  s.TypeIs v T/\∀a,v=.ref a->∃ob,s.heap.get? a=some ob/\ob.dict=none:=by
 cases x with
 |str z =>
  obtain⟨t,rfl⟩:=r;cases(show T = "str" from ty);exact⟨typeIs_str s z t,λ_ e=>nomatch e⟩
 |int i =>
  obtain⟨t,rfl⟩:=r;cases(show T = "int" from ty);exact⟨typeIs_int s i t,λ_ e=>nomatch e⟩
 |ref p =>
  cases r
  rcases ty with⟨rfl,xs,hq⟩ | ⟨rfl,o,hk,hc,hd⟩ | ⟨rfl,hk⟩ | ⟨rfl,S,n,hk⟩
  ·obtain⟨its,_,pl,_⟩:=I.list hq;refine⟨pl.isList.typeIs,λa e=>?_⟩;cases e;obtain⟨o,n,e,c,hd,_⟩:=pl;exact⟨o,e,hd⟩
  ·refine⟨⟨o,I.kIn p o hk,hc⟩,λa e=>?_⟩;cases e;exact⟨o,I.kIn _ o hk,hd⟩
  ·have z:∃o,s.heap.get? p=some o/\o.ExactDict:=by
    rcases hk with⟨kvs,hk⟩ | ⟨kvs,hk⟩
    ·obtain⟨_,_,_,_,o,_,_,e,ex,_⟩:=I.hok p _ hk;exact⟨o,e,ex⟩
    ·obtain⟨_,_,_,_,o,_,_,e,ex,_⟩:=I.hok p _ hk;exact⟨o,e,ex⟩
   obtain⟨o,e,ex⟩:=z;refine⟨⟨o,e,ex.1⟩,λa e2=>?_⟩;cases e2;exact⟨o,e,ex.2.1⟩
  ·obtain⟨o,_,_,_,e,ex,_⟩:=I.hok p _ hk;refine⟨⟨o,e,ex.1⟩,λa e2=>?_⟩;cases e2;exact⟨o,e,ex.2.1⟩
 | _=>exact False.elim ty
def Q6(K:PySem.W.Frag)(T:String)(r:V->List V->Hp->VK->Prop)(to:TE):TE:=λσ H Q=>to σ H λx H1=>tyV K T x H1/\r x [] H1 Q
def tBM(K:PySem.W.Frag)(T:String)(r:V->List V->Hp->VK->Prop)(to:TE)(t:TA):TE:=λσ H Q=>to σ H λx H1=>tyV K T x H1/\t σ H1 λxs H2=>r x xs H2 Q
variable {o e:Expr}{es:List Expr}{to:TE}{t:TA}{name:Str}{apos cpos:Pos}{T id:String}{r:V->List V->Hp->VK->Prop}
theorem Q7(pa:PlainAttrs T)(slot:Slot T name id)(hty:typeOf (.builtin id)=pure (.type "method_descriptor"))(hm:MtR X id r)(ho:PE X o to)
  (hbase:attributeBase o name X.env (eval o X.env)=eval o X.env:=by rfl) (hline:(apos.endLine == cpos.line)=true:=by rfl):PE X (.Call (.Attribute o name apos) [] [] cpos) (Q6 X.K T r to):=by
 intro pins s σ H Q I h;refine wpAny_Call_method0_late hbase hline (thn (ho pins s σ H _ I h) λv s1 ⟨x,H1,I1,r1,ty,q1⟩=>?_);obtain⟨h1,h2⟩:=Ft I1 r1 ty;exact⟨T,id,pa,slot,hty,h1,h2,Calls.callWith_builtin rfl (PySem.evalArgs_none (hm pins s1 σ H1 x [] v [] Q I1 r1 .nil q1))⟩
theorem w6(pa:PlainAttrs T)(slot:Slot T name id)(hty:typeOf (.builtin id)=pure (.type "method_descriptor"))(hm:MtR X id r)(ho:PE X o to)(ha:PA X (e::es) t)
  (hbase:attributeBase o name X.env (eval o X.env)=eval o X.env:=by rfl)
  (hfew:((backTo cpos (starEach (e::es) X.env)).all (λx=>!x.1)&&(backToKw cpos (keywordEach [] X.env)).all (λx=>x.1.isSome)
   && decide ((e::es).length+([]:List Keyword).length+(if([]:List Keyword).isEmpty then 0 else 1)<30))=true:=by rfl)
  (hline:(apos.endLine == cpos.line)=true:=by rfl) (hs:starEach (e::es) X.env=(false,eval e X.env)::starEach es X.env:=by rfl) (hplain:(backTo cpos (starEach es X.env)).any (·.1)=false:=by rfl):
  PE X (.Call (.Attribute o name apos) (e::es) [] cpos) (tBM X.K T r to t):=by
 intro pins s σ H Q I h;refine wpAny_Call_method_late hbase hfew hline rfl (thn (ho pins s σ H _ I h) λv s1 ⟨x,H1,I1,r1,ty,q1⟩=>?_);obtain⟨h1,h2⟩:=Ft I1 r1 ty;refine⟨T,id,pa,slot,hty,h1,h2,?_⟩;have hA:=ha cpos pins s1 σ H1 _ I1 q1;rw[hs] at hA ⊢;refine Calls.callWith_builtin (by show(false || (backTo cpos (starEach es X.env)).any (·.1))=false;rw[hplain]<;>rfl) (Calls.evalArgs_plain ?_)
 exact thn hA λus s2 ⟨vs,H2,I2,r2,q2⟩=>hm pins s2 σ H2 x vs v us Q I2 r1 r2 q2
/- xs.append(e),list.index on a module's tuple .. are MtR facts of 06m -/
end
def MtM(X:Cx)(id:String)(r:V->List V->Hp->VK->Prop):Prop :=
 ∀(pins:List (Addr×Obj)) (s:Shared) (σ:St) (H:Hp) (x:V) (xs:List V) (v:Value) (us:List Value) (Q:VK),Inv X pins σ H s->RelV x v->aP xs us->r x xs H Q ->
  wpAny (model X.prog X.w) X.A (call (.builtin id) (v::us)) (EP X pins σ Q) X.xe s
theorem aP.one:∀{x:V}{us:List Value},aP [x] us->∃u,us=[u]/\RelV x u
 | _,_,.cons r .nil=>⟨_,rfl,r⟩
theorem aP.two:∀{x y:V}{us:List Value},aP [x,y] us->∃u v,us=[u,v]/\RelV x u/\RelV y v
 | _,_,_,.cons r (.cons q .nil)=>⟨_,_,rfl,r,q⟩
theorem aP.zero:∀{us:List Value},aP [] us->us=[]
 | _,.nil=>rfl
theorem aP.rep{xs:List V}{us:List Value}(h:aP xs us):∀k:Nat,aP (List.replicate k xs).flatten (List.replicate k us).flatten
 | 0=>.nil
 |k+1=>by
  rw[List.replicate_succ,List.replicate_succ,List.flatten_cons,List.flatten_cons];exact aP.append h (aP.rep h k)
theorem foldl_rep(its:List Value):∀(k:Nat) (acc:List Value),
  List.foldl (λx1 x2=>x1++x2) acc.toArray (List.replicate k its.toArray)=(acc++(List.replicate k its).flatten).toArray
 | 0,acc=>by simp
 |k+1,acc=>by
  have e:acc.toArray++its.toArray=(acc++its).toArray:=by simp
  have e2:(acc++its)++(List.replicate k its).flatten=acc++(List.replicate (k+1) its).flatten:=by
   rw[List.replicate_succ,List.flatten_cons,zM]
  rw[<-e2,<-foldl_rep its k (acc++its),<-e,List.replicate_succ,List.foldl_cons]
section
variable {X:Cx}{pins:List (Addr×Obj)}{σ:St}{H:Hp}{s:Shared}{l b:Addr}{xs ys zs:List V}
theorem Inv.lset{its its':List Value}{n:Nat}{f:Array Value->Array Value}{t':Nat}(I:Inv X pins σ H s)(hH:H l=some (.lst xs))
  (e:s.heap.get? l=some {cls:=.type "list",data:=.seq its.toArray n}) (hf:f its.toArray=its'.toArray) (hv:aP ys its') (hz:ys.length<=sizeLine):
  Inv X pins σ (upd H l (.lst ys)) {s with heap:=s.heap.update l (Obj.mapSeq f),toks:=t'}:=by
 have q:=PySem.IsL.update e f;rw[hf] at q;refine I.write (x:=l) (e:=l) (by rw[hH];exact trivial) (.inl rfl) (λb' u hb hu=>(jw s.heap (Obj.mapSeq f) (Ne.symm hb)).trans hu) ⟨_,q⟩ ?_;exact⟨hz,its',_,hv,q⟩
theorem Inv.lnew{its:List Value}{t':Nat}(I:Inv X pins σ H s)(hv:aP ys its)(hz:ys.length<=sizeLine):
  Inv X pins σ (upd H s.heap.objs.size (.lst ys)) {s with heap:=s.heap.push {cls:=.type "list",data:=.seq its.toArray},toks:=t'}:=
 I.laid (λ_ _ q=>zn _ q) (zd _) ⟨hz,its,0,hv,zB _ rfl⟩
theorem Inv.fresh(I:Inv X pins σ H s):H s.heap.objs.size=none:=I.hok.fresh (zd _)
theorem Inv.lstM(I:Inv X pins σ H s)(hH:H l=some (.lst xs)):xs.length<=sizeLine/\∃(its:List Value) (n:Nat),aP xs its/\xs.length=its.length/\s.heap.get? l=some {cls:=.type "list",data:=.seq its.toArray n}:=by
 obtain⟨z,its,n,r,e⟩:=I.hok l _ hH;exact⟨z,its,n,r,r.length,e⟩
theorem tR{n:Nat}(h:n<=sizeLine):Builtin.List.listTooLong n=false:=by
 unfold Builtin.List.listTooLong;exact zp (by omega)
end
section
variable {X:Cx}
def Q8:V->List V->Hp->VK->Prop:=λx vs H Q=>∃l xs y,x=.ref l/\vs=[y]/\H l=some (.lst xs)/\xs.length<sizeLine/\Q .non (upd H l (.lst (xs++[y])))
theorem Fv:MtM X "list.append" Q8:=by
 intro pins s σ H x vs v us Q I rx rv h;obtain⟨l,xs,y,rfl,rfl,hH,hz,q⟩:=h;cases rx;obtain⟨u,rfl,ru⟩:=rv.one;obtain⟨z,its,n,r,hl,e⟩:=I.lstM hH;refine call_meets F.slot_list_append ⟨_,e,rfl⟩ F.entry_list_append (F.args_list_append_2 _ _) (PySem.list_append l its.toArray n u (by rw[zG];omega)) ⟨e,?_⟩;refine⟨.non,_,I.lset (its':=its++[u]) hH e (by simp) (r.append (.cons ru .nil)) ?_,rfl,q⟩;rw[zv,jo];omega
def Q9:V->List V->Hp->VK->Prop:=λx vs H Q=>∃l xs,x=.ref l/\vs=[]/\H l=some (.lst xs)/\Q .non (upd H l (.lst []))
theorem Ra:MtM X "list.clear" Q9:=by
 intro pins s σ H x vs v us Q I rx rv h;obtain⟨l,xs,rfl,rfl,hH,q⟩:=h;cases rx;have hus:=rv.zero;subst hus;obtain⟨z,its,n,r,hl,e⟩:=I.lstM hH;refine call_meets F.slot_list_clear ⟨_,e,rfl⟩ F.entry_list_clear (F.args_list_clear_1 _) (AutoSeq1.list_clear_list_0 l its.toArray n (by rw[zG];omega)) ⟨e,?_⟩;exact⟨.non,_,I.lset (its':=[]) (ys:=[]) hH e rfl .nil (Nat.zero_le _),rfl,q⟩
theorem len_rep{α:Type}(xs:List α)(k:Nat):(List.replicate k xs).flatten.length=k * xs.length:=by
 induction k with
 |zero=>simp
 |succ k ih=>rw[List.replicate_succ,List.flatten_cons,zv,ih,Nat.succ_mul,Nat.add_comm]
end
section
variable {prog:Program}{w:World}{A:Around}{E:Value->Shared->Prop}{s:Shared}
theorem Rb{a c n:Nat}(hac:a<=c)(hc:c<=n):sliceBounds (some (a:Int)) (some (c:Int)) none n=((a:Int),(c:Int),1):=by
 simp only[sliceBounds,Option.getD_none]
 have h1:¬((a:Int)<0):=by omega
 have h2:¬((c:Int)<0):=by omega
 simp only[h1,h2,if_false,show(1:Int)>0 by decide,if_true];congr 1
 ·omega
 ·congr 1;omega
set_option maxRecDepth 100000 in
theorem QtG{l b sl:Addr}{items new:Array Value}{n n2:Nat}{vl vu:Value}{a c:Nat}{Q:Unit->Shared->Prop}
  (e:s.heap.get? l=some {cls:=.type "list",data:=.seq items n}) (e2:s.heap.get? b=some {cls:=.type "list",data:=.seq new n2}) (hne:l≠b)
  (hs:s.heap.IsSliceOf sl vl vu .none) (pl:IsPart vl (some (a:Int))) (pu:IsPart vu (some (c:Int))) (hac:a<=c) (hc:c<=items.size)
  (hsz:items.size+new.size<=sizeLine) (h:Q () {s with heap:=s.heap.update l (Obj.mapSeq λxs=>xs.extract 0 a++new++xs.extract c xs.size)}):
  wpAny (model prog w) A (setItem (.ref l) (.ref sl) (.ref b)) Q E s:=by
 have hl:s.heap.IsList l items:=PySem.IsL.isList e;have hb:s.heap.IsList b new:=PySem.IsL.isList e2;obtain⟨os,hos,hcs,hds⟩:=id hs;have hTs:s.TypeIs (.ref sl) "slice":=⟨os,hos,hcs⟩;have hstep:¬((rawPart none == rawInt 0)=true):=zq
 have hsame:Builtin.List.listSameRef (.ref l) (.ref b)=false:=by
  unfold Builtin.List.listSameRef;exact beq_eq_false_iff_ne.mpr hne
 have hmax:(max (a:Int) (c:Int)).toNat=c:=by omega
 have hz':((λxs:Array Value=>xs.extract 0 a++new++xs.extract c xs.size) items).size<=sizeLine+1:=by
  simp only[Array.size_append,Array.size_extract];omega
 unfold setItem
 try with_reducible refine zQ ?_
 first | refine za (zc ?_) | skip
 refine za (wpAny_sequenceKey hl.typeIs (by decide) ?_)
 refine za (wpAny_callSpecial?_slot (name:=Str.ofString "__setitem__") hl.typeIs slot_list_setitem
  (wpAny_call_entry slot_list_setitem hl.typeIs entry_list_setitem ?_ (args_list_setitem _ _ _)))
 show wpAny _ _ (Builtin.List.listSubscript? (.ref sl) >>= _) _ _ s;refine za ?_;unfold Builtin.List.listSubscript?;refine za (wpAny_specialOf hTs slice_no_index ?_);simp only[Option.isNone_none,if_true];refine zc ?_;show wpAny _ _ (typeOf (.ref sl) >>= _) _ _ s;refine za (wpAny_typeOf hTs ?_)
 first
  | rw[if_neg (by decide)]
  | refine PySem.W.KFB.if_not (by decide) ?_
 rw[listSliceParts_eq];refine za (za (wpAny_field hos hds (x:=.none) rfl (za (wpAny_listPart .none ?_))));rw[if_neg hstep];refine za (wpAny_field hos hds (x:=vl) rfl (za (wpAny_listPart pl ?_)));refine za (wpAny_field hos hds (x:=vu) rfl (za (wpAny_listPart pu (zc ?_))))
 first
  | simp only[hsame,Bool.false_eq_true,if_false]
  | refine PySem.W.KFB.if_not hsame ?_
  | (dsimp only
     rw[if_neg (by rw[hsame];exact zq)])
 refine za (m:=Builtin.List.listAllItems (.ref b) "must assign iterable to extended slice") ?_;unfold Builtin.List.listAllItems;refine za (wpAny_typeOf hb.typeIs ?_)
 first
  | refine PySem.W.KFB.if_so (by decide) ?_
  | rw[if_pos (by decide)]
  | simp only[beq_self_eq_true,Bool.true_or,if_true]
 unfold Builtin.List.listItems;refine za (wpAny_seqItems e2 rfl (zc ?_));refine za (za (wpAny_seqItems e rfl (zc ?_)));refine za (jp ((sliceIndices_raw (some (a:Int)) (some (c:Int)) none items.size (by simp)).trans (congrArg (pure:Int×Int×Int->Sem (Int×Int×Int)) (Rb hac hc))) ?_);show wpAny _ _ (if((1:Int) == 1)=true then _ else _) _ _ s;rw[if_pos (by decide)];refine za (zR ?_)
 first
  | simp only[tR hsz,Bool.false_eq_true,if_false]
  | refine PySem.W.KFB.if_not (tR hsz) ?_
 first | refine za (zc ?_) | skip
 show wpAny _ _ (updateSeq l (λxs=>xs.extract 0 ((a:Int)).toNat++new++xs.extract (max (a:Int) (c:Int)).toNat xs.size) >>= _) _ _ s;rw[hmax,Int.toNat_natCast];refine za (wpAny_updateSeq (hz:=zH (jx _ _) hsz) (_hz':=hz') e rfl ?_);refine za (jm ?_)
 first
  | exact za (zc (zc ⟨.none,rfl,zc h⟩))
  | exact zc ⟨.none,rfl,zc h⟩
end
section
variable {X:Cx}
end
end L2
namespace Att
open PySem PySem.W PySem.Calls PyProof.Rows
theorem Rc{P:Params}{h:Heap}:∀(ns:List Int) (vs:List Value),WellAll P h vs (ns.map WData.int)->IntsAre vs ns:=by
 intro ns
 induction ns with
 |nil =>
  intro vs w;rw[jf] at w;cases w;exact .nil
 |cons n ns ih =>
  intro vs w;rw[zh] at w
  cases w with
  |cons a b =>
   cases a;exact .cons _ _ (ih _ b)
theorem Rf{l:OpenLaw}{n:Nat}(hn:l.most=some n){P:Params}{h:Heap}{args:List WData}{vals:List Value}
  (hpre:l.row.toRowW.claim.pre args=true) (hwl:WellAll P h vals args):
  ∃a vs ns,vals=[Value.ref a]/\args=[WData.list (ns.map WData.int)]/\h.get? a=some {cls:=.type "list",data:=.seq vs.toArray}/\IntsAre vs ns/\ns.length<=n:=by
 have hsh:WShape.hasAll [] args [.list .int]=true:=(pre_splitW hpre).1;have hc:l.pre.holds [] {args:=args}=true:=(pre_splitW hpre).2;obtain⟨d,r,rfl,h1,h2⟩:=hasAllW_cons hsh;obtain rfl:=hasAllW_nil h2;obtain⟨xs,rfl,h3⟩:=hasW_list h1;obtain⟨ns,rfl⟩:=items_int h3
 have hlen:ns.length<=n:=by
  unfold OpenLaw.pre at hc
  have h4:(WTm.not (.lt (.lit (.int (n:Int))) (.len (.arg 0)))).holds [] {args:=[.list (ns.map .int)]}=true:=by
   have h4:=(holds_andW hc).1;rw[hn] at h4;exact h4
  have h5:=condW_of h4 (w_not (w_lt w_lit (w_len_list (w_arg rfl))));rw[zj] at h5
  refine Nat.le_of_not_lt λq=>?_
  have q':(n:Int)<((ns.length:Nat):Int):=by omega
  first
   | (rw[zx q'] at h5;exact absurd h5 (by decide))
   | (simp at h5;omega)
 cases hwl with
 |cons w1 w2 =>
  cases w2
  cases w1 with
  |list ho hall=>exact⟨_,_,ns,rfl,rfl,ho,Rc ns _ hall,hlen⟩
theorem Rg(l:OpenLaw)(args:List WData):l.row.toRowW.claim.post args (.bool true) args=true :=
 postW_of (r:=l.row.toRowW) (X:=(true == true))
  (show WShape.has [] (.bool true) .bool=true by first | rfl | decide | simp[WShape.has,WShape.arms,WShape.armsAll])
  (show(WTm.eq .res (.lit (.bool true))).value [] {args:=args,res:=some (.bool true),after:=args}=some (.bool (true == true)) from w_eq_bool (w_res rfl) w_lit) rfl
theorem attach_call{l:OpenLaw}{n:Nat}{q:Program}{loose:List Str}{XP:(Str->Option Value)->Heap->Prop}{YP:World->Heap->Prop}{d:DefRec}
  (hn:l.most=some n) (hdf:d.params.defaults=[])
  (call:∀(w:World) (s₀ s₁:Shared) (mg mb:Str->Option Value) (fa:Addr) (o:Obj) (pm cd doc:Value) (a:Addr) (vs:List Value) (ns:List Int),
   Ground q loose [] XP w s₀ mg mb s₁.heap->YP w s₁.heap ->
   s₁.heap.get? fa=some o->o.data=.func (docDef d.name d.params d.body d.scope pm cd doc)->s₁.heap.CodeRec cd d.name->mg d.name=some (.ref fa) ->
   s₁.heap.get? a=some {cls:=.type "list",data:=.seq vs.toArray}->IntsAre vs ns->ns.length<=n->s₁.gens = #[] ->
   codeAny (model l.prog w) callerA (.call (.ref fa) ⟨[.ref a],[]⟩) (λr s'=>r=.ok (.ret (.bool true))/\OldK s₁.heap s'.heap/\s'.os=s₁.os/\AllBare s'.gens) s₁):
  WalkO q loose XP YP l.row.toRowW d [] (λf vs=>PySem.call f vs):=by
 intro w s₀ s₁ mg mb G Y fa o pm cd doc dV kV ho hd hcd hD hmg hg args vals as hpre hlay hrd hwl hlo;obtain rfl:dV=.none:=Dflts.none hD hdf;obtain rfl:kV=.none:=Dflts.noKw hD;obtain⟨a,vs,ns,rfl,rfl,hobj,hints,hlen⟩:=Rf hn hpre hwl;refine enter_call (codeAny_mono (call w s₀ s₁ mg mb fa o pm cd doc a vs ns G Y ho (fd_plain hd) hcd hmg hobj hints hlen hg) λr s' hq=>?_);obtain⟨rfl,h2,h3,h4⟩:=hq;exact⟨.inl ⟨.bool true,.bool true,[],rfl,λ_=>rfl,.bool true,Rg l _,λ_=>⟨List.Pairwise.nil,λ_ hm=>(nomatch hm)⟩⟩,h2,h3,h4⟩
section
variable {prog:Program}{w:World}{A:Around}{E:Value->Shared->Prop}{s:Shared}{K:Frag}
end
end Att
namespace L2
open PySem PySem.Spec PyProof.Rows
theorem xf:∀{vs:List Value}{ns:List Int},IntsAre vs ns->aP (ns.map V.int) vs
 | _,_,.nil=>.nil
 | _,_,.cons n t h=>.cons ⟨t,rfl⟩ (xf h)
def mR(H:Hp):Prop:=∀b,H b=none\/∃o xs,H b=some (.frz o (.lst xs))
theorem Rh{P:Program}{w:World}{K:PySem.W.Frag}{mg mb:Str->Option Value}{CX:CXT}{k:Nat}{fa a:Addr}{fd:FuncData}{x:Str}{sp:Sp}{s₁:Shared}{vs:List Value}{ns:List Int}
  (KX:K.In s₁.heap) (hns:s₁.heap.Ns mainGlobals mg) (hb:s₁.heap.Ns builtinsNs mb) (hbb:∀x:Str,x≠"__name__"->mb x=bootBuiltins x) (hlim:s₁.heap.NoLimit) (hg:s₁.gens = #[])
  (ha:s₁.heap.get? a=some {cls:=.type "list",data:=.seq vs.toArray}) (hi:IntsAre vs ns) (hl:ns.length<=sizeLine) (hr:aX k callerA)
  (F:∀base:Heap,K.In base->base.Ns mainGlobals mg->cA P w K mg base CX k fa fd [x] sp) (hbind:∀(s:Shared) (u:Value),BindsTo s fd ⟨[u],[]⟩ [(x,u)])
  (hsp:∀H:Hp,mR H->SqL K H a (ns.map V.int)->sp [.ref a] H (λv _=>v=.bl true) λ_ _ _=>False)
  (hCX:∀H e s',CX [] H s₁ (λ_ _ _=>False) e s'->False):
  codeAny (model P w) callerA (.call (.ref fa) ⟨[.ref a],[]⟩) (λr s'=>r=.ok (.ret (.bool true))/\OldK s₁.heap s'.heap/\s'.os=s₁.os/\AllBare s'.gens) s₁:=by
 have rv:=xf hi;have lenV:=hi.length;have core:∀H:Hp,mR H->SqL K H a (ns.map V.int)->HOk P w H s₁.heap->(∀b,H b≠none->b=a)->(H a≠none->K.lookup a=none) ->
   codeAny (model P w) callerA (.call (.ref fa) ⟨[.ref a],[]⟩) (λr s'=>r=.ok (.ret (.bool true))/\OldK s₁.heap s'.heap/\s'.os=s₁.os/\AllBare s'.gens) s₁:=by
  intro H hO hS hok hA hK
  have base_of:∀{b:Addr}{o:Obj},s₁.heap.get? b=some o->H b=none->(fZ s₁.heap H).get? b=some o:=λe n=>DP e n
  have noA:∀{b:Addr}{o:Obj}{es:Array DictEntry}{ep:Nat},s₁.heap.get? b=some o->o.data=.dict es ep->H b=none:=λ{b o es ep} e d=>by
   cases q:H b with
   |none=>rfl
   |some u =>
    have e':b=a:=hA b (by rw[q];simp);subst e';rw[ha] at e;cases e;have d':Data.seq vs.toArray _=Data.dict es ep:=d;cases d'
  have nsK:∀{b:Addr}{m:Str->Option Value},s₁.heap.Ns b m->(fZ s₁.heap H).Ns b m:=λ{b m} ⟨o,es,ep,e,d,r⟩=>⟨o,es,ep,base_of e (noA e d),d,r⟩
  have hKb:K.In (fZ s₁.heap H):=λb o e=>base_of (KX b o e) (by
   cases q:H b with
   |none=>rfl
   |some u =>
    have e':b=a:=hA b (by rw[q];simp);subst e'
    rw[hK (by rw[q];simp)] at e;cases e)
  have hM:Mod K mg (fZ s₁.heap H):=⟨hKb,nsK hns,⟨mb,nsK hb,hbb⟩,let ⟨mc,h1,h2⟩:=hlim;⟨mc,nsK h1,h2⟩⟩;have e0:gK P w K mg (fZ s₁.heap H) callerA [] s₁ H:=⟨rfl,hM,λb o e=>DQ e,Nat.le_of_eq (DN _ _),trivial,λb hb=>absurd (show b∈([]:List Addr) from hb) (by simp),hok,.of_eq hg⟩
  refine codeAny_mono ((F _ hKb (nsK hns)).run callerA [] s₁ H ⟨[.ref a],[]⟩ [.ref a] [.ref a] _ _ hr e0 (hbind s₁ (.ref a)) (.cons rfl .nil) (hsp H hO hS)) λr s' h=>?_
  cases r with
  |error e=>exact(hCX H e s' h).elim
  |ok fl =>
   cases fl with
   |next=>exact False.elim h
   |brk=>exact False.elim h
   |cont=>exact False.elim h
   |ret u =>
    obtain⟨v,H',os,bare,un,hok',r',q⟩:=h;have q':v=.bl true:=q;subst q';obtain rfl:u=Value.bool true:=r';refine⟨rfl,OldK.of_keep λb o e=>?_,os,bare⟩
    cases q:H b with
    |none=>exact un.keep b o e q (by intro z;exact absurd (show b∈([]:List Addr) from z) (by simp)) (by simp)
    |some u =>
     rcases hO b with z | ⟨ob,xs,z⟩
     ·rw[q] at z;cases z
     ·have z2:=un.frzs b ob _ z;obtain⟨e1,_⟩:=hok b _ z;obtain⟨e2,_⟩:=hok' b _ z2;rw[e] at e1;cases e1;exact e2
 cases hk:K.lookup a with
 |some o =>
  have e:=KX a o hk;rw[ha] at e;cases e
  refine core (λ_=>none) (λ_=>.inl rfl) (.inr ⟨_,vs.toArray,_,hk,rfl,rfl,rfl,by rw[zG,lenV];exact hl,by simpa using rv⟩) (λb u z=>by have z':(none:Option HO)=some u:=z;cases z') (λb z=>absurd rfl z) λz=>absurd rfl z
 |none =>
  refine core (λb=>if b=a then some (.frz {cls:=.type "list",data:=.seq vs.toArray} (.lst (ns.map V.int))) else none) (λb=>?_) (.inl (.inr ⟨{cls:=.type "list",data:=.seq vs.toArray},if_pos rfl⟩)) (λb u z=>?_) (λb z=>?_) λ_=>hk
  ·by_cases hb:b=a
   ·exact .inr ⟨_,_,if_pos hb⟩
   ·exact .inl (if_neg hb)
  ·by_cases hb:b=a
   ·have z':=(if_pos hb).symm.trans z;cases z';subst hb;exact⟨ha,by rw[zj];exact hl,vs,_,rv,ha⟩
   ·have z':=(if_neg hb).symm.trans z;cases z'
  ·by_cases hb:b=a
   ·exact hb
   ·exact absurd (if_neg hb) z
abbrev KOf{K:PySem.W.Frag}{h:Heap}(_:K.In h):PySem.W.Frag:=K
theorem walk_of{l:PySem.W.OpenLaw}{n k:Nat}{q:Program}{loose:List Str}{XP:(Str->Option Value)->Heap->Prop}{YP:World->Heap->Prop}{d:DefRec}{K:Params->PySem.W.Frag}{CX:World->CXT}{sp:World->Sp}{x:Str}
  (hn:l.most=some n) (hn2:n<=sizeLine) (hdf:d.params.defaults=[]) (hr:aX k callerA)
  (hY:∀(w:World) (h:Heap),YP w h->(K w.params).In h)
  (F:∀(w:World) (mg:Str->Option Value) (fa:Addr) (h:Heap),(K w.params).In h->h.Ns mainGlobals mg->mg d.name=some (.ref fa) ->
   ∃fd:FuncData,(∀(s:Shared) (u:Value),BindsTo s fd ⟨[u],[]⟩ [(x,u)]) /\
    ∀base:Heap,(K w.params).In base->base.Ns mainGlobals mg->cA l.prog w (K w.params) mg base (CX w) k fa fd [x] (sp w))
  (hsp:∀(w:World) (H:Hp) (a:Addr) (ns:List Int),ns.length<=n->mR H->SqL (K w.params) H a (ns.map V.int)->sp w [.ref a] H (λv _=>v=.bl true) λ_ _ _=>False)
  (hCX:∀(w:World) (H:Hp) (s:Shared) (e:Value) (s':Shared),CX w [] H s (λ_ _ _=>False) e s'->False):
  PySem.W.WalkO q loose XP YP l.row.toRowW d [] (λf vs=>PySem.call f vs):=by
 refine Att.attach_call hn hdf λw s₀ s₁ mg mb fa o pm cd doc a vs ns G Y ho hd hcd hmg hobj hints hlen hg=>?_
 have KX:=hY w _ Y;obtain⟨fd,hb,hF⟩:=F w mg fa _ KX G.T.g hmg
 exact Rh KX G.T.g G.T.b G.T.builtins G.T.nolimit hg hobj hints (zH hlen hn2) hr hF hb (λH hO hS=>hsp w H a ns hlen hO hS) λH e s'=>hCX w H s₁ e s'
end L2
/- THE LAST THEOREM (shape;LID,My.* are yours):
   My.Adr: a structure of the addresses that your layer names (classes,functions);My.Txt K t: a structure (Prop) of the equations over K;
   My.txt_mk:{K}{implicit addresses ..} (e1:nsIn K mainGlobals "law" = some (some (.ref f))) (e2:K.lookup f=some ⟨oc,od,.func (fnOf "law" "law" params body scope dV kV doc pm an cdv ct),sl⟩) (e3:codeIn K cdv "law" = true) ..:∃t,My.Txt K t
set_option maxRecDepth 100000 in
set_option maxHeartbeats 0 in
theorem PySem.Challenge.cw_LID_holds : PySem.Challenge.rw_LID.Holds := by
 w_on;o_law;k_head;(case hw=>w_witness2)
 k_fill
 refine L2.walk_of (l:=PySem.Challenge.rw_LID) (n:=63) (k:=40) (x:="script") (CX:=λw=>..) (sp:=λ_=>My.sp_law) rfl (by decide) rfl ⟨rfl,by decide,by decide⟩ (λw h Y=>PySem.W.kIn_of Y) ?F ?S ?C
 case F =>
  intro w mg fa h KX G hmg
  have T:∃t,My.Txt (L2.KOf KX) t:=by
   dsimp only[L2.KOf]                          -- K must stand as «<heap const> w.params» for k_is
   refine' My.txt_mk ?e1 ?e2 ?e3 ..
   (case e1=>PySem.W.k_is)                    -- in the order: a name -> its address -> its object -> its parts
   (case e2=>PySem.W.k_is)
   ..
  obtain⟨t,T⟩:=T;have e0:=hmg.symm.trans (PySem.W.mg_of KX G T.law);cases e0                                       -- fa is the law's own address
  exact⟨_,λs u=>.of_eq rfl,λbase kb nb=>My.law_fn T kb nb⟩     -- if «.of_eq rfl» comes too early: refine'⟨_,?b,λbase kb nb=>My.law_fn T kb nb⟩;exact λs u=>.of_eq rfl
 case S=>exact λw H a ns hl hO hS=>..
 case C=>exact ..
(the tactic k_is has no namespace: write k_is) -/
namespace L2
open PySem PySem.Spec PyProof.Rows
def inClass(s:Stmt)(j:Nat):Stmt:=match s with
 | .ClassDef _ _ _ body _ _ _ _ _ _ _=>body.getD j (.Pass ⟨0,0,0,0⟩)
 | _=>.Pass ⟨0,0,0,0⟩
def gb(s:Stmt):Arguments:=match s with
 | .FunctionDef _ a _ _ _ _ _ _ _ _=>a
 | _=>{posonlyargs:=[],args:=[],vararg:=none,kwonlyargs:=[],kw_defaults:=[],kwarg:=none,defaults:=[]}
def dz(s:Stmt):List Stmt:=match s with
 | .FunctionDef _ _ b _ _ _ _ _ _ _=>b
 | _=>[]
def aR(s:Stmt):Scope:=match s with
 | .FunctionDef _ _ _ _ _ _ sc _ _ _=>sc
 | _=>{kind:=.function,names:=[],isGenerator:=false,isCoroutine:=false}
abbrev CX0:CXT:=λ_ _ _ _ _ _=>False
abbrev E0:XK:=λ_ _ _=>False
theorem tU{X:Cx}:mQ CX0 X E0:=λ_ _ _ _ _ _ _ h=>h.elim
structure Fun(K:PySem.W.Frag)(x qual:Str)(st:Stmt)(f:Addr)(fd:FuncData):Prop where
 ex:∃(oc:Value) (od:Option Addr) (kV doc pm:Value) (an:Option Addr) (cdv ct:Value) (osl:Array (Option Value)),
  fd=PySem.W.fnOf x qual (gb st) (dz st) (aR st) .none kV doc pm an cdv ct/\K.lookup f=some ⟨oc,od,.func fd,osl⟩/\PySem.W.codeIn K cdv qual=true
 kp:PySem.W.keepIn K (.ref f)=true
section
variable {P:Program}{w:World}{K:PySem.W.Frag}{mg:Str->Option Value}{base:Heap}
theorem Fun.ok{x qual:Str}{st:Stmt}{f:Addr}{fd:FuncData}{N ps:List Str}{k:Nat}{sp:Sp}(F:Fun K x qual st f fd)(S:bN N ps (aR st))(len:∀vs H Q E,sp vs H Q E->vs.length=ps.length)
  (hbody:∀(cdv:Value) (A:Around) (outer:List Env) (s:Shared) (H:Hp) (vs:List V) (Q:VK) (E:XK),aX k (A.deeper (envOfC qual (aR st) s.heap.objs.size f cdv))->sp vs H Q E ->
   ∃t,PSs (il CX0 P w K mg base N qual (aR st) f cdv A outer s H E).nox (dz st) t/\t {nx:=λ_ H'=>Q .non H',rt:=Q} (start N vs) H):cA P w K mg base CX0 (k+1) f fd ps sp:=by
 obtain⟨oc,od,kV,doc,pm,an,cdv,ct,osl,rfl,lk,hcd⟩:=F.ex
 refine Ff lk hcd S len λA outer s H vs Q E hr hsp=>?_
 obtain⟨t,h,q⟩:=hbody cdv A outer s H vs Q E hr hsp;exact⟨t,h.nox,q⟩
theorem Fun.binds{x qual:Str}{st:Stmt}{f:Addr}{fd:FuncData}{ps:List Str}(F:Fun K x qual st f fd)
  (h:∀(kV doc pm:Value) (an:Option Addr) (cdv ct:Value) (us:List Value),us.length=ps.length->bindArgs (PySem.W.fnOf x qual (gb st) (dz st) (aR st) .none kV doc pm an cdv ct) ⟨us,[]⟩=pure (ps.zip us)):Binds K fd ps []:=by
 obtain⟨oc,od,kV,doc,pm,an,cdv,ct,osl,rfl,lk,hcd⟩:=F.ex;exact .all (h kV doc pm an cdv ct)
theorem xg{x qual:Str}{st:Stmt}{f:Addr}{oc:Value}{od an:Option Addr}{osl:Array (Option Value)}{kV doc pm cdv ct:Value}(l:K.lookup f=some ⟨oc,od,.func (PySem.W.fnOf x qual (gb st) (dz st) (aR st) .none kV doc pm an cdv ct),osl⟩)
  (c:PySem.W.codeIn K cdv qual=true) (k:PySem.W.keepIn K (.ref f)=true):Fun K x qual st f (PySem.W.fnOf x qual (gb st) (dz st) (aR st) .none kV doc pm an cdv ct):=⟨⟨oc,od,kV,doc,pm,an,cdv,ct,osl,rfl,l,c⟩,k⟩
end
theorem mU{A:Around}{k:Nat}(hr:aX k A):A.units+1<cLine:=Nat.lt_of_le_of_lt (Nat.add_le_add_left (by decide:1<=64) _) hr.units
section
variable {X:Cx}
end
def Same(H H':Hp):Prop:=∀b o,H b=some o->H' b=some o
theorem Same.refl(H:Hp):Same H H:=λ_ _ h=>h
theorem Same.trans{H H1 H2:Hp}(a:Same H H1)(b:Same H1 H2):Same H H2:=λc o h=>b c o (a c o h)
theorem Same.free{H H':Hp}(e:Same H H'){l:Addr}(h:H' l=Option.none):H l=Option.none:=by
 cases q:H l with
 |none=>rfl
 |some o =>
  rw[e l o q] at h;cases h
theorem Same.seq{K:PySem.W.Frag}{H H':Hp}{a:Addr}{xs:List V}(e:Same H H')(h:SqL K H a xs):SqL K H' a xs:=by
 rcases h with(h | ⟨o,h⟩) | h
 ·exact .inl (.inl (e _ _ h))
 ·exact .inl (.inr ⟨o,e _ _ h⟩)
 ·exact .inr h
section
variable {κ:Type}[DecidableEq κ]
def dB(kvs:List (κ×V))(k:κ):Option V:=(kvs.find? λkv=>decide (kv.1=k)).map (·.2)
def putK(kvs:List (κ×V))(k:κ)(v:V):List (κ×V):=
 if(kvs.any λkv=>decide (kv.1=k))=true then kvs.map (λkv=>if kv.1=k then(kv.1,v) else kv) else kvs++[(k,v)]
def Fw(kvs:List (κ×V))(k:κ):List (κ×V):=kvs.filter λkv=>decide (kv.1≠k)
theorem qH{p:κ×V}{r:List (κ×V)}{k:κ}(e:p.1=k):dB (p::r) k=some p.2:=by simp[dB,List.find?_cons,e]
theorem qI{p:κ×V}{r:List (κ×V)}{k:κ}(e:¬p.1=k):dB (p::r) k=dB r k:=by simp[dB,List.find?_cons,e]
theorem Fx(k:κ):∀kvs:List (κ×V),(kvs.any λkv=>decide (kv.1=k))=(dB kvs k).isSome
 | []=>rfl
 |p::r=>by
  rw[List.any_cons]
  by_cases e:p.1=k
  ·simp only[qH e,zx e,Bool.true_or,Option.isSome_some]
  ·rw[qI e,zp e,Bool.false_or];exact Fx k r
theorem xj(kvs:List (κ×V))(k:κ)(v:V):(putK kvs k v).length<=kvs.length+1:=by
 unfold putK
 split
 ·rw[zj];omega
 ·rw[zv,zI,jg];omega
theorem dU.isSome_eq{o:Option V}{u:Option Value}(r:dU o u):o.isSome=u.isSome:=by
 cases o with
 |none=>cases u with
  |none=>rfl
  |some _=>exact(show False from r).elim
 |some _=>cases u with
  |none=>exact(show False from r).elim
  |some _=>rfl
theorem dU.getD{o:Option V}{u:Option Value}{d:V}{d':Value}(r:dU o u)(rd:RelV d d'):RelV (o.getD d) (u.getD d'):=by
 cases o with
 |none=>cases u with
  |none=>exact rd
  |some _=>exact(show False from r).elim
 |some _=>cases u with
  |none=>exact(show False from r).elim
  |some _=>exact r
theorem KV.val{kvs:List (κ×V)}{vs:List (κ×Value)}(r:KV kvs vs)(k:κ):dU (dB kvs k) (valueAt vs k):=by
 unfold KV at r
 induction r with
 |nil=>exact True.intro
 | @cons p q ps qs h t ih =>
  obtain⟨h1,h2⟩:=h
  by_cases e:p.1=k
  ·have e':q.1=k:=h1.symm.trans e
   have b:valueAt (q::qs) k=some q.2:=by simp[valueAt,List.find?_cons,e']
   rw[qH e,b];exact h2
  ·have e':¬q.1=k:=λz=>e (h1.trans z)
   have b:valueAt (q::qs) k=valueAt qs k:=by simp[valueAt,List.find?_cons,e']
   rw[qI e,b];exact ih
theorem KV.any{kvs:List (κ×V)}{vs:List (κ×Value)}(r:KV kvs vs)(k:κ):(kvs.any λkv=>decide (kv.1=k))=vs.any λkv=>decide (kv.1=k):=by
 unfold KV at r
 induction r with
 |nil=>rfl
 |cons h t ih=>rw[List.any_cons,List.any_cons,ih,h.1]
theorem KV.repl{kvs:List (κ×V)}{vs:List (κ×Value)}(r:KV kvs vs)(k:κ){y:V}{u:Value}(ry:RelV y u):
  KV (kvs.map λkv=>if kv.1=k then(kv.1,y) else kv) (vs.map λkv=>if kv.1=k then(kv.1,u) else kv):=by
 unfold KV at r ⊢
 induction r with
 |nil=>exact .nil
 | @cons p q ps qs h t ih =>
  rw[zh,zh];refine .cons ?_ ih;obtain⟨h1,h2⟩:=h
  by_cases e:p.1=k
  ·rw[if_pos e,if_pos (h1.symm.trans e)];exact⟨h1,ry⟩
  ·rw[if_neg e,if_neg (λz=>e (h1.trans z))];exact⟨h1,h2⟩
theorem KV.put{kvs:List (κ×V)}{vs:List (κ×Value)}(r:KV kvs vs)(k:κ){y:V}{u:Value}(ry:RelV y u):KV (putK kvs k y) (stored vs k u):=by
 unfold putK stored;rw[r.any k]
 by_cases e:(vs.any λkv=>decide (kv.1=k))=true
 ·rw[if_pos e,if_pos e];exact r.repl k ry
 ·rw[if_neg e,if_neg e];exact Paired.snoc r ⟨rfl,ry⟩
theorem KV.drop{kvs:List (κ×V)}{vs:List (κ×Value)}(r:KV kvs vs)(k:κ):KV (Fw kvs k) (without vs k):=by
 unfold KV at r ⊢;unfold Fw without
 induction r with
 |nil=>exact .nil
 | @cons p q ps qs h t ih =>
  obtain⟨h1,h2⟩:=h;rw[List.filter_cons,List.filter_cons]
  by_cases e:p.1=k
  ·have a:¬decide (p.1≠k)=true:=by simp[e]
   have b:¬decide (q.1≠k)=true:=by simp[h1.symm.trans e]
   rw[if_neg a,if_neg b];exact ih
  ·have e':¬q.1=k:=λz=>e (h1.trans z)
   have a:decide (p.1≠k)=true:=by simp[e]
   have b:decide (q.1≠k)=true:=by simp[e']
   rw[if_pos a,if_pos b];exact .cons ⟨h1,h2⟩ ih
theorem KV.keys{kvs:List (κ×V)}{vs:List (κ×Value)}(r:KV kvs vs):kvs.map (·.1)=vs.map (·.1):=by
 unfold KV at r
 induction r with
 |nil=>rfl
 |cons h t ih=>rw[zh,zh,ih,h.1]
theorem KV.length{kvs:List (κ×V)}{vs:List (κ×Value)}(r:KV kvs vs):kvs.length=vs.length:=Paired.length r
end
theorem oJ{P:Program}{w:World}{k:Key}{u:Value}(r:RelV (kV k) u):(cR P w).is k u=true:=by
 cases k with
 |inl i=>obtain⟨t,e⟩:=(show ∃t,u=Value.int i t from r);subst e;exact MK P w i t
 |inr x=>obtain⟨t,e⟩:=(show ∃t,u=Value.str x t from r);subst e;exact MN P w x t
theorem Fy{P:Program}{w:World}:∀{ks:List Key}{us:List Value},aP (ks.map kV) us->ItemsAre (cR P w) ks us
 | [],_,r=>by rw[jf] at r;cases r;exact .nil
 |k::ks,_,r=>by
  rw[zh] at r
  cases r with
  |cons h t=>exact .cons (oJ h) (Fy t)
abbrev KT(H:Hp):List (List Key×V)->List (List Key×Addr×Value)->Prop:=Paired λp q=>p.1=q.1/\H q.2.1=some (.tup (p.1.map kV))/\RelV p.2 q.2.2
theorem KT.val{H:Hp}{kvs:List (List Key×V)}{xs:List (List Key×Addr×Value)}(r:KT H kvs xs)(k:List Key):dU (dB kvs k) ((atKey xs k).map (·.2)):=by
 induction r with
 |nil=>exact True.intro
 | @cons p q ps qs h t ih =>
  obtain⟨h1,_,h2⟩:=h
  by_cases e:p.1=k
  ·have e':q.1=k:=h1.symm.trans e
   have b:atKey (q::qs) k=some q.2:=by simp[atKey,List.find?_cons,e']
   rw[qH e,b];exact h2
  ·have e':¬q.1=k:=λz=>e (h1.trans z)
   have b:atKey (q::qs) k=atKey qs k:=by simp[atKey,List.find?_cons,e']
   rw[qI e,b];exact ih
theorem KT.repl{H:Hp}{kvs:List (List Key×V)}{xs:List (List Key×Addr×Value)}(r:KT H kvs xs)(k:List Key){y:V}{u:Value}(ry:RelV y u):
  KT H (kvs.map λkv=>if kv.1=k then(kv.1,y) else kv) (xs.map (putAt k u)):=by
 induction r with
 |nil=>exact .nil
 | @cons p q ps qs h t ih =>
  rw[zh,zh];refine .cons ?_ ih;obtain⟨h1,h2,h3⟩:=h;unfold putAt
  by_cases e:p.1=k
  ·rw[if_pos e,if_pos (h1.symm.trans e)];exact⟨h1,h2,ry⟩
  ·rw[if_neg e,if_neg (λz=>e (h1.trans z))];exact⟨h1,h2,h3⟩
theorem KT.put{H:Hp}{kvs:List (List Key×V)}{xs:List (List Key×Addr×Value)}(r:KT H kvs xs)(k:List Key){b:Addr}{y:V}{u:Value}(hb:H b=some (.tup (k.map kV)))(ry:RelV y u):
  KT H (putK kvs k y) (storedH xs k b u):=by
 have e:(kvs.any λkv=>decide (kv.1=k))=(atKey xs k).isSome:=by
  rw[Fx,(r.val k).isSome_eq,Option.isSome_map]
 unfold putK storedH;rw[e]
 by_cases q:(atKey xs k).isSome=true
 ·rw[if_pos q,if_pos q];exact r.repl k ry
 ·rw[if_neg q,if_neg q];exact Paired.snoc r ⟨rfl,hb,ry⟩
theorem KT.keeps{H H':Hp}{kvs:List (List Key×V)}{xs:List (List Key×Addr×Value)}(r:KT H kvs xs)(ht:∀b ys,H b=some (.tup ys)->H' b=some (.tup ys)):KT H' kvs xs :=
 Paired.mapP r λ_ _ z=>⟨z.1,ht _ _ z.2.1,z.2.2⟩
section
variable {P:Program}{w:World}{H:Hp}{h:Heap}{a:Addr}
theorem Fz{u:HO}(ok:HOk P w H h)(e:Rd H a u):bU P w H h a u:=e.ok ok
theorem mV{kvs:List (Key×V)}(ok:HOk P w H h)(e:Rd H a (.dK kvs)):kvs.length<=sizeLine/\(a == sysModules)=false/\∃vs,KV kvs vs/\h.DictOf (cR P w) a vs :=
 show bU P w H h a (.dK kvs) from Fz ok e
theorem Ri{kvs:List (Key×V)}(ok:HOk P w H h)(e:H a=some (.dK kvs)):kvs.length<=sizeLine/\(a == sysModules)=false/\∃vs,KV kvs vs/\h.DictOf (cR P w) a vs:=mV ok (.inl e)
theorem mW{ks:List Key}(ok:HOk P w H h)(e:H a=some (.tup (ks.map kV))):(tupleKind (cR P w)).is h ks a:=by
 obtain⟨_,its,r,o,h1,h2,n,h3⟩:=(show bU P w H h a (.tup (ks.map kV)) from ok a _ e);exact⟨o,its.toArray,n,h1,h2,h3,by simpa using Fy r⟩
theorem jT{kvs:List (List Key×V)}(ok:HOk P w H h)(e:Rd H a (.dT kvs)):kvs.length<=sizeLine/\(a == sysModules)=false /\
  ∃xs,KT H kvs xs/\h.DictOfH (tupleKind (cR P w)) a xs:=by
 obtain⟨z,y,xs,r,o,es,ep,h1,h2,h3,h4,h5⟩:=(show bU P w H h a (.dT kvs) from Fz ok e);refine⟨z,y,xs,r,o,es,ep,h1,h2,h3,h4,λx hx=>?_,h5⟩
 have all:∀{l:List (List Key×V)}{m:List (List Key×Addr×Value)},KT H l m->∀x∈m,(tupleKind (cR P w)).is h x.1 x.2.1:=by
  intro l m q
  induction q with
  |nil=>intro x hx;exact nomatch hx
  | @cons p q ps qs hq t ih =>
   intro x hx
   rcases zF.mp hx with e | hx
   ·subst e;exact mW ok (by rw[<-hq.1];exact hq.2.1)
   ·exact ih x hx
 exact all r x hx
theorem xn{kvs:List (List Key×V)}(ok:HOk P w H h)(e:H a=some (.dT kvs)):kvs.length<=sizeLine/\(a == sysModules)=false /\
  ∃xs,KT H kvs xs/\h.DictOfH (tupleKind (cR P w)) a xs:=jT ok (.inl e)
end
def eX(H:Hp)(a:Addr)(y:V)(r:Option V):Prop :=
 (∃kvs k,Rd H a (.dK kvs)/\y=kV k/\r=dB kvs k)\/∃kvs k b,Rd H a (.dT kvs)/\y=.ref b/\H b=some (.tup (k.map kV))/\r=dB kvs k
def mX(H:Hp)(a:Addr)(y v:V)(H':Hp):Prop :=
 (∃kvs k,H a=some (.dK kvs)/\y=kV k/\kvs.length<sizeLine/\H'=upd H a (.dK (putK kvs k v))) \/
 ∃kvs k b,H a=some (.dT kvs)/\y=.ref b/\H b=some (.tup (k.map kV))/\kvs.length<sizeLine/\H'=upd H a (.dT (putK kvs k v))
theorem eX.k{H:Hp}{a:Addr}{kvs:List (Key×V)}{k:Key}(e:H a=some (.dK kvs)):eX H a (kV k) (dB kvs k):=.inl ⟨kvs,k,.inl e,rfl,rfl⟩
theorem eX.t{H:Hp}{a b:Addr}{kvs:List (List Key×V)}{k:List Key}(e:H a=some (.dT kvs))(eb:H b=some (.tup (k.map kV))):eX H a (.ref b) (dB kvs k):=.inr ⟨kvs,k,b,.inl e,rfl,eb,rfl⟩
theorem mX.k{H:Hp}{a:Addr}{kvs:List (Key×V)}{k:Key}{v:V}(e:H a=some (.dK kvs))(hl:kvs.length<sizeLine):mX H a (kV k) v (upd H a (.dK (putK kvs k v))):=.inl ⟨kvs,k,e,rfl,hl,rfl⟩
theorem mX.t{H:Hp}{a b:Addr}{kvs:List (List Key×V)}{k:List Key}{v:V}(e:H a=some (.dT kvs))(eb:H b=some (.tup (k.map kV)))(hl:kvs.length<sizeLine):
  mX H a (.ref b) v (upd H a (.dT (putK kvs k v))):=.inr ⟨kvs,k,b,e,rfl,eb,hl,rfl⟩
section
variable {X:Cx}{pins:List (Addr×Obj)}{σ:St}{H:Hp}{s:Shared}{a:Addr}{y v:V}{u r:Value}{o:Option V}{A:Around}{E:Value->Shared->Prop}
theorem Inv.big(I:Inv X pins σ H s):sysModules<s.heap.objs.size:=by
 have h:mainGlobals<s.heap.objs.size:=(I.mod.glob.keeps I.bk).lt;exact Nat.lt_trans (by decide) h
theorem Rj{Q:Value->Shared->Prop}(hu:A.units+1<cLine)(I:Inv X pins σ H s)(g:eX H a y (some v))(ry:RelV y u)(h:∀w' s',Inv X pins σ H s'->RelV v w'->Q w' s'):
  wpAny (model X.prog X.w) A (getItem (.ref a) u) Q E s:=by
 rcases g with⟨kvs,k,e,ey,l⟩ | ⟨kvs,k,b,e,ey,eb,l⟩
 ·subst ey;obtain⟨z,hd,vs,rel,dd⟩:=mV I.hok e;obtain⟨w',hw,rw'⟩:=dU.some_of (v:=v) (o:=valueAt vs k) (by rw[l];exact rel.val k);exact wpAny_getItem_of (oJ ry) dd.mapOf hw (h w' _ (I.tok _) rw')
 ·subst ey;cases(show u=Value.ref b from ry);obtain⟨z,hd,xs,rel,dd⟩:=jT I.hok e;obtain⟨w',hw,rw'⟩:=dU.some_of (v:=v) (o:=(atKey xs k).map (·.2)) (by rw[l];exact rel.val k);obtain⟨p,hp,hp2⟩:=Option.map_eq_some_iff.mp hw;refine wpAny_getItem_heap (tupleKind_room_in1 hu) (mW I.hok eb) dd hp ?_;rw[hp2];exact h w' _ (I.tok _) rw'
theorem Rk{Q:Value->Shared->Prop}(hu:A.units+1<cLine)(I:Inv X pins σ H s)(g:eX H a y o)(ry:RelV y u)(h:∀s',Inv X pins σ H s'->Q (.bool o.isSome) s'):
  wpAny (model X.prog X.w) A (compareOp .In u (.ref a)) Q E s:=by
 rcases g with⟨kvs,k,e,ey,l⟩ | ⟨kvs,k,b,e,ey,eb,l⟩
 ·subst ey;obtain⟨z,hd,vs,rel,dd⟩:=mV I.hok e;refine wpAny_in_of (oJ ry) hd dd.mapOf ?_;rw[<-(rel.val k).isSome_eq,<-l];exact h _ (I.tok _)
 ·subst ey;cases(show u=Value.ref b from ry);obtain⟨z,hd,xs,rel,dd⟩:=jT I.hok e;refine wpAny_in_heap (tupleKind_room_in1 hu) (mW I.hok eb) hd dd ?_;have q:=(rel.val k).isSome_eq;rw[Option.isSome_map] at q;rw[<-q,<-l];exact h _ (I.tok _)
theorem Rm{Q:Value->Shared->Prop}(hu:A.units+1<cLine)(I:Inv X pins σ H s)(g:eX H a y o)(ry:RelV y u)(h:∀s',Inv X pins σ H s'->Q (.bool (!o.isSome)) s'):
  wpAny (model X.prog X.w) A (compareOp .NotIn u (.ref a)) Q E s:=by
 rcases g with⟨kvs,k,e,ey,l⟩ | ⟨kvs,k,b,e,ey,eb,l⟩
 ·subst ey;obtain⟨z,hd,vs,rel,dd⟩:=mV I.hok e;refine wpAny_notIn_of (oJ ry) hd dd.mapOf ?_;rw[<-(rel.val k).isSome_eq,<-l];exact h _ (I.tok _)
 ·subst ey;cases(show u=Value.ref b from ry);obtain⟨z,hd,xs,rel,dd⟩:=jT I.hok e;refine wpAny_notIn_heap (tupleKind_room_in1 hu) (mW I.hok eb) hd dd ?_;have q:=(rel.val k).isSome_eq;rw[Option.isSome_map] at q;rw[<-q,<-l];exact h _ (I.tok _)
theorem tV{h':Heap}{t':Nat}{ob:HO}(I:Inv X pins σ H s)(mu:Mut (H a))(hs:Heap.SameBut a s.heap h')(he:∃q,h'.get? a=some q)(new:bU X.prog X.w (upd H a ob) h' a ob):
  Inv X pins σ (upd H a ob) {s with heap:=h',toks:=t'}:=
 I.write (x:=a) (e:=a) mu (.inl rfl) (λb q hb z=>(hs.2 b hb).trans z) he new
theorem Rn{P:Program}{w:World}{H':Hp}{h':Heap}{kvs:List (Key×V)}{vs:List (Key×Value)}(z:kvs.length<=sizeLine)(hd:(a == sysModules)=false)(rel:KV kvs vs)(dd:h'.DictOf (cR P w) a vs):
  bU P w H' h' a (.dK kvs):=⟨z,hd,vs,rel,dd⟩
theorem Ro{H':Hp}{Q:Unit->Shared->Prop}(hu:A.units+1<cLine)(I:Inv X pins σ H s)(g:mX H a y v H')(ry:RelV y u)(rv:RelV v r)(h:∀s',Inv X pins σ H' s'->Q () s'):
  wpAny (model X.prog X.w) A (setItem (.ref a) u r) Q E s:=by
 rcases g with⟨kvs,k,e,ey,l,eH⟩ | ⟨kvs,k,b,e,ey,eb,l,eH⟩
 ·subst ey eH;obtain⟨z,hd,vs,rel,dd⟩:=Ri I.hok e
  have hz:vs.length<=sizeLine:=by rw[<-rel.length];exact z
  have hl:(putK kvs k v).length<=sizeLine:=by have:=xj kvs k v;omega
  refine wpAny_setItem_pairs (hsz:=hz) (oJ ry) dd λh' dd' hs=>h _ ?_
  have he:∃q,h'.get? a=some q:=let ⟨q,_,_,hq,_⟩:=dd';⟨q,hq⟩;exact tV I (by rw[e];exact True.intro) hs he (Rn hl hd (rel.put k rv) dd')
 ·subst ey eH;cases(show u=Value.ref b from ry);obtain⟨z,hd,xs,rel,dd⟩:=xn I.hok e
  have hz:xs.length<=sizeLine:=by rw[<-Paired.length rel];exact z
  have hl:(putK kvs k v).length<=sizeLine:=by have:=xj kvs k v;omega
  refine wpAny_setItem_heap (hsz:=hz) (tupleKind_room_in1 hu) (mW I.hok eb) dd λh' dd' hs=>h _ ?_
  obtain⟨q,es,ep,hq,h2,h3,h4,_,h5⟩:=dd';refine tV I (by rw[e];exact True.intro) hs ⟨q,hq⟩ ⟨hl,hd,_,(rel.put k eb rv).keeps λc ys ec=>?_,q,es,ep,hq,h2,h3,h4,h5⟩;rw[aG (ne_of ec e (λz=>nomatch z))];exact ec
end
section
variable {X:Cx}{pins:List (Addr×Obj)}{σ:St}{H:Hp}{s:Shared}{a:Addr}{kvs:List (Key×V)}{k:Key}{u:Value}{A:Around}{E:Value->Shared->Prop}
end
def FJ(i:Expr):Prop:=∀ov iv,subscripted i false ov iv=operate [ov,iv] (getItem ov iv)
theorem Rq{prog:Program}{w:World}{A:Around}{E:Value->Shared->Prop}{s:Shared}{env:Env}{value slice:Expr}{pos:Pos}{T id:String}{Q:Value->Shared->Prop}
  (hl:typeLookup (.type T) "__getitem__" = pure (some (.builtin id))) (hs:FJ slice)
  (h:wpAny (model prog w) A (eval value env) (λo s₁=>wpAny (model prog w) A (eval slice env) (λi s₂=>s₂.TypeIs o T/\wpAny (model prog w) A (getItem o i) Q E s₂) E s₁) E s):
  wpAny (model prog w) A (eval (.Subscript value slice pos) env) Q E s:=by
 refine Subscript_ (zT h (λo s₁ h₁=>zT h₁ (λi s₂ h₂=>?_) λ_ _ x=>x) λ_ _ x=>x);obtain⟨hT,h₂⟩:=h₂;unfold subscriptTail;refine za ?_;rw[getitemInPython_of_ne hT.not_modules];refine za (wpAny_specialOf hT hl ?_)
 have fin:wpAny (model prog w) A (subscripted slice false o i) (λr s₃=>wpAny (model prog w) A (letTemporaryGo value o r >>= λ_=>pure r) Q E s₃) E s₂:=by
  rw[hs o i];exact wpAny_operating (zT h₂ (λr s₃ h₃=>za (wpAny_letTemporaryGo (zc h₃))) λ_ _ x=>x)
 first
  | exact zc (za fin)
  | exact za (zc (za fin))
  | exact za fin
theorem Rr{X:Cx}{pins:List (Addr×Obj)}{σ:St}{H:Hp}{s:Shared}{a:Addr}{y:V}{o:Option V}(I:Inv X pins σ H s)(g:eX H a y o):s.TypeIs (.ref a) "dict":=by
 rcases g with⟨kvs,k,e,_,_⟩ | ⟨kvs,k,b,e,_,_,_⟩
 ·obtain⟨_,_,vs,_,dd⟩:=mV I.hok e;exact dd.typeIs
 ·obtain⟨_,_,xs,_,dd⟩:=jT I.hok e;exact dd.typeIs
def Rt(td ty:TE):TE:=λσ H Q=>td σ H λx H1=>ty σ H1 λy H2=>∃a v,x=.ref a/\eX H2 a y (some v)/\Q v H2
def Ru(ty td:TE):TE:=λσ H Q=>ty σ H λy H1=>td σ H1 λx H2=>∃a o,x=.ref a/\eX H2 a y o/\Q (.bl o.isSome) H2
def FN(ty td:TE):TE:=λσ H Q=>ty σ H λy H1=>td σ H1 λx H2=>∃a o,x=.ref a/\eX H2 a y o/\Q (.bl (!o.isSome)) H2
def Rv(td ty tv:TE):TS:=λD σ H=>tv σ H λv H1=>td σ H1 λx H2=>ty σ H2 λy H3=>∃a H4,x=.ref a/\mX H3 a y v H4/\D.nx σ H4
section
variable {X:Cx}{o i e value:Expr}{pos pos' tpos:Pos}{td ty tv:TE}
theorem FP(hu:X.A.units+1<cLine)(ho:PE X o td)(hi:PE X i ty)(hs:FJ i):PE X (.Subscript o i pos) (Rt td ty):=by
 intro pins s σ H Q I h;refine Rq PySem.F.slot_dict_getitem.lookup hs (thn (ho pins s σ H _ I h) λu s1 ⟨x,H1,I1,rx,q1⟩=>thn (hi pins s1 σ H1 _ I1 q1) λiv s2 ⟨y,H2,I2,ry,a,v,ex,g,q2⟩=>?_);subst ex;obtain rfl:u=Value.ref a:=rx;exact⟨Rr I2 g,Rj hu I2 g ry λw' s3 I3 rw'=>⟨v,H2,I3,rw',q2⟩⟩
theorem Rw(hu:X.A.units+1<cLine)(hi:PE X i ty)(ho:PE X o td):PC X .In i o (Ru ty td):=by
 intro pins s σ H Q I h
 refine thn (hi pins s σ H _ I h) λiv s1 ⟨y,H1,I1,ry,q1⟩=>thn (ho pins s1 σ H1 _ I1 q1) λu s2 ⟨x,H2,I2,rx,a,ov,ex,g,q2⟩=>?_
 subst ex;obtain rfl:u=Value.ref a:=rx
 exact Rk hu I2 g ry λs3 I3=>⟨.bl ov.isSome,H2,I3,rfl,q2⟩
theorem Rx(hu:X.A.units+1<cLine)(hi:PE X i ty)(ho:PE X o td):PC X .NotIn i o (FN ty td):=by
 intro pins s σ H Q I h
 refine thn (hi pins s σ H _ I h) λiv s1 ⟨y,H1,I1,ry,q1⟩=>thn (ho pins s1 σ H1 _ I1 q1) λu s2 ⟨x,H2,I2,rx,a,ov,ex,g,q2⟩=>?_
 subst ex;obtain rfl:u=Value.ref a:=rx
 exact Rm hu I2 g ry λs3 I3=>⟨.bl (!ov.isSome),H2,I3,rfl,q2⟩
theorem Ry(hu:X.A.units+1<cLine)(ho:PE X o td)(hi:PE X i ty)(hv:PE X value tv)(hs:swapsWith value (some (.Subscript o i pos')) pos.line X.env=pure false):
  PS X (.Assign [.Subscript o i pos'] value pos) (Rv td ty tv):=by
 intro pins s σ H D I h;refine wpAny_Assign_Subscript (thn (hv pins s σ H _ I h) λr s1 ⟨v,H1,I1,rv,q1⟩=>thn (ho pins s1 σ H1 _ I1 q1) λu s2 ⟨x,H2,I2,rx,q2⟩=>thn (hi pins s2 σ H2 _ I2 q2) λiv s3 ⟨y,H3,I3,ry,a,H4,ex,g,q3⟩=>?_) hs;subst ex;obtain rfl:u=Value.ref a:=rx
 exact Ro hu I3 g ry rv λs4 I4=>⟨σ,H4,I4,q3⟩
end
theorem Rz{P:Program}{w:World}{H:Hp}(h:Heap)(hb:sysModules<h.objs.size):bU P w H (h.push {cls:=.type "dict",data:=.dict #[]}) h.objs.size (.dT []):=
 ⟨Nat.zero_le _,beq_eq_false_iff_ne.mpr (Ne.symm (zC hb)),[],.nil,_,#[],0,zB _ rfl,⟨rfl,rfl,rfl⟩,rfl,rfl,List.nodup_nil⟩
def RB:TE:=λ_ H Q=>∀p,H p=none->Q (.ref p) (upd H p (.dT []))
section
variable {X:Cx}{pos:Pos}
theorem RC:PE X (.Dict [] [] pos) RB:=λpins s σ H Q I h =>
 wpAny_Dict_empty ⟨.ref s.heap.objs.size,_,I.laid (a:=s.heap.objs.size) (o:=.dT []) (t':=s.toks) (λ_ _ q=>zn _ q) (zd _) (Rz s.heap I.big),rfl,h _ (I.hok.fresh (zd _))⟩
end
def xq:List (TE×TE)->St->Hp->(List (V×V)->Hp->Prop)->Prop
 | [],_,H,Q=>Q [] H
 | (tk,tv)::r,σ,H,Q=>tk σ H λx H1=>tv σ H1 λy H2=>xq r σ H2 λps H3=>Q ((x,y)::ps) H3
abbrev VV:List (V×V)->List (Value×Value)->Prop:=Paired λp q=>RelV p.1 q.1/\RelV p.2 q.2
def PPs(X:Cx)(pos:Pos)(keys:List (Option Expr))(values:List Expr)(trs:List (TE×TE)):Prop :=
 ∀(pins:List (Addr×Obj)) (s:Shared) (σ:St) (H:Hp) (Q:List (V×V)->Hp->Prop),Inv X pins σ H s->xq trs σ H Q ->
  wpAny (model X.prog X.w) X.A (evalPairs (pairTrees keys values X.env pos)) (λvs s'=>∃ps H',Inv X pins σ H' s'/\VV ps vs/\Q ps H') X.xe s
structure M1(X:Cx)(o:Expr)(m:Str)(apos:Pos)(e:Expr)(cpos:Pos):Prop where
 base:attributeBase o m X.env (eval o X.env)=eval o X.env
 few:((backTo cpos (starEach [e] X.env)).all (λx=>!x.1)&&(backToKw cpos (keywordEach [] X.env)).all (λx=>x.1.isSome)
  && decide (([e]:List Expr).length+([]:List Keyword).length+(if([]:List Keyword).isEmpty then 0 else 1)<30))=true
 line:(apos.endLine == cpos.line)=true
 trees:backTo cpos (starEach [e] X.env)=[(false,eval e X.env)]
structure M2(X:Cx)(o:Expr)(m:Str)(apos:Pos)(e f:Expr)(cpos:Pos):Prop where
 base:attributeBase o m X.env (eval o X.env)=eval o X.env
 few:((backTo cpos (starEach [e,f] X.env)).all (λx=>!x.1)&&(backToKw cpos (keywordEach [] X.env)).all (λx=>x.1.isSome)
  && decide (([e,f]:List Expr).length+([]:List Keyword).length+(if([]:List Keyword).isEmpty then 0 else 1)<30))=true
 line:(apos.endLine == cpos.line)=true
 trees:backTo cpos (starEach [e,f] X.env)=[(false,eval e X.env),(false,eval f X.env)]
def IsD(H:Hp)(a:Addr):Prop:=(∃kvs,Rd H a (.dK kvs))\/∃kvs,Rd H a (.dT kvs)
theorem FQ{X:Cx}{pins:List (Addr×Obj)}{σ:St}{H:Hp}{s:Shared}{a:Addr}(I:Inv X pins σ H s)(d:IsD H a):
  s.TypeIs (.ref a) "dict"/\(∀b,Value.ref a=.ref b->∃ob,s.heap.get? b=some ob/\ob.dict=none)/\(a == sysModules)=false:=by
 rcases d with⟨kvs,e⟩ | ⟨kvs,e⟩
 ·obtain⟨_,hd,vs,_,dd⟩:=mV I.hok e;refine⟨dd.typeIs,λb q=>?_,hd⟩;cases q;obtain⟨ob,_,_,h1,h2,_⟩:=dd;exact⟨ob,h1,h2.2.1⟩
 ·obtain⟨_,hd,xs,_,dd⟩:=jT I.hok e;refine⟨dd.typeIs,λb q=>?_,hd⟩;cases q;obtain⟨ob,_,_,h1,h2,_⟩:=dd;exact⟨ob,h1,h2.2.1⟩
section
variable {X:Cx}{pins:List (Addr×Obj)}{σ:St}{H:Hp}{s:Shared}{a:Addr}{y d:V}{u r:Value}{o:Option V}{A:Around}{E:Value->Shared->Prop}
theorem RD{Q:Value->Shared->Prop}(hu:A.units+1<cLine)(I:Inv X pins σ H s)(g:eX H a y o)(ry:RelV y u)(rd:RelV d r)(h:∀w' s',Inv X pins σ H s'->RelV (o.getD d) w'->Q w' s'):
  wpAny (model X.prog X.w) A (call (.builtin "dict.get") [.ref a,u,r]) Q E s:=by
 rcases g with⟨kvs,k,e,ey,l⟩ | ⟨kvs,k,b,e,ey,eb,l⟩
 ·subst ey;obtain⟨z,hd,vs,rel,dd⟩:=mV I.hok e;refine call_meetsIn PySem.F.slot_dict_get dd.typeIs PySem.F.entry_dict_get (PySem.F.args_dict_get_3 _ _ _) (meets_dict_get_default (cR X.prog X.w) a (oJ ry) hd r) ⟨_,dd.mapOf,h _ _ (I.tok _) ?_⟩;rw[l];exact(rel.val k).getD rd
 ·subst ey;cases(show u=Value.ref b from ry);obtain⟨z,hd,xs,rel,dd⟩:=jT I.hok e;refine call_meetsIn PySem.F.slot_dict_get dd.typeIs PySem.F.entry_dict_get (PySem.F.args_dict_get_3 _ _ _) (meetsH_dict_get_default (tupleKind (cR X.prog X.w)) a b hd r) ⟨tupleKind_room_in1 hu,k,xs,mW I.hok eb,dd,h _ _ (I.tok _) ?_⟩;rw[l];exact(rel.val k).getD rd
end
def RG(td ty tx:TE):TE:=λσ H Q=>td σ H λx H1=>∃a,x=.ref a/\IsD H1 a/\ty σ H1 λy H2=>tx σ H2 λz H3=>∃o,eX H3 a y o/\Q (o.getD z) H3
section
variable {X:Cx}{o e f:Expr}{apos cpos:Pos}{td ty tx:TE}
theorem RJ(hu:X.A.units+1<cLine)(ho:PE X o td)(he:PE X e ty)(hf:PE X f tx)(m:M2 X o "get" apos e f cpos):PE X (.Call (.Attribute o "get" apos) [e,f] [] cpos) (RG td ty tx):=by
 intro pins s σ H Q I h;refine wpAny_Call_method m.base m.few m.line PySem.F.plainAttrs_dict PySem.F.slot_dict_get PySem.F.type_dict_get (thn (ho pins s σ H _ I h) λu s1 ⟨x,H1,I1,rx,a,ex,d,q1⟩=>?_);subst ex;obtain rfl:u=Value.ref a:=rx;obtain⟨t1,t2,_⟩:=FQ I1 d;refine⟨t1,t2,?_⟩;rw[m.trees]
 refine Calls.callWith_builtin rfl (Calls.evalArgs_plain (Calls.spliced_cons (thn (he pins s1 σ H1 _ I1 q1) λiv s2 ⟨y,H2,I2,ry,q2⟩ =>
  Calls.spliced_cons (thn (hf pins s2 σ H2 _ I2 q2) λfv s3 ⟨z,H3,I3,rz,ov,g,q3⟩=>Calls.spliced_nil ?_))))
 exact RD hu I3 g ry rz λw' s4 I4 rw'=>⟨_,H3,I4,rw',q3⟩
end
section
variable {X:Cx}{pins:List (Addr×Obj)}{σ:St}{H:Hp}{s:Shared}{a:Addr}{kvs:List (Key×V)}{A:Around}{E:Value->Shared->Prop}
end
section
variable {X:Cx}{pins:List (Addr×Obj)}{σ:St}{H:Hp}{s:Shared}{a:Addr}{y:V}{u:Value}{A:Around}{E:Value->Shared->Prop}
end
section
variable {X:Cx}
end
section
variable {κ:Type}[DecidableEq κ]
theorem FT:∀{l:List κ}{k:κ},l.Nodup->¬k∈l->(l++[k]).Nodup
 | [],k,_,_=>by simp
 |a::r,k,h,hk=>by
  obtain⟨h1,h2⟩:=List.nodup_cons.mp h;show(a::(r++[k])).Nodup;refine List.nodup_cons.mpr ⟨λm=>?_,FT h2 λm=>hk (zF.mpr (Or.inr m))⟩
  rcases zA.mp m with q | q
  ·exact h1 q
  ·exact hk (zF.mpr (Or.inl (zz.mp q).symm))
end
def jU(cells:List (Str×Addr)):List (Str×NameKind)->List (Str×Addr)->List (Str×Addr)
 | [],acc=>acc
 | (n,k)::r,acc=>if k == .free then jU cells r ((n,(cells.lookup n).getD 0)::acc) else jU cells r acc
def lD(scope:Scope)(env:Env):List (Str×Addr):=jU env.cells scope.names []
theorem FW{scope:Scope}{env:Env}(hf:∀y∈scope.names,y.2=.free->∃c,env.cells.lookup y.1=some c):closureFor scope env=pure (lD scope env):=by
 simp only[closureFor,lD]
 generalize ([]:List (Str×Addr))=acc
 generalize scope.names=names at hf
 induction names generalizing acc with
 |nil=>rfl
 |cons y r ih =>
  obtain⟨n,k⟩:=y
  have hr:=λa=>ih a λz hz=>hf z (zD _ hz)
  by_cases hk:k=.free
  ·obtain⟨c,hc⟩:=hf (n,k) zr hk;have hc':env.cells.lookup n=some c:=hc;subst hk;simp only[List.forIn_cons,beq_self_eq_true,if_true,cellOf,hc',pure_bind,bind_assoc,jU,Option.getD_some];exact hr _
  ·have hb:(k == NameKind.free)=false:=by simpa using hk
   simp only[List.forIn_cons,hb,Bool.false_eq_true,if_false,pure_bind,bind_assoc,jU];exact hr _
theorem xr{cells:List (Str×Addr)}{x:Str}{c:Addr}:∀{names:List (Str×NameKind)}{acc:List (Str×Addr)},(jU cells names acc).lookup x=some c->acc.lookup x=some c\/(∃k,(x,k)∈names/\k=.free/\(cells.lookup x).getD 0=c)
 | [],acc,h=>.inl h
 | (n,k)::r,acc,h=>by
  unfold jU at h
  by_cases hk:k=.free
  ·subst hk;simp only[beq_self_eq_true,if_true] at h
   rcases xr h with z | ⟨k,hm,q⟩
   ·rw[List.lookup_cons] at z
    by_cases hx:x=n
    ·subst hx;simp at z;exact .inr ⟨.free,zr,rfl,z⟩
    ·have hb:(x == n)=false:=by simpa using hx
     rw[hb] at z;exact .inl z
   ·exact .inr ⟨k,zD _ hm,q⟩
  ·have hb:(k == NameKind.free)=false:=by simpa using hk
   simp only[hb,Bool.false_eq_true,if_false] at h
   rcases xr h with z | ⟨k,hm,q⟩
   ·exact .inl z
   ·exact .inr ⟨k,zD _ hm,q⟩
theorem tW{cells:List (Str×Addr)}{x:Str}:∀{names:List (Str×NameKind)}{acc:List (Str×Addr)},((∃c,acc.lookup x=some c)\/(x,NameKind.free)∈names)->∃c,(jU cells names acc).lookup x=some c
 | [],acc,h=>by
  rcases h with h | h
  ·exact h
  ·cases h
 | (n,k)::r,acc,h=>by
  unfold jU
  by_cases hk:k=.free
  ·subst hk;simp only[beq_self_eq_true,if_true];refine tW ?_
   by_cases hx:x=n
   ·subst hx;exact .inl ⟨(cells.lookup x).getD 0,by simp[List.lookup_cons]⟩
   ·have hb:(x == n)=false:=by simpa using hx
    rcases h with⟨c,h⟩ | h
    ·exact .inl ⟨c,by rw[List.lookup_cons,hb];exact h⟩
    ·rcases zF.mp h with e | h
     ·cases e;exact absurd rfl hx
     ·exact .inr h
  ·have hb:(k == NameKind.free)=false:=by simpa using hk
   simp only[hb,Bool.false_eq_true,if_false];refine tW ?_
   rcases h with h | h
   ·exact .inl h
   ·rcases zF.mp h with e | h
    ·cases e;exact absurd rfl hk
    ·exact .inr h
def jC(scope sc0:Scope):List (Str×NameKind):=
 scope.names.map λ(n,k)=>if(k == .free&&sc0.kind == .function&&sc0.names.lookup n == some .cell) then(n,.cell) else(n,k)
theorem FZ{scope sc0:Scope}(hc:∀y∈scope.names,y.2≠.cell){x:Str}{k:NameKind}(h:(jC scope sc0).lookup x=some k)(hk:k=.cell\/k=.free):(x,NameKind.free)∈scope.names:=by
 have hm:=PySem.mem_of_lookup h;unfold jC at hm;obtain⟨⟨n,k0⟩,h1,h2⟩:=zX.mp hm;dsimp only at h2
 by_cases hb:(k0 == NameKind.free&&sc0.kind == .function&&sc0.names.lookup n == some .cell)=true
 ·rw[if_pos hb] at h2
  have e:k0=.free:=by
   simp only[zw,beq_iff_eq] at hb;exact hb.1.1
  cases h2;rw[<-e];exact h1
 ·rw[if_neg hb] at h2;cases h2
  rcases hk with e | e
  ·exact absurd e (hc _ h1)
  ·rw[<-e];exact h1
def bL(N0 own:List Str)(cap:List Nat):List Str:=own++cap.map λj=>N0.getD j (Str.ofString "")
def compSt(own:List Str)(cap:List Nat)(σ:St):St:=own.map (λ_=>none)++cap.map λj=>(σ[j]?).join
def oK(sc0:Scope)(N0:List Str)(scope:Scope)(own:List Str)(cap:List Nat):Bool :=
 (scope.kind == .function)&&scope.names.all (λy=>y.2 != .cell)&&scope.names.all (λy=>y.2 != .local || scope.names.lookup y.1 == some .local) &&
 scope.names.all (λy=>y.2 != .free || sc0.names.lookup y.1 == some .cell || sc0.names.lookup y.1 == some .free) &&
 cap.all λj=>decide (j<N0.length)&&scope.names.contains (N0.getD j (Str.ofString ""),NameKind.free)&&((jC scope sc0).lookup (N0.getD j (Str.ofString "")) == some .cell || (jC scope sc0).lookup (N0.getD j (Str.ofString "")) == some .free)
structure jV(sc0:Scope)(N0:List Str)(scope:Scope)(own:List Str)(cap:List Nat):Prop where
 kind:scope.kind=.function
 nocell:∀y∈scope.names,y.2≠.cell
 names:∀y∈scope.names,y.2=.local->scope.names.lookup y.1=some .local
 free:∀y∈scope.names,y.2=.free->sc0.names.lookup y.1=some .cell\/sc0.names.lookup y.1=some .free
 cap:∀j∈cap,j<N0.length/\(N0.getD j (Str.ofString ""),NameKind.free)∈scope.names/\((jC scope sc0).lookup (N0.getD j (Str.ofString ""))=some .cell\/(jC scope sc0).lookup (N0.getD j (Str.ofString ""))=some .free)
theorem jV.of{sc0:Scope}{N0:List Str}{scope:Scope}{own:List Str}{cap:List Nat}(h:oK sc0 N0 scope own cap=true):jV sc0 N0 scope own cap:=by
 unfold oK at h;simp only[zw,jq,beq_iff_eq,bne_iff_ne,ne_eq,Bool.or_eq_true,decide_eq_true_eq,List.contains_iff_mem] at h;obtain⟨⟨⟨⟨h1,h2⟩,h3⟩,h4⟩,h5⟩:=h;refine⟨h1,h2,λy hy e=>?_,λy hy e=>?_,λj hj=>?_⟩
 ·rcases h3 y hy with z | z
  ·exact absurd e z
  ·exact z
 ·rcases h4 y hy with(z | z) | z
  ·exact absurd e z
  ·exact .inl z
  ·exact .inr z
 ·obtain⟨⟨a,b⟩,c⟩:=h5 j hj;exact⟨a,b,c⟩
def cG(X:Cx)(scope:Scope)(C:Addr)(N':List Str)(s:Shared)(H:Hp)(ex:List Addr):Cx where
 prog:=X.prog
 w:=X.w
 K:=X.K
 mg:=X.mg
 base:=X.base
 A:=X.A
 N:=N'
 s₀:=s
 H₀:=H
 env:=compEnvC scope (lD scope X.env) C X.env
 outer:=X.stack
 stack:=X.stack
 ex:=ex
 fn:=λ_=>false
 calm:=X.calm
 pn:=[]
 xe:=λ_ _=>False
section
variable {X:Cx}
def lE(X:Cx)(ifs:List Expr)(t:TT):Prop :=
 ∀(pins:List (Addr×Obj)) (s:Shared) (σ:St) (H:Hp) (Q:Bool->Hp->Prop),Inv X pins σ H s->t σ H Q ->
  wpAny (model X.prog X.w) X.A (forIn ifs true λc r=>if r=true then do let ok <-isTrue c X.env (eval c X.env);pure (ForInStep.yield ok) else pure (ForInStep.yield r)) (TP X pins σ Q) X.xe s
def RK:TT:=λ_ H Q=>Q true H
theorem RL:lE X [] RK:=λ_ _ _ H _ I h=>wpAny_tests_nil ⟨H,I,h⟩
theorem RM{c:Expr}{t:TT}(h:PT X c t):lE X [c] t:=λpins s σ H Q I q=>wpAny_tests_one (h pins s σ H Q I q)
end
def Ga(J:It)(g:TG)(tt:TT)(te:TE)(Q:List V->Hp->Prop)(σ0:St)(H1:Hp):Prop :=
 ∃W:Nat->Nat->List V->St->Hp->Prop,(∃m,W 0 m [] σ0 H1)/\∀i m ys σ H,W i m ys σ H ->
  (J.stop i H/\Q ys H)\/(J.go i H/\ys.length<sizeLine/\∃N:List V->St->Hp->Prop,(∀ys σ' H',N ys σ' H'->∃m',m'<m/\W (i+1) m' ys σ' H')/\∀x H',J.yld i H x H'->g x σ H' λσ2 H2=>tt σ2 H2 λb H3 =>
   if b=true then te σ2 H3 λy H4=>N (ys++[y]) σ2 H4 else N ys σ2 H3)
def xu(wi:TI)(own:List Str)(cap:List Nat)(g:TG)(tt:TT)(te:TE):TE:=λσ H Q =>
 wi σ H λJ H1=>Ga J g tt te (λys H'=>ys.length<=sizeLine/\∀p,H' p=none->Q (.ref p) (upd H' p (.lst ys))) (compSt own cap σ) H1
section
variable {prog:Program}{w:World}{A:Around}{R:Result->Shared->Prop}{s:Shared}
theorem RN{elt target iter:Expr}{ifs:List Expr}{scope:Scope}{pos:Pos}{it acc:Value}{env:Env}(I:Nat->Shared->Prop)
  (turn:∀n s,I n s->wpAny (model prog w) A (pyNext it) (λr s₁=>match r with
   |none=>R (.ok .next) s₁
   |some v=>wpAny (model prog w) A (letOwnedTupleGo target it v) (λ_ s₁'=>wpAny (model prog w) A (assign target env v) (λ_ s₂ =>
     wpAny (model prog w) A (forIn ifs true λc r=>if r=true then do let ok <-isTrue c env (eval c env);pure (ForInStep.yield ok) else pure (ForInStep.yield r)) (λok s₃ =>
      if ok=true then wpAny (model prog w) A (eval elt env) (λx s₄ =>
       wpAny (model prog w) A (call (.builtin "list.append") [acc,x]) (λ_ s₅=>∃m,m<n/\I m s₅) (λ_ _=>False) s₄) (λ_ _=>False) s₃
      else ∃m,m<n/\I m s₃) (λ_ _=>False) s₂) (λ_ _=>False) s₁') (λ_ _=>False) s₁) (λ_ _=>False) s)
  (n:Nat) (h:I n s):
  codeAny (model prog w) A (.compLoop (.ListComp elt [⟨target,iter,ifs,0⟩] scope pos) 0 it acc env) R s:=by
 refine codeAny_loop rfl I (λn s hI=>?_) n h;show wpAny _ A ((compTurn (.ListComp elt [⟨target,iter,ifs,0⟩] scope pos) 0 it acc env).onRaise (λx=>do noteFrame x env;theTreesLotGoes x)) _ _ s;refine wpAny_noted ?_;rw[compTurn_list];refine za (wpAny_standAt (za (zT (turn n s hI) (λr s₁ h₁=>?_) λ_ _ h'=>h'.elim)))
 cases r with
 |none=>exact zc h₁
 |some v =>
  refine za (zT h₁ (λ_ s₁' h₁'=>?_) λ_ _ h'=>h'.elim);refine za (zT h₁' (λ_ s₂ h₂=>za (zT h₂ (λok s₃ h₃=>?_) λ_ _ h'=>h'.elim)) λ_ _ h'=>h'.elim)
  cases ok with
  |false=>exact zc ⟨rfl,h₃⟩
  |true =>
   exact za (za (zT h₃ (λx s₄ h₄=>za (zT h₄ (λ_ s₅ h₅=>zc (zc ⟨rfl,h₅⟩)) λ_ _ h'=>h'.elim)) λ_ _ h'=>h'.elim))
end
section
variable {X:Cx}{pins:List (Addr×Obj)}{σ:St}{s2:Shared}{H2:Hp}{elt tg iter:Expr}{ifs:List Expr}{scope:Scope}{pos:Pos}{g:TG}{tt:TT}{te:TE}{sc0:Scope}{N0 own:List Str}{cap:List Nat}
 {it:Addr}{fp:List Addr}{tn:Nat->Heap->Prop}{J:It}
theorem xx(I2:Inv X pins σ H2 s2)(hsc:X.env.scope=sc0)(ok:jV sc0 N0 scope own cap):∀y∈scope.names,y.2=.free->∃c,X.env.cells.lookup y.1=some c:=λy hy e=>by
 refine I2.ok.has y.1 ?_;have q:=ok.free y hy e;rw[<-hsc] at q;exact q
theorem lF(I2:Inv X pins σ H2 s2)(hsc:X.env.scope=sc0)(ok:jV sc0 N0 scope own cap){x:Str}{c:Addr}(h:(lD scope X.env).lookup x=some c):X.env.cells.lookup x=some c:=by
 rcases xr h with z | ⟨k,hm,hk,q⟩
 ·simp at z
 ·obtain⟨c',e⟩:=xx I2 hsc ok (x,k) hm hk;have e':X.env.cells.lookup x=some c':=e;rw[e'] at q;rw[e',<-q];rfl
theorem RP(I2:Inv X pins σ H2 s2)(hsc:X.env.scope=sc0)(ok:jV sc0 N0 scope own cap)(T:Turn X.prog X.w X.K tg J fp it tn)(st2:tn 0 s2.heap)(f2:∀b∈fp,f9 X pins H2 b)
  (C:Addr) (hC:s2.heap.objs.size<=C):(cG X scope C (bL N0 own cap) s2 H2 fp).Ok:=by
 have lt:∀b∈fp,b<s2.heap.objs.size:=λb hb=>by
  obtain⟨o,e,_⟩:=T.obj 0 _ st2 b hb;exact zo e
 have rel:(relabel scope X.env).names=jC scope sc0:=by rw[<-hsc];rfl
 refine⟨I2.ok.mod,ok.kind,I2.ok.glob,I2.ok.blt,hC,λx y c h1 h2=>?_,λx hx=>?_,λx c hf _=>absurd hf (by simp[cG]),I2.ok.hd,I2.ok.frames,.inl rfl,λb hb=>⟨?_,λx c h=>?_⟩,I2.bs,zH I2.ok.bsz I2.sz,
  λb o e hb=>?_,λb hb hz=>?_,I2.stack,I2.stkFree⟩
 ·exact I2.ok.inj x y c (lF I2 hsc ok h1) (lF I2 hsc ok h2)
 ·have hx':(jC scope sc0).lookup x=some .cell\/(jC scope sc0).lookup x=some .free:=by rw[<-rel];exact hx
  have hm:(x,NameKind.free)∈scope.names:=by
   rcases hx' with q | q
   ·exact FZ ok.nocell q (.inl rfl)
   ·exact FZ ok.nocell q (.inr rfl)
  exact tW (.inr hm)
 ·exact zC (zL (lt b hb) hC)
 ·exact(f2 b hb).2.2.2.2.1 x c (lF I2 hsc ok h)
 ·rcases(f2 b hb).2.2.2.1 with z | z
  ·exact I2.ok.noex b o e z
  ·exact absurd (zL (zo e) (zH I2.ok.bsz z)) (jd _)
 ·rcases zF.mp (I2.stkSub b hz) with z | z
  ·exact(f2 b hb).2.1 z
  ·exact(f2 b hb).2.2.1 z
theorem RQ(I2:Inv X pins σ H2 s2)(hsc:X.env.scope=sc0)(hN0:X.N=N0)(ok:jV sc0 N0 scope own cap)(T:Turn X.prog X.w X.K tg J fp it tn)(st2:tn 0 s2.heap)(f2:∀b∈fp,f9 X pins H2 b)
  (C:Addr) (hC:s2.heap.objs.size<=C) {h₁:Heap}{tk:Nat}{m:Str->Option Value} (old:∀b o,s2.heap.get? b=some o->h₁.get? b=some o) (hns:h₁.Ns C m):
  Inv (cG X scope C (bL N0 own cap) s2 H2 fp) [] (compSt own cap σ) H2 {s2 with heap:=h₁,toks:=tk}:=by
 have rel:(relabel scope X.env).names=jC scope sc0:=by rw[<-hsc];rfl
 refine⟨RP I2 hsc ok T st2 f2 C hC,rfl,I2.bare,Un.kept old,⟨m,hns,λi x v e1 e2 _=>?_⟩,λx c h=>?_,I2.hok.fresh hC,λx c h=>?_,λp hp=>absurd (show p∈([]:List (Addr×Obj)) from hp) (by simp),I2.hok.kept old,?_⟩
 ·have e1':(bL N0 own cap)[i]?=some x:=e1;unfold bL at e1';unfold compSt at e2
  by_cases hi:i<own.length
  ·rw[zK (by simpa using hi),zy] at e2
   cases q:own[i]? with
   |none=>rw[q] at e2;cases e2
   |some z=>rw[q] at e2;cases e2
  ·rw[zJ (by simpa using hi),zy] at e2;rw[zJ (by simpa using hi),zy] at e1';rw[zj] at e2
   cases q:cap[i - own.length]? with
   |none=>rw[q] at e2;cases e2
   |some j =>
    rw[q] at e1' e2;have ex:N0.getD j (Str.ofString "")=x:=zE e1';have ev:(σ[j]?).join=some v:=zE e2;obtain⟨hj,hm,hk⟩:=ok.cap j (zO q);rw[ex] at hm hk
    have eN:X.N[j]?=some x:=by
     rw[hN0,zu hj];rw[zY,zu hj] at ex;exact congrArg some ex
    have eσ:σ[j]?=some (some v):=by
     cases z:σ[j]? with
     |none=>rw[z] at ev;cases ev
     |some o=>rw[z] at ev;cases o with
      |none=>cases ev
      |some y=>exact congrArg some ev
    have kf:X.env.kindOf x=some .cell\/X.env.kindOf x=some .free:=by
     have z:=ok.free _ hm rfl;rw[<-hsc] at z;exact z
    obtain⟨m0,hn0,hl⟩:=I2.loc;obtain⟨u,r,l⟩:=hl j x v eN eσ (kf.elim (λz=>.inr (.inl z)) λz=>.inr (.inr z));refine⟨u,r,.inr ⟨?_,?_⟩⟩
    ·show(relabel scope X.env).names.lookup x=_\/(relabel scope X.env).names.lookup x=_;rw[rel];exact hk
    ·rcases l with⟨l,_⟩ | ⟨_,c,hc,⟨o,ho,hd⟩⟩
     ·rcases kf with z | z<;>(rw[z] at l;cases l)
     ·obtain⟨c',hc'⟩:=tW (cells:=X.env.cells) (names:=scope.names) (acc:=[]) (.inr hm);have z:=lF I2 hsc ok hc';rw[hc] at z;cases z;exact⟨c,hc',o,old _ _ ho,hd⟩
 ·obtain⟨v,o,ho,hd⟩:=I2.cell x c (lF I2 hsc ok h);exact⟨v,o,old _ _ ho,hd⟩
 ·exact I2.freeC x c (lF I2 hsc ok h)
 ·show(compSt own cap σ).length=(bL N0 own cap).length;unfold compSt bL;simp
theorem Gb{Q:List V->Hp->Prop}{RR:Value->Addr->Result->Shared->Prop}{E:Value->Shared->Prop}(hc:X.calm=true)(I2:Inv X pins σ H2 s2)(hsc:X.env.scope=sc0)(hN0:X.N=N0)(ok:jV sc0 N0 scope own cap)
  (hg:∀C s H ex,PG (cG X scope C (bL N0 own cap) s H ex) tg g) (ht:∀C s H ex,lE (cG X scope C (bL N0 own cap) s H ex) ifs tt) (he:∀C s H ex,PE (cG X scope C (bL N0 own cap) s H ex) elt te)
  (T:Turn X.prog X.w X.K tg J fp it tn) (st2:tn 0 s2.heap) (f2:∀b∈fp,f9 X pins H2 b) (hW:Ga J g tt te Q (compSt own cap σ) H2)
  (hRR:∀D C oC ys H' s',Inv X (pins++[(C,oC)]) σ (upd H' D (.lst ys)) s'->(∀h:Heap,h.get? C=some oC->∃m,h.Ns C m)->f9 X pins (upd H' D (.lst ys)) C->H' D=none->Q ys H'->RR (.ref D) C (.ok .next) s')
  (hQsz:∀ys H',Q ys H'->ys.length<=sizeLine):
  wpAny (model X.prog X.w) X.A (newList []) (λacc s₃=>wpAny (model X.prog X.w) X.A (newFunctionEnv scope X.env.globals (lD scope X.env) [] X.env.qual none .none (some X.env)) (λcenv s₄ =>
   codeAny (model X.prog X.w) X.A (.compStart (.ListComp elt [⟨tg,iter,ifs,0⟩] scope pos) 0 (.ref it) acc {cenv with scope:=relabel scope X.env}) (RR acc cenv.locals) s₄) E s₃) E s2:=by
 refine wpAny_newObj_type (wpAny_newFunctionEnv ok.nocell (by intro y hy;simp at hy) (λh₁ hns₁ hsb₁=>?_) ok.kind);dsimp only at hns₁ hsb₁ ⊢
 generalize hP2:s2.heap.push {cls:=.type "list",dict:=none,data:=.seq ([]:List Value).toArray}=P2 at hns₁ hsb₁ ⊢
 have hC:P2.objs.size=s2.heap.objs.size+1:=by rw[<-hP2,Heap.size_push]
 have hDC:s2.heap.objs.size≠P2.objs.size:=by rw[hC];exact zC (jr _)
 have hCle:s2.heap.objs.size<=P2.objs.size:=by rw[hC];exact Nat.le_succ _
 have below:∀b,b<s2.heap.objs.size->b≠P2.objs.size/\b≠s2.heap.objs.size:=λb hb=>⟨by rw[hC];exact zC (jt hb),zC hb⟩
 have ltf:∀b∈fp,b<s2.heap.objs.size:=λb hb=>by
  obtain⟨o,e,_⟩:=T.obj 0 _ st2 b hb;exact zo e
 have old:∀b o,s2.heap.get? b=some o->h₁.get? b=some o:=λb o e=>hsb₁.extBut b o (below b (zo e)).1 (zn _ (hP2 ▸ zn _ e))
 have hacc:h₁.PlainList s2.heap.objs.size #[]:=⟨_,hsb₁.extBut _ _ hDC (zn _ (hP2 ▸ zB _ rfl))⟩
 have st₁:tn 0 h₁:=T.keep _ _ _ st2 λb _ o e=>old b o e
 have hDno:∀b∈fp,s2.heap.objs.size≠b:=λb hb=>(below b (ltf b hb)).2.symm
 generalize hXe:cG X scope P2.objs.size (bL N0 own cap) s2 H2 fp=X'
 have loop:∀s₃:Shared,s₃ = {s2 with heap:=h₁,toks:=s2.toks+([]:List (Str×Value)).length} ->
   codeAny (model X.prog X.w) X.A (.compLoop (.ListComp elt [⟨tg,iter,ifs,0⟩] scope pos) 0 (.ref it) (.ref s2.heap.objs.size) (compEnvC scope (lD scope X.env) P2.objs.size X.env))
    (RR (.ref s2.heap.objs.size) P2.objs.size) s₃:=by
  rintro s₃ rfl;obtain⟨W,⟨m0,w0⟩,turn⟩:=hW;subst hXe
  have stat:∀{H':Hp}{oD:Obj},(∀b∈fp,H' b=none)->∀b∈fp,f9 (cG X scope P2.objs.size (bL N0 own cap) s2 H2 fp) [(s2.heap.objs.size,oD)] H' b:=λ{H' oD} hn b hb =>
   ⟨hn b hb,(below b (ltf b hb)).1,λz=>by
    rcases zF.mp (I2.stkSub b z) with z | z
    ·exact(f2 b hb).2.1 z
    ·exact(f2 b hb).2.2.1 z,.inl hb,λx c h=>(f2 b hb).2.2.2.2.1 x c (lF I2 hsc ok h),λp hp=>by
    have e:p=(s2.heap.objs.size,oD):=by simpa [cG] using hp
    rw[e];exact hDno b hb⟩
  have notcell:∀x c,(lD scope X.env).lookup x=some c->c≠s2.heap.objs.size:=λx c h z=>by
   obtain⟨v,o,ho,hd⟩:=I2.cell x c (lF I2 hsc ok h);exact absurd (zo ho) (by rw[z];exact jd _)
  have nofs:s2.heap.objs.size∉frs X.stack:=λz=>by
   rcases zF.mp (I2.stkSub _ z) with z | z
   ·exact absurd I2.lt (by rw[z];exact jd _)
   ·exact I2.nofs (zd _) z
  have pinD:∀{σ':St}{H':Hp}{s':Shared}{its:Array Value}{k:Nat},Inv (cG X scope P2.objs.size (bL N0 own cap) s2 H2 fp) [] σ' H' s'->H' s2.heap.objs.size=none ->
    s'.heap.get? s2.heap.objs.size=some {cls:=.type "list",data:=.seq its k}->Inv (cG X scope P2.objs.size (bL N0 own cap) s2 H2 fp) [(s2.heap.objs.size,{cls:=.type "list",data:=.seq its k})] σ' H' s' :=
   λ{σ' H' s' its k} I hn hd=>I.pins_of λp hp=>by
    have e:p=(s2.heap.objs.size,{cls:=.type "list",data:=.seq its k}):=by simpa using hp
    subst e;exact⟨hd,hn,hDC,nofs,λv z=>by cases z⟩
  obtain⟨k0,hk0⟩:=hacc;refine RN (env:=compEnvC scope (lD scope X.env) P2.objs.size X.env)
   (λn s'=>∃i ys its k σ' H',Inv (cG X scope P2.objs.size (bL N0 own cap) s2 H2 fp) [(s2.heap.objs.size,{cls:=.type "list",data:=.seq its k})] σ' H' s'/\tn i s'.heap/\(∀b∈fp,H' b=none)/\aP ys its.toList/\W i n ys σ' H') ?_ m0
   ⟨0,[],#[],k0,_,H2,pinD (RQ I2 hsc hN0 ok T st2 f2 _ hCle old hns₁) (I2.hok.fresh (zd _)) hk0,st₁,λb hb=>(f2 b hb).1,.nil,w0⟩
  rintro n s3 ⟨i,ys,its,k,σ3,H3,I3,st3,fr3,hv,w3⟩
  rcases turn i n ys σ3 H3 w3 with⟨stop,qn⟩ | ⟨go,hsz,N,hN,step⟩
  ·refine thn (T.done (cG X scope P2.objs.size (bL N0 own cap) s2 H2 fp) rfl rfl rfl hc i _ s3 σ3 H3 _ I3 (stat fr3) st3 stop) λr s4 ⟨hr,I4⟩=>?_
   subst hr;show RR _ _ (.ok .next) s4;obtain⟨hd4,hn4,_⟩:=I4.pin (s2.heap.objs.size,{cls:=.type "list",data:=.seq its k}) (by simp[cG]);dsimp only at hd4 hn4;obtain⟨m4,hns4,_⟩:=id I4.loc;have hns4':s4.heap.Ns P2.objs.size m4:=hns4;obtain⟨oC,es,ep,hoC,rC⟩:=id hns4';have cne:P2.objs.size≠s2.heap.objs.size:=hDC.symm;have freeC:H3 P2.objs.size=none:=I4.free;have hchC:f9 X pins (upd H3 s2.heap.objs.size (.lst ys)) P2.objs.size:=I2.fpOk hCle (by rw[aG cne];exact freeC)
   have hlen:ys.length=its.size:=by have e:=hv.length;simpa using e
   have I5:Inv X pins σ (upd H3 s2.heap.objs.size (.lst ys)) s4:=by
    refine I2.call' (ch:=fp) I4.os ⟨I4.base.keep,I4.base.slot,λb o e n hx=>?_,I4.base.there,λb xs e=>?_,λb o u e=>?_,λb ps e=>?_⟩ (λb u e=>?_) I4.bare λb hb=>?_
    ·rw[aG (zC (zo e))];exact I4.base.free b o e n hx
    ·have q:=I4.base.tups b xs e;rw[aG (bV q hn4)];exact q
    ·have q:=I4.base.frzs b o u e;rw[aG (bV q hn4)];exact q
    ·obtain⟨more,q⟩:=I4.base.tbls b ps e;exact⟨more,by rw[aG (bV q hn4)];exact q⟩
    ·by_cases hb:b=s2.heap.objs.size
     ·subst hb;rw[bF] at e;cases e;exact⟨hQsz ys H3 qn,its.toList,k,hv,by simpa using hd4⟩
     ·rw[aG hb] at e
      exact(I4.hok b u e).stay (λ_ _ _ q=>q) (λc q=>by rw[aG (bV q hn4)];exact q) λc xs q=>by rw[aG (bV q hn4)];exact q
    ·obtain⟨_,a2,_,a4,a5,a6⟩:=f2 b hb;exact⟨a4,a2,a5,a6⟩
   refine hRR s2.heap.objs.size P2.objs.size oC ys H3 s4 (I5.pins_of λp hp=>?_) (λh e=>⟨m4,oC,es,ep,e,rC⟩) hchC hn4 qn
   rcases zA.mp hp with z | z
   ·exact I5.pin p (zU _ z)
   ·have e:p=(P2.objs.size,oC):=by simpa using z
    subst e
    exact⟨hoC,hchC.1,hchC.2.1,hchC.2.2.1,λv z=>by
     have:=rC.1
     rw[this] at z;cases z⟩
  ·refine thn (T.item (cG X scope P2.objs.size (bL N0 own cap) s2 H2 fp) rfl rfl rfl hc i _ s3 σ3 H3 _ I3 (stat fr3) st3 go) λr s4 ⟨u,hr,h4⟩=>?_
   subst hr
   refine thn h4 λ_ s5 ⟨x,H5,I5,r5,y5,st5,fr5⟩=>?_
   have I5':=I5.pinned (stat fr5) (T.obj _ _ st5)
   refine thn (hg _ _ _ _ _ s5 σ3 H5 x u _ I5' r5 (step x H5 y5)) λ_ s6 ⟨σ6,H6,I6,q6⟩=>?_
   refine thn (ht _ _ _ _ _ s6 σ6 H6 _ I6 q6) λb s7 ⟨H7,I7,q7⟩=>?_
   have keepT:∀{σ':St}{H':Hp}{s':Shared},Inv (cG X scope P2.objs.size (bL N0 own cap) s2 H2 fp) ([(s2.heap.objs.size,{cls:=.type "list",data:=.seq its k})]++qC fp s5.heap) σ' H' s'->tn (i+1) s'.heap/\∀b∈fp,H' b=none:=λ{σ' H' s'} I'=>by
    refine⟨T.keep _ _ _ st5 λb hb o e=>(I'.pin (b,o) (zU _ (zU _ (tK hb e)))).1,λb hb=>?_⟩;obtain⟨o,e,d⟩:=T.obj _ _ st5 b hb;exact(I'.pin (b,o) (zU _ (zU _ (tK hb e)))).2.1
   cases b with
   |false =>
    rw[if_neg zq] at q7 ⊢;obtain⟨m',hm,w7⟩:=hN _ _ _ q7;obtain⟨a,b⟩:=keepT I7;exact⟨m',hm,i+1,ys,its,k,σ6,H7,I7.unpinned,a,b,hv,w7⟩
   |true =>
    rw[if_pos rfl] at q7 ⊢
    refine thn (he _ _ _ _ _ s7 σ6 H7 _ I7 q7) λv s8 ⟨y,H8,I8,r8,q8⟩=>?_
    obtain⟨m',hm,w8⟩:=hN _ _ _ q8;obtain⟨a,b⟩:=keepT I8;obtain⟨hd8,hn8,_⟩:=I8.pin (s2.heap.objs.size,{cls:=.type "list",data:=.seq its k}) (by simp[cG]);dsimp only at hd8 hn8
    have hl:its.size<=sizeLine:=by
     have e:=hv.length;simp at e;omega
    refine wpAny_list_append_plain (hsz:=hl) ⟨k,hd8⟩ λh9 hl9 hs9=>?_
    obtain⟨k9,hd9⟩:=hl9
    have I8':Inv (cG X scope P2.objs.size (bL N0 own cap) s2 H2 fp) [] σ6 H8 s8:=I8.pins_of λp hp=>absurd hp (by simp)
    have I9:Inv (cG X scope P2.objs.size (bL N0 own cap) s2 H2 fp) [] σ6 H8 {s8 with heap:=h9}:=
     I8'.turned (t':=s8.toks) (it:=s2.heap.objs.size) (λb o hb e=>hs9.extBut b o hb e) hn8 hDC (.inr (zd _)) notcell (λp hp=>absurd (show p∈([]:List (Addr×Obj)) from hp) (by simp))
    refine⟨m',hm,i+1,ys++[y],its.push v,k9,σ6,H8,pinD I9 hn8 hd9,T.keep _ _ _ a λb hb o e=>hs9.extBut b o (hDno b hb).symm e,b,?_,w8⟩;rw[Array.toList_push];exact hv.append (.cons r8 .nil)
 exact codeAny_compStart_list (loop _ rfl) (T.self _ 0 _ _ _ st₁ (loop _ rfl))
theorem RT{wi:TI}(sc0:Scope)(N0 own:List Str)(cap:List Nat)(hc:X.calm=true)(hi:PI X tg iter wi)
  (hg:∀C s H ex,PG (cG X scope C (bL N0 own cap) s H ex) tg g) (ht:∀C s H ex,lE (cG X scope C (bL N0 own cap) s H ex) ifs tt) (he:∀C s H ex,PE (cG X scope C (bL N0 own cap) s H ex) elt te)
  (hsc:X.env.scope=sc0:=by rfl) (hN0:X.N=N0:=by rfl) (ok:oK sc0 N0 scope own cap=true:=by decide +kernel) (hs:∀x,foldedSetIterable iter X.env x=pure x:=by intro _;rfl):
  PE X (.ListComp elt [⟨tg,iter,ifs,0⟩] scope pos) (xu wi own cap g tt te):=by
 intro pins s σ H Q I h;have ok:=jV.of ok;rw[eval_ListComp];refine wpAny_comprehension_free (use:=none) rfl hs (FW (xx I hsc ok)) ok.kind ok.names (thn (hi pins s σ H _ I h) λxv s1 h1=>thn h1 λitv s2 h2=>?_);obtain⟨it,fp,tn,J,H2,e,I2,T,st2,f2,hW⟩:=h2;subst e
 refine Gb (RR:=λacc C=>compPost (model X.prog X.w) X.A X.xe none (EP X pins σ Q) acc C) hc I2 hsc hN0 ok hg ht he T st2 f2 hW (λD C oC ys H' s' I' hns fpC hD q=>?_) λys H' q=>q.1
 obtain⟨hC,hCn,_⟩:=I'.pin (C,oC) (by simp);obtain⟨m,hm⟩:=hns _ hC;refine⟨m,hm,λh' hs'=>⟨.ref D,upd H' D (.lst ys),?_,rfl,q.2 D hD⟩⟩;obtain⟨f0,f1,f2',f3,f4,f5⟩:=fpC;exact I'.unpinned.turned (t':=s'.toks) (it:=C) (λb o hb e=>hs'.extBut b o hb e) f0 f1 f3 f4 f5
theorem RV{wi:TI}{i:Nat}{x:Str}{pos' spos:Pos}(sc0:Scope)(N0 own:List Str)(cap:List Nat)(hN:X.N.Nodup)(hx:X.N[i]?=some x)(hl:Loc X.env.scope x)(hc:X.calm=true)(hi:PI X tg iter wi)
  (hg:∀C s H ex,PG (cG X scope C (bL N0 own cap) s H ex) tg g) (ht:∀C s H ex,lE (cG X scope C (bL N0 own cap) s H ex) ifs tt) (he:∀C s H ex,PE (cG X scope C (bL N0 own cap) s H ex) elt te)
  (hsw:swapsWith (.ListComp elt [⟨tg,iter,ifs,0⟩] scope pos) (some (.Name x pos')) spos.line X.env=pure true:=by rfl)
  (hf:X.fn x=true\/X.env.scope.names.lookup x=some .local:=by first | exact .inl rfl | exact .inr rfl | assumption)
  (hsc:X.env.scope=sc0:=by rfl) (hN0:X.N=N0:=by rfl) (ok:oK sc0 N0 scope own cap=true:=by decide +kernel) (hs:∀x,foldedSetIterable iter X.env x=pure x:=by intro _;rfl):
  PS X (.Assign [.Name x pos'] (.ListComp elt [⟨tg,iter,ifs,0⟩] scope pos) spos) (tH (xu wi own cap g tt te) (qz i)):=by
 intro pins s σ H D I h;have ok:=jV.of ok;rw[exec_Assign_Name_used _ _ _ _ hsw];refine za (wpAny_standAt (za ?_));show wpAny _ X.A (do let _ <-comprehension (.ListComp elt [⟨tg,iter,ifs,0⟩] scope pos) scope X.env _ (newList []) false (eval iter X.env) (some (assign (.Name x pos') X.env))) _ _ s
 refine za (zT (wpAny_comprehension_free (use:=some (assign (.Name x pos') X.env)) (Q:=λ_ s'=>SP X pins D .next s') rfl hs (FW (xx I hsc ok)) ok.kind ok.names
  (thn (hi pins s σ H _ I h) λxv s1 h1=>thn h1 λitv s2 h2=>?_)) (λ_ s' hq=>zc (zc hq)) λ_ _ e=>e)
 obtain⟨it,fp,tn,J,H2,e,I2,T,st2,f2,hW⟩:=h2;subst e
 refine Gb (RR:=λacc C=>compPost (model X.prog X.w) X.A X.xe (some (assign (.Name x pos') X.env)) (λ_ s'=>SP X pins D .next s') acc C) hc I2 hsc hN0 ok hg ht he T st2 f2 hW (λDa C oC ys H' s' I' hns fpC hD q=>?_) λys H' q=>q.1
 show wpAny _ X.A (assign (.Name x pos') X.env (.ref Da)) _ _ _;refine wpAny_assign_Name (wG (v:=.ref Da) I' hN hx hl rfl (λs'' I''=>?_) hf);obtain⟨hC,hCn,_⟩:=I''.pin (C,oC) (by simp);obtain⟨m,hm⟩:=hns _ hC;refine⟨m,hm,λh' hs'=>⟨σ.set i (some (.ref Da)),upd H' Da (.lst ys),?_,q.2 Da hD⟩⟩;obtain⟨f0,f1,f2',f3,f4,f5⟩:=fpC;exact I''.unpinned.turned (t':=s''.toks) (it:=C) (λb o hb e=>hs'.extBut b o hb e) f0 f1 f3 f4 f5
end
def Can(P:Program)(w:World)(K:PySem.W.Frag)(mg:Str->Option Value)(base:Heap)(x:Str)(ps:List Str)(k:Nat)(sp:Sp):Prop :=
 ∃f fd,mg x=some (.ref f)/\PySem.W.keepIn K (.ref f)=true/\Binds K fd ps []/\cA P w K mg base CX0 k f fd ps sp/\∃oc od osl,K.lookup f=some ⟨oc,od,.func fd,osl⟩
def Def(K:PySem.W.Frag)(mg:Str->Option Value)(x:Str)(st:Stmt):Prop:=∃f fd,mg x=some (.ref f)/\Fun K x x st f fd
section
variable {P:Program}{w:World}{K:PySem.W.Frag}{mg:Str->Option Value}{base:Heap}
theorem Can.mono{x:Str}{ps:List Str}{j k:Nat}{sp:Sp}(c:Can P w K mg base x ps j sp)(h:j<=k):Can P w K mg base x ps k sp :=
 let ⟨f,fd,a,b,d,e,g⟩:=c;⟨f,fd,a,b,d,e.mono h,g⟩
theorem Def.can{x:Str}{st:Stmt}{N ps:List Str}{k:Nat}{sp:Sp}(D:Def K mg x st)(S:bN N ps (aR st))
  (hb:∀(kV doc pm:Value) (an:Option Addr) (cdv ct:Value) (us:List Value),us.length=ps.length->bindArgs (PySem.W.fnOf x x (gb st) (dz st) (aR st) .none kV doc pm an cdv ct) ⟨us,[]⟩=pure (ps.zip us))
  (len:∀vs H Q E,sp vs H Q E->vs.length=ps.length)
  (hbody:∀(f:Addr) (cdv:Value) (A:Around) (outer:List Env) (s:Shared) (H:Hp) (vs:List V) (Q:VK) (E:XK),aX k (A.deeper (envOfC x (aR st) s.heap.objs.size f cdv))->sp vs H Q E ->
   ∃t,PSs (il CX0 P w K mg base N x (aR st) f cdv A outer s H E).nox (dz st) t/\t {nx:=λ_ H'=>Q .non H',rt:=Q} (start N vs) H):Can P w K mg base x ps (k+1) sp:=by
 obtain⟨f,fd,hm,F⟩:=D;obtain⟨oc,od,_,_,_,_,_,_,osl,_,lk,_⟩:=F.ex;exact⟨f,fd,hm,F.kp,F.binds hb,F.ok S len λcdv A outer s H vs Q E hr h=>hbody f cdv A outer s H vs Q E hr h,oc,od,osl,lk⟩
end
section
variable {X:Cx}{k:Nat}{x:Str}{ps:List Str}{sp:Sp}{p pos:Pos}{e:Expr}{es:List Expr}{t:TA}
theorem RW(C:Can X.prog X.w X.K X.mg X.base x ps k sp)(hr:aX k X.A)(ha:PA X (e::es) t)(hg:Gl X x:=by rfl)(hdb:(x == ("__debug__":Str))=false:=by decide)
  (he:starEach (e::es) X.env=(false,eval e X.env)::starEach es X.env:=by rfl) (hpl:(backTo pos (starEach es X.env)).any (·.1)=false:=by rfl):
  PE X (.Call (.Name x p) (e::es) [] pos) (wW sp [] E0 t):=by
 obtain⟨f,fd,hm,hk,hb,F,_⟩:=C;exact Qu F hr hg hm hk hb .nil tU ha hdb he hpl
end
theorem Same.seqT{K:PySem.W.Frag}{H H':Hp}{a:Addr}{xs:List V}(e:Same H H')(h:SqT K H a xs):SqT K H' a xs:=by
 rcases h with(h | ⟨o,h⟩) | h
 ·exact .inl (.inl (e _ _ h))
 ·exact .inl (.inr ⟨o,e _ _ h⟩)
 ·exact .inr h
theorem Same.upd{H:Hp}{a:Addr}{o:HO}(h:H a=none):Same H (upd H a o):=λb u e=>by rw[aG (bV e h)];exact e
mutual
def Rep(K:PySem.W.Frag)(H:Hp):V->PyData->Prop
 |v,.none=>v=.non
 |v,.bool b=>v=.bl b
 |v,.int i=>v=.int i
 |v,.str x=>v=.str x
 |v,.list ds=>∃a xs,v=.ref a/\SqL K H a xs/\aU K H xs ds
 |v,.tuple ds=>∃a xs,v=.ref a/\SqT K H a xs/\aU K H xs ds
 | _,.dict _=>False
def aU(K:PySem.W.Frag)(H:Hp):List V->List PyData->Prop
 |xs,[]=>xs=[]
 |xs,d::ds=>∃x r,xs=x::r/\Rep K H x d/\aU K H r ds
end
mutual
theorem Rep.mono{K:PySem.W.Frag}{H H':Hp}(e:Same H H'):∀(d:PyData) {v:V},Rep K H v d->Rep K H' v d
 | .none,v,h=>by rw[Rep] at h ⊢;exact h
 | .bool b,v,h=>by rw[Rep] at h ⊢;exact h
 | .int i,v,h=>by rw[Rep] at h ⊢;exact h
 | .str x,v,h=>by rw[Rep] at h ⊢;exact h
 | .list ds,v,h=>by
  rw[Rep] at h ⊢;obtain⟨a,xs,h1,h2,h3⟩:=h;exact⟨a,xs,h1,e.seq h2,aU.mono e ds h3⟩
 | .tuple ds,v,h=>by
  rw[Rep] at h ⊢;obtain⟨a,xs,h1,h2,h3⟩:=h;exact⟨a,xs,h1,e.seqT h2,aU.mono e ds h3⟩
 | .dict _,v,h=>by rw[Rep] at h;exact h.elim
theorem aU.mono{K:PySem.W.Frag}{H H':Hp}(e:Same H H'):∀(ds:List PyData) {xs:List V},aU K H xs ds->aU K H' xs ds
 | [],xs,h=>by rw[aU] at h ⊢;exact h
 |d::ds,xs,h=>by
  rw[aU] at h ⊢;obtain⟨x,r,h1,h2,h3⟩:=h;exact⟨x,r,h1,Rep.mono e d h2,aU.mono e ds h3⟩
end
theorem aU.nil{K:PySem.W.Frag}{H:Hp}:aU K H [] []:=by rw[aU]
theorem aU.cons{K:PySem.W.Frag}{H:Hp}{x:V}{xs:List V}{d:PyData}{ds:List PyData}(h:Rep K H x d)(hs:aU K H xs ds):aU K H (x::xs) (d::ds):=by
 rw[aU];exact⟨x,xs,rfl,h,hs⟩
theorem aU.un{K:PySem.W.Frag}{H:Hp}{xs:List V}{d:PyData}{ds:List PyData}(h:aU K H xs (d::ds)):∃x r,xs=x::r/\Rep K H x d/\aU K H r ds:=by rw[aU] at h;exact h
theorem aU.un0{K:PySem.W.Frag}{H:Hp}{xs:List V}(h:aU K H xs []):xs=[]:=by rw[aU] at h;exact h
theorem Rep.unL{K:PySem.W.Frag}{H:Hp}{v:V}{ds:List PyData}(h:Rep K H v (.list ds)):∃a xs,v=.ref a/\SqL K H a xs/\aU K H xs ds:=by rw[Rep] at h;exact h
theorem Rep.unT{K:PySem.W.Frag}{H:Hp}{v:V}{ds:List PyData}(h:Rep K H v (.tuple ds)):∃a xs,v=.ref a/\SqT K H a xs/\aU K H xs ds:=by rw[Rep] at h;exact h
theorem Rep.unS{K:PySem.W.Frag}{H:Hp}{v:V}{x:Str}(h:Rep K H v (.str x)):v=.str x:=by rw[Rep] at h;exact h
theorem Rep.unI{K:PySem.W.Frag}{H:Hp}{v:V}{x:Int}(h:Rep K H v (.int x)):v=.int x:=by rw[Rep] at h;exact h
theorem Rep.s{K:PySem.W.Frag}{H:Hp}{x:Str}:Rep K H (.str x) (.str x):=by rw[Rep]
theorem Rep.i{K:PySem.W.Frag}{H:Hp}{x:Int}:Rep K H (.int x) (.int x):=by rw[Rep]
theorem Rep.b{K:PySem.W.Frag}{H:Hp}{x:Bool}:Rep K H (.bl x) (.bool x):=by rw[Rep]
theorem aU.length{K:PySem.W.Frag}{H:Hp}:∀{ds:List PyData}{xs:List V},aU K H xs ds->xs.length=ds.length
 | [],xs,h=>by rw[aU] at h;rw[h];rfl
 |d::ds,xs,h=>by
  rw[aU] at h;obtain⟨x,r,rfl,_,h3⟩:=h;simp[aU.length h3]
theorem aU.get{K:PySem.W.Frag}{H:Hp}:∀{ds:List PyData}{xs:List V}{i:Nat}{x:V},aU K H xs ds->xs[i]?=some x->∃d,ds[i]?=some d/\Rep K H x d
 | [],xs,i,x,h,e=>by rw[aU] at h;rw[h] at e;simp at e
 |d::ds,xs,i,x,h,e=>by
  rw[aU] at h;obtain⟨y,r,rfl,h2,h3⟩:=h
  cases i with
  |zero=>simp at e;subst e;exact⟨d,rfl,h2⟩
  |succ i =>
   obtain⟨d',e',q⟩:=aU.get (i:=i) (x:=x) h3 (by simpa using e);exact⟨d',by simpa using e',q⟩
theorem aU.snoc{K:PySem.W.Frag}{H:Hp}{x:V}{d:PyData}(hx:Rep K H x d):∀{ds:List PyData}{xs:List V},aU K H xs ds->aU K H (xs++[x]) (ds++[d])
 | [],xs,h=>by rw[aU] at h;rw[h];exact aU.cons hx aU.nil
 |e::ds,xs,h=>by
  rw[aU] at h;obtain⟨y,r,rfl,h2,h3⟩:=h;exact aU.cons h2 (aU.snoc hx h3)
theorem aU.append{K:PySem.W.Frag}{H:Hp}{ys:List V}{es:List PyData}(hy:aU K H ys es):∀{ds:List PyData}{xs:List V},aU K H xs ds->aU K H (xs++ys) (ds++es)
 | [],xs,h=>by rw[aU] at h;rw[h];exact hy
 |e::ds,xs,h=>by
  rw[aU] at h;obtain⟨y,r,rfl,h2,h3⟩:=h;exact aU.cons h2 (aU.append hy h3)
theorem aU.take{K:PySem.W.Frag}{H:Hp}:∀{ds:List PyData}{xs:List V} (n:Nat),aU K H xs ds->aU K H (xs.take n) (ds.take n)
 | _,_,0,_=>by simpa using aU.nil
 | [],xs,n+1,h=>by rw[aU] at h;rw[h];simpa using aU.nil
 |d::ds,xs,n+1,h=>by
  rw[aU] at h;obtain⟨y,r,rfl,h2,h3⟩:=h;exact aU.cons h2 (aU.take n h3)
theorem aU.drop{K:PySem.W.Frag}{H:Hp}:∀{ds:List PyData}{xs:List V} (n:Nat),aU K H xs ds->aU K H (xs.drop n) (ds.drop n)
 | _,_,0,h=>by simpa using h
 | [],xs,n+1,h=>by rw[aU] at h;rw[h];simpa using aU.nil
 |d::ds,xs,n+1,h=>by
  rw[aU] at h;obtain⟨y,r,rfl,h2,h3⟩:=h;exact aU.drop n h3
section
variable {X:Cx}{pins:List (Addr×Obj)}{σ:St}{H:Hp}{s:Shared}
mutual
theorem Rep.reads(I:Inv X pins σ H s):∀(d:PyData) {v:V}{u:Value},Rep X.K H v d->RelV v u->∃as,Reads s.heap u d as
 | .none,v,u,h,r=>by rw[Rep] at h;subst h;cases(show u=.none from r);exact⟨_,.none⟩
 | .bool b,v,u,h,r=>by rw[Rep] at h;subst h;cases(show u=.bool b from r);exact⟨_,.bool b⟩
 | .int i,v,u,h,r=>by rw[Rep] at h;subst h;obtain⟨t,rfl⟩:=(show ∃t,u=.int i t from r);exact⟨_,.int i t⟩
 | .str x,v,u,h,r=>by rw[Rep] at h;subst h;obtain⟨t,rfl⟩:=(show ∃t,u=.str x t from r);exact⟨_,.str x t⟩
 | .list ds,v,u,h,r=>by
  rw[Rep] at h;obtain⟨a,xs,rfl,h2,h3⟩:=h;cases(show u=.ref a from r);obtain⟨its,rv,pl,_⟩:=I.list h2;obtain⟨as,q⟩:=aU.reads I ds h3 rv;obtain⟨o,ho,hc,n,hd⟩:=pl.isList;exact⟨_,.list ho hc hd (by simpa using q)⟩
 | .tuple ds,v,u,h,r=>by
  rw[Rep] at h;obtain⟨a,xs,rfl,h2,h3⟩:=h;cases(show u=.ref a from r);obtain⟨its,rv,pl,_⟩:=I.tuple h2;obtain⟨as,q⟩:=aU.reads I ds h3 rv;obtain⟨o,ho,hc,n,hd⟩:=pl;exact⟨_,.tuple ho hc hd (by simpa using q)⟩
 | .dict _,v,u,h,r=>by rw[Rep] at h;exact h.elim
theorem aU.reads(I:Inv X pins σ H s):∀(ds:List PyData) {xs:List V}{us:List Value},aU X.K H xs ds->aP xs us->∃as,ReadsAll s.heap us ds as
 | [],xs,us,h,r=>by rw[aU] at h;subst h;cases r;exact⟨_,.nil⟩
 |d::ds,xs,us,h,r=>by
  rw[aU] at h;obtain⟨x,rest,rfl,h2,h3⟩:=h
  cases r with
  |cons r1 r2 =>
   obtain⟨as,q⟩:=Rep.reads I d h2 r1;obtain⟨bs,q'⟩:=aU.reads I ds h3 r2;exact⟨_,.cons q q'⟩
end
end
def okD(d:PyData):Bool:=d.canLay0&&decide (d.depth<=60)
def Gd(K:PySem.W.Frag)(neg:Bool):R2:=λx y H Q=>∃d e,Rep K H x d/\Rep K H y e/\okD d=true/\okD e=true/\Q (.bl (if neg then !PyData.eqv d e else PyData.eqv d e)) H
section
variable {X:Cx}
theorem RX{k:Nat}(hr:aX k X.A):OpR X (compareOp .Eq) (Gd X.K false):=by
 intro pins s σ H x y v u Q I rx ry h;obtain⟨d,e,h1,h2,k1,k2,q⟩:=h;obtain⟨as,r1⟩:=Rep.reads I d h1 rx;obtain⟨bs,r2⟩:=Rep.reads I e h2 ry;unfold okD at k1 k2;simp only[zw,decide_eq_true_eq] at k1 k2;exact SeqAt.compareEq_reads r1 r2 k1.1 k2.1 (by have:=hr.units;omega) ⟨.bl _,H,I,rfl,q⟩
theorem RZ{k:Nat}(hr:aX k X.A):OpR X (compareOp .NotEq) (Gd X.K true):=by
 intro pins s σ H x y v u Q I rx ry h;obtain⟨d,e,h1,h2,k1,k2,q⟩:=h;obtain⟨as,r1⟩:=Rep.reads I d h1 rx;obtain⟨bs,r2⟩:=Rep.reads I e h2 ry;unfold okD at k1 k2;simp only[zw,decide_eq_true_eq] at k1 k2;exact SeqAt.compareNe_reads r1 r2 k1.1 k2.1 (by have:=hr.units;omega) ⟨.bl _,H,I,rfl,q⟩
end
def S(l:List Nat):Str:=⟨l.toArray⟩
theorem oM(l:List Nat):(S l).cps.toList=l:=by simp[S]
theorem gM(l:List Nat):(S l).length=l.length:=by simp[S,Str.length]
theorem R0(a b:List Nat):S a++S b=S (a++b):=by
 show Str.mk _=Str.mk _;simp[S]
theorem R1{a b:List Nat}(h:S a=S b):a=b:=by have:=congrArg (λx:Str=>x.cps.toList) h;simpa [oM] using this
section
variable {X:Cx}
theorem R3:OpR X (compareOp .LtE) (λx y H Q=>∃i j,x=.str i/\y=.str j/\Q (.bl (!decide (j.cps.toList<i.cps.toList))) H):=by
 intro pins s σ H x y v u Q I rx ry h;obtain⟨i,j,rfl,rfl,q⟩:=h;obtain⟨t,rfl⟩:=rx;obtain⟨t',rfl⟩:=ry;exact P.le_str ⟨.bl _,H,I,rfl,q⟩
def Its(l:List Nat):It:=⟨λi _=>i<l.length,λi H x H'=>H'=H/\∃c,l[i]?=some c/\x=.str (S [c]),λi _=>l.length<=i⟩
theorem R4{P:Program}{w:World}{K:PySem.W.Frag}{tg:Expr}(l:List Nat)(it:Addr)(t:Tok):Turn P w K tg (Its l) [it] it (λi h=>h.IsStrIter it "str_ascii_iterator" (S l) t i) where
 mem:=by simp
 obj:=λi h st b hb=>by
  have e:b=it:=by simpa using hb
  subst e;obtain⟨o,e,c,d⟩:=st;exact⟨o,e,λv z=>by rw[d] at z;cases z⟩
 keep:=λi h h' st k=>let ⟨o,ho,r⟩:=st;⟨o,k it (by simp) o ho,r⟩
 item:=by
  intro X hP hw hK hc i pins s σ H E I hf st hg;subst hP hw hK;obtain⟨f0,f1,f2,f3,f4,f5⟩:=hf it (by simp);have hg':i<l.length:=hg
  refine wpAny_pyNext_ascii_item st (c:=l[i]) (by simp[S,hg']) λh' st' sb=>?_
  have I1:Inv X pins σ H {s with heap:=h',toks:=s.toks+1}:=I.turned (λb o hb e=>(sb.2 b hb).trans e) f0 f1 f3 f4 f5;obtain⟨o,e,c,d⟩:=id st';exact⟨_,rfl,mJ (s:={s with heap:=h',toks:=s.toks+1}) e c d (by decide) ⟨.str (S [l[i]]),H,I1,⟨_,rfl⟩,⟨rfl,l[i],by simp[hg'],rfl⟩,st',λb hb=>(hf b hb).1⟩⟩
 done:=by
  intro X hP hw hK hc i pins s σ H E I hf st hg;subst hP hw hK;obtain⟨f0,f1,f2,f3,f4,f5⟩:=hf it (by simp);have hg':l.length<=i:=hg
  exact wpAny_pyNext_ascii_end (I.ok.hd hc) st (by simp[S,hg']) λh' eb=>⟨rfl,I.turned (t':=s.toks) (λb o hb e=>eb b o hb e) f0 f1 f3 f4 f5⟩
 self:=λ_ _ _ _ _ st h=>wpAny_pyIter_striter_ascii st h
def ascii(l:List Nat):Bool:=l.all (· < 128)
def R5(tl:TE):TI:=λσ H R=>tl σ H λx H1=>∃l,x=.str (S l)/\ascii l=true/\R (Its l) H1
theorem R6{tg e:Expr}{tl:TE}(hl:PE X e tl):PI X tg e (R5 tl):=by
 intro pins s σ H R I h
 refine thn (hl pins s σ H _ I h) λv s1 ⟨x,H1,I1,r1,q1⟩=>?_
 obtain⟨l,e,ha,q⟩:=q1;subst e;obtain⟨t,rfl⟩:=r1;refine wpAny_pyIter_ascii (by simpa [S,ascii] using ha) ?_;refine⟨s1.heap.objs.size,[s1.heap.objs.size],_,_,H1,rfl,I1.kept (t':=s1.toks) λb o e=>zn _ e,R4 l _ t,⟨_,zB _ rfl,rfl,rfl⟩,λb hb=>?_,q⟩
 have e:b=s1.heap.objs.size:=by simpa using hb
 subst e;exact I1.fpOk (zd _) (I1.hok.fresh (zd _))
theorem R7(hc:X.calm=true):jB X (.builtin "all") (λxs H Q=>∃(a:Addr) (bs:List Bool),xs=[.ref a]/\SqL X.K H a (bs.map V.bl)/\Q (.bl (bs.all id)) H):=by
 intro pins s σ H xs us Q I r h;obtain⟨a,bs,rfl,ha,q⟩:=h;obtain⟨u,rfl,ru⟩:=vals1 r;cases ru;obtain⟨its,rv,p,hz⟩:=I.list ha;refine call_all_walk (wpAny_pyIter_list p.isList ?_);have hne:a≠s.heap.objs.size:=zC (zo p.isList.choose_spec.1)
 refine⟨s.heap.objs.size,_,_,its.toArray.size,_,_,λi=>bs.getD i true,rfl,Walks.list (A:=X.A.in1) (I.ok.hd hc) s.heap.objs.size a hne its.toArray,
  ⟨⟨_,zB _ rfl,rfl,rfl⟩,p.isList.at λo e=>zn _ e⟩,λi v s' Q' E' hv hq=>?_,λh' tk hk=>?_⟩
 ·have hb:(bs.map V.bl)[i]?=some (V.bl (bs.getD i true)):=by
   have hi:i<its.length:=by
    have z:=Array.getElem?_eq_some_iff.mp hv;simpa using z.1
   have hl:=rv.length;rw[zj] at hl;rw[zy,zu (by omega),zY,zu (by omega)];rfl
  obtain⟨u,hu,ru⟩:=rv.get hb
  have hv':its[i]?=some v:=by simpa using hv
  rw[hv'] at hu;cases hu;cases(show v=.bool _ from ru);exact wpAny_truthy_bool hq
 ·refine⟨.bl (bs.all id),H,I.kept λb o e=>hk b o (λz=>?_) (zn _ e),?_,q⟩
  ·have z':b=s.heap.objs.size:=by simpa using z
   exact absurd (zo e) (by rw[z'];exact jd _)
  ·have hl:its.length=bs.length:=by have:=rv.length;rw[zj] at this;exact this.symm
   have e:(List.range its.toArray.size).all (λi=>bs.getD i true)=bs.all id:=by
    rw[zG,hl];rw[Bool.eq_iff_iff,jq,jq];constructor
    ·intro h x hx;obtain⟨i,hi,rfl⟩:=List.mem_iff_getElem.mp hx
     have:=h i (List.mem_range.mpr hi)
     rw[zY,zu hi] at this;exact this
    ·intro h i hi;have hi':=List.mem_range.mp hi;rw[zY,zu hi'];exact h _ (jk hi')
   show Value.bool _=Value.bool _;rw[e]
end
structure Blt(mg:Str->Option Value):Prop where
 len_:mg "len" = none
 isinstance_:mg "isinstance" = none
 all_:mg "all" = none
 sum_:mg "sum" = none
 max_:mg "max" = none
 min_:mg "min" = none
 int_:mg "int" = none
 str_:mg "str" = none
 bool_:mg "bool" = none
 list_:mg "list" = none
 tuple_:mg "tuple" = none
 dict_:mg "dict" = none
 range_:mg "range" = none
 enumerate_:mg "enumerate" = none
 zip_:mg "zip" = none
section
variable {X:Cx}
end
def eE{α:Type}(l:List α)(lo hi:Option Int):List α:=(l.drop (HT.sIx l.length 0 lo)).take (HT.sIx l.length l.length hi - HT.sIx l.length 0 lo)
theorem Ge(l:List Nat)(lo hi:Option Int):Txt.slice (S l) lo hi=S (eE l lo hi):=by
 obtain⟨h1,h2,h3⟩:=Fp lo hi l.length
 have e:Builtin.Str.strSliceIndices lo hi 1 (S l).length=(List.range (HT.sIx l.length l.length hi - HT.sIx l.length 0 lo)).map (HT.sIx l.length 0 lo + ·):=by
  rw[gM];show sliceRange (sliceBounds lo hi none l.length).1 (sliceBounds lo hi none l.length).2.1 (sliceBounds lo hi none l.length).2.2=_;rw[h1,h2,h3,sliceRange_one]
 unfold Txt.slice;rw[e,pick_run,oM]
 split
 ·rename_i h
  have hl:HT.sIx l.length l.length hi - HT.sIx l.length 0 lo=l.length:=by simpa [gM] using h
  have hle:HT.sIx l.length l.length hi<=l.length:=HT.sIx_le _ _ (zd _) hi;have hlo:HT.sIx l.length 0 lo<=l.length:=HT.sIx_le _ _ (Nat.zero_le _) lo
  have h0:HT.sIx l.length 0 lo=0:=by omega
  have h1:HT.sIx l.length l.length hi=l.length:=by omega
  unfold eE;rw[h0,h1];simp
 ·rfl
section
variable {X:Cx}
def R8:V->Option Int->Option Int->Hp->VK->Prop:=λx lo hi H Q=>∃l,x=.str (S l)/\l.length<=sizeLine/\Q (.str (S (eE l lo hi))) H
theorem part_of{v:Value}{o:Option Int}(p:IsPart v o):∃q:Option (Int×Tok),v=partValue q/\q.map (·.1)=o:=by
 cases p with
 |none=>exact⟨none,rfl,rfl⟩
 |int i t=>exact⟨some (i,t),rfl,rfl⟩
theorem R9:SlR X R8:=by
 intro pins s σ H x v vl vu lo hi sl Q I rx hs pl pu h;obtain⟨l,rfl,hz,q⟩:=h;obtain⟨t,rfl⟩:=rx;obtain⟨ql,rfl,e1⟩:=part_of pl;obtain⟨qu,rfl,e2⟩:=part_of pu;refine⟨"str",_,F.slot_str_getitem.lookup,typeIs_str _ _ _,?_⟩;refine wpAny_getItem_str_slice (l:=ql) (u:=qu) (st:=none) hs rfl ?_;have key:(if((1:Int) == 1&&(Builtin.Str.strSliceIndices lo hi 1 (S l).length).length == (S l).length)=true then S l else⟨((Builtin.Str.strSliceIndices lo hi 1 (S l).length).filterMap ((S l).cps[·]?)).toArray⟩)=S (eE l lo hi):=Ge l lo hi;unfold sliceMade slicePicked;rw[e1,e2];refine post_val_or_str ⟨?_,λt' k=>?_⟩
 ·show(Txt.slice (S l) lo hi).length<=_;exact zH (Txt.slice_le _ _ _) (by rw[gM];exact hz)
 ·have e3:=Ge l lo hi;unfold Txt.slice at e3;show EP X pins σ Q (.str (if((1:Int) == 1&&(Builtin.Str.strSliceIndices lo hi 1 (S l).length).length == (S l).length)=true then S l else⟨((Builtin.Str.strSliceIndices lo hi 1 (S l).length).filterMap ((S l).cps[·]?)).toArray⟩) t') {s with toks:=k};rw[e3];exact⟨.str _,H,I.tok k,⟨t',rfl⟩,q⟩
end
namespace HT2
theorem getItem_tuple_whole{prog:Program}{w:World}{A:Around}{E:Value->Shared->Prop}{s:Shared}{t sl:Addr}{items:Array Value}{vl vu:Value}{lo hi:Option Int}{Q:Value->Shared->Prop}(ht:IsTup s.heap t items)(hs:s.heap.IsSliceOf sl vl vu .none)(pl:IsPart vl lo)(pu:IsPart vu hi)
  (hw:HT.sIx items.size 0 lo=0/\HT.sIx items.size items.size hi=items.size) (h:Q (.ref t) s):wpAny (model prog w) A (getItem (.ref t) (.ref sl)) Q E s:=by
 obtain⟨os,hos,hcs,hds⟩:=id hs;have hTs:s.TypeIs (.ref sl) "slice":=⟨os,hos,hcs⟩;unfold getItem
 try with_reducible refine zQ ?_
 first | refine za (zc ?_) | skip
 refine za (wpAny_sequenceKey ht.typeIs (by decide) ?_)
 refine za (wpAny_callSpecial?_slot (name:=Str.ofString "__getitem__") ht.typeIs PyProof.Rows.slot_tuple_getitem
  (wpAny_call_entry PyProof.Rows.slot_tuple_getitem ht.typeIs entry_tuple_getitem ?_ (args_tuple_getitem _ _)))
 show wpAny _ _ (Builtin.Tuple.tupleItemsOf (.ref t) >>= _) _ _ s;refine za (tupleItemsOf_ ht ?_);refine za (wpAny_typeOf hTs ?_);rw[if_pos (by decide)];refine za (HT.sliceApplied_gen hs pl pu ?_)
 have hyes:(((HT.sIx items.size 0 lo:Nat):Int) == 0&&(1:Int) == 1&&(HT.sIx items.size items.size hi - HT.sIx items.size 0 lo) == items.size)=true:=by
  rw[hw.1,hw.2];simp
 show wpAny _ _ (if(((HT.sIx items.size 0 lo:Nat):Int) == 0&&(1:Int) == 1&&(HT.sIx items.size items.size hi - HT.sIx items.size 0 lo) == items.size)=true then _ else _) _ _ s;rw[if_pos hyes]
 have hex:∀{A':Around}{E':Value->Shared->Prop}{Q':Bool->Shared->Prop},Q' true s->wpAny (model prog w) A' (Builtin.Tuple.tupleIsExact (.ref t)) Q' E' s:=λ{A' E' Q'} hq=>by
  unfold Builtin.Tuple.tupleIsExact;exact za (wpAny_typeOf ht.typeIs (zc hq))
 refine za (hex ?_);rw[if_pos rfl];exact za (zR (zc ⟨_,rfl,zc h⟩))
end HT2
section
variable {X:Cx}
def Sd(K:PySem.W.Frag):V->Option Int->Option Int->Hp->VK->Prop:=λx lo hi H Q=>∃a xs,x=.ref a/\SqT K H a xs /\
 ((HT.sIx xs.length 0 lo=0/\HT.sIx xs.length xs.length hi=xs.length)->Q (.ref a) H)/\(¬(HT.sIx xs.length 0 lo=0/\HT.sIx xs.length xs.length hi=xs.length)->∀p,H p=none->Q (.ref p) (upd H p (.tup (jR xs lo hi))))
theorem Sg(K:PySem.W.Frag)(hK:X.K=K:=by rfl):SlR X (Sd K):=by
 subst hK;intro pins s σ H x v vl vu lo hi sl Q I rx hs pl pu h;obtain⟨a,xs,rfl,hx,q1,q2⟩:=h
 by_cases hw:HT.sIx xs.length 0 lo=0/\HT.sIx xs.length xs.length hi=xs.length
 ·cases rx;obtain⟨its,r,ht,hz⟩:=I.tuple hx
  have hlen:its.toArray.size=xs.length:=by rw[zG];exact r.length.symm
  exact⟨"tuple",_,PyProof.Rows.slot_tuple_getitem.lookup,ht.typeIs,HT2.getItem_tuple_whole ht hs pl pu (by rw[hlen];exact hw) ⟨.ref a,H,I,rfl,q1 hw⟩⟩
 ·exact QL pins s σ H _ v vl vu lo hi sl Q I rx hs pl pu ⟨a,xs,rfl,hx,hw,q2 hw⟩
inductive TyQ (K:PySem.W.Frag) (H:Hp):V->String->Prop where
 | non:TyQ K H .non "NoneType"
 | bl (x:Bool):TyQ K H (.bl x) "bool"
 | int (i:Int):TyQ K H (.int i) "int"
 | str (x:Str):TyQ K H (.str x) "str"
 | lst {a:Addr}{xs:List V} (e:SqL K H a xs):TyQ K H (.ref a) "list"
 | tup {a:Addr}{xs:List V} (e:SqT K H a xs):TyQ K H (.ref a) "tuple"
 | dK {a:Addr}{kvs:List (Key×V)} (e:H a=some (.dK kvs)):TyQ K H (.ref a) "dict"
def Sh(K:PySem.W.Frag):List V->Hp->VK->Prop:=λxs H Q=>∃x n t b,xs=[x,.ty n]/\TyQ K H x t/\PySem.W.kitOne K (.type t) (.type n)=some b/\Q (.bl b) H
theorem Sq(K:PySem.W.Frag)(hK:X.K=K:=by rfl):jB X (.builtin "isinstance") (Sh K):=by
 subst hK;intro pins s σ H xs us Q I r h;obtain⟨x,n,t,b,rfl,ty,e,q⟩:=h;obtain⟨u,c,rfl,r1,r2⟩:=vals2 r;cases(show c=.type n from r2)
 have fin:∀tk,EP X pins σ Q (.bool b) {s with toks:=tk}:=λtk=>⟨.bl b,H,I.tok tk,rfl,q⟩
 cases ty with
 |non=>exact qF I r1 .non e fin
 |bl y=>exact qF I r1 (.bl y) e fin
 |int i=>exact qF I r1 (.int i) e fin
 |str y=>exact qF I r1 (.str y) e fin
 | @lst a xs ea =>
  cases(show u=Value.ref a from r1);obtain⟨its,_,p,_⟩:=I.list ea;obtain⟨o,ho,hc,_⟩:=p.isList;exact PySem.W.kia_one PySem.W.kitx_list I.kIn ⟨o,ho,hc⟩ e (λz=>nomatch z) fin
 | @tup a xs ea =>
  cases(show u=Value.ref a from r1);obtain⟨its,_,p,_⟩:=I.tuple ea;obtain⟨o,ho,hc,_⟩:=p;exact PySem.W.kia_one PySem.W.kitx_tuple I.kIn ⟨o,ho,hc⟩ e (λz=>nomatch z) fin
 | @dK a kvs ea=>exact qF I r1 (.dK ea) e fin
theorem Gf(K:PySem.W.Frag)(n:String):PySem.W.kitOne K (.type n) (.type n)=some true:=by
 unfold PySem.W.kitOne;rw[if_pos (beq_self_eq_true _)]
end
theorem Gg:∀{ds:List PyData},(∀d∈ds,d.canLay0=true)->PyData.canLayAll0 ds=true
 | [],_=>rfl
 |d::ds,h=>by rw[PyData.canLayAll0,h d zr,Gg λx hx=>h x (zD _ hx)];rfl
theorem Gh{n:Nat}:∀{ds:List PyData},(∀d∈ds,d.depth<=n)->PyData.depthAll ds<=n
 | [],_=>by rw[PyData.depthAll];exact Nat.zero_le _
 |d::ds,h=>by
  rw[PyData.depthAll];exact Nat.max_le.mpr ⟨h d zr,Gh λx hx=>h x (zD _ hx)⟩
theorem Ss{n:Nat}(hn:n<60){ds:List PyData}(h:∀d∈ds,d.canLay0=true/\d.depth<=n):okD (.list ds)=true:=by
 unfold okD;rw[zw];refine⟨?_,zx ?_⟩
 ·show PyData.canLayAll0 ds=true
  exact Gg λd hd=>(h d hd).1
 ·show PyData.depthAll ds+1<=60
  have:=Gh λd hd=>(h d hd).2
  omega
section
variable {X:Cx}
theorem Su:OpR X (compareOp .IsNot) (λx y H Q=>∃a b,x=.bl a/\y=.bl b/\Q (.bl (!(a == b))) H):=by
 intro pins s σ H x y v u Q I rx ry h;obtain⟨a,b,rfl,rfl,q⟩:=h;cases rx;cases ry;exact isnot_bool ⟨.bl (a != b),H,I,rfl,q⟩
def Sw:R2:=λx y H Q=>∃(l:List Nat) (n:Int),x=.str (S l)/\y=.int n/\-1000000<n/\n<1000000/\l.length * n.toNat<=16777216/\Q (.str (S (List.replicate n.toNat l).flatten)) H
theorem Gi(l:List Nat):∀(n:Nat) (a:Array Nat),(List.replicate n (S l).cps).foldl (· ++ ·) a=a++(List.replicate n l).flatten.toArray
 | 0,a=>by simp
 |n+1,a=>by
  rw[List.replicate_succ,List.foldl_cons,Gi l n,List.replicate_succ,List.flatten_cons];simp[S]
theorem Sx:OpR X (binaryOp .Mult) Sw:=by
 intro pins s σ H x y v u Q I rx ry h;obtain⟨l,n,rfl,rfl,h1,h2,h3,q⟩:=h;obtain⟨t,rfl⟩:=rx;obtain⟨t',rfl⟩:=ry;have hs:sizeLine=16777216:=sizeLine_eq
 by_cases hn:n<1
 ·have e0:n.toNat=0:=by omega
  rw[e0] at q;exact P.mul_str_none hn (by omega) ⟨.str (S []),H,I.tok _,⟨s.toks,rfl⟩,q⟩
 refine P.mul_str ?_ (λ_ _=>?_) (λ_ _=>?_) ?_
 ·rw[zp (by omega),zp (by omega)];rfl
 ·rw[gM];intro hz
  have h4:(l.length:Int) * n<=16777216:=by
   have:((l.length * n.toNat:Nat):Int)<=16777216:=by omega
   rw[Int.natCast_mul,Int.toNat_of_nonneg (by omega)] at this;exact this
  have h5:(2 ^ 63 - 1) / n<(l.length:Int):=hz;have h6:=(Int.ediv_lt_iff_lt_mul (show 0<n by omega)).mp h5;omega
 ·rw[gM];unfold Builtin.Str.tooLong;exact zp (by omega)
 ·rw[if_neg (by omega)]
  by_cases hl:(n == 1 || (S l).length == 0)=true
  ·rw[if_pos hl]
   have e:(List.replicate n.toNat l).flatten=l:=by
    rw[Bool.or_eq_true,beq_iff_eq,beq_iff_eq,gM] at hl
    rcases hl with z | z
    ·rw[z];show(List.replicate 1 l).flatten=l;simp
    ·have z':=List.eq_nil_of_length_eq_zero z;subst z';rw[List.flatten_eq_nil_iff];intro x hx;exact(List.mem_replicate.mp hx).2
   rw[e] at q;exact⟨.str (S l),H,I,⟨t,rfl⟩,q⟩
  ·rw[if_neg hl,Gi];refine⟨?_,.str (S (List.replicate n.toNat l).flatten),H,I.tok _,⟨s.toks,?_⟩,q⟩
   ·show(#[]++(List.replicate n.toNat l).flatten.toArray).size<=sizeLine;simp only[Array.size_append,zG,List.length_flatten,List.map_replicate,List.sum_replicate_nat];simp;rw[Nat.mul_comm];omega
   ·congr 1;simp[S]
end
inductive D where
 | non | bl (b:Bool) | int (i:Int) | str (l:List Nat) | lst (ds:List D) | tup (ds:List D) | dic (ks vs:List D) | ob (n:Nat)
inductive Ob where
 | ins (c:Str) (fs:List (Str×D))
 | ml (ds:List D)
 | dt (kvs:List (List Key×D))
 | df (kvs:List (List Key×D))
 | dk (kvs:List (Key×D))
 | kf (kvs:List (Key×D))
 | xc (c:Str) (fs:List (Str×D))
 | gone
abbrev aj:=List Ob
abbrev aA:=List (Option D)
structure Xc where
 cls:Str
 fs:List (Str×D)
inductive Res (α:Type) where
 | ok (a:α) (O:aj) | ex (x:Xc) (O:aj) | no
inductive Fl where
 | nx (ρ:aA) (O:aj) | rt (d:D) (O:aj) | bk (ρ:aA) (O:aj) | ct (ρ:aA) (O:aj) | ex (x:Xc) (O:aj) | no
abbrev M(α:Type):=aA->aj->Res α
abbrev MS:=aA->aj->Fl
def Res.bind{α β:Type}(r:Res α)(f:α->aj->Res β):Res β:=match r with
 | .ok a O=>f a O
 | .ex x O=>.ex x O
 | .no=>.no
theorem Res.bind_ok{α β:Type}{r:Res α}{f:α->aj->Res β}{b:β}{O':aj}(h:r.bind f=.ok b O'):∃a O,r=.ok a O/\f a O=.ok b O':=by
 cases r with
 |ok a O=>exact⟨a,O,rfl,h⟩
 |ex x O=>cases h
 |no=>cases h
def xA:Expr->Bool
 | .Starred _ _=>false
 | _=>true
theorem dh{e:Expr}{es:List Expr}{env:Env}(h:xA e=true):starEach (e::es) env=(false,eval e env)::starEach es env:=by
 cases e<;>first | rfl | cases h
theorem dG{pos:Pos}{env:Env}:∀{es:List Expr},es.all xA=true->(backTo pos (starEach es env)).any (·.1)=false
 | [],_=>by simp[starEach,backTo]
 |e::es,h=>by
  rw[List.all_cons,zw] at h;rw[dh h.1];show(false || (backTo pos (starEach es env)).any (·.1))=false;rw[dG h.2];rfl
theorem Sy{e:Expr}{env:Env}(h:xA e=true):starEach [e] env=[(false,eval e env)]:=by rw[dh h];simp[starEach]
abbrev Frag:=PySem.W.Frag
def oN:Key->D
 | .inl i=>.int i
 | .inr x=>.str x.cps.toList
def RdK(K:Frag)(H:Hp)(a:Addr)(xs:List V):Prop:=Rd H a (.lst xs)\/∃(its:List Value) (n:Nat),K.lookup a=some {cls:=.type "list",data:=.seq its.toArray n}/\its.length<=sizeLine/\aP xs its
theorem RdK.sq{K:Frag}{H:Hp}{a:Addr}{xs:List V}(h:RdK K H a xs):SqL K H a xs:=by
 rcases h with h | ⟨its,n,h1,h2,h3⟩
 ·exact .inl h
 ·exact .inr ⟨_,its.toArray,n,h1,rfl,rfl,rfl,by simpa using h2,by simpa using h3⟩
theorem RdK.ok{X:Cx}{pins:List (Addr×Obj)}{σ:St}{H:Hp}{s:Shared}{a:Addr}{xs:List V}(h:RdK X.K H a xs)(I:Inv X pins σ H s):xs.length<=sizeLine/\∃(its:List Value) (n:Nat),aP xs its/\s.heap.get? a=some {cls:=.type "list",data:=.seq its.toArray n}:=by
 rcases h with h | ⟨its,n,h1,h2,h3⟩
 ·exact h.ok I.hok
 ·exact⟨by rw[h3.length];exact h2,its,n,h3,I.kIn a _ h1⟩
def TqT(K:Frag)(F:Hp)(a:Addr)(xs:List V):Prop :=
 F a=some (.tup xs)\/∃(o:Obj) (its:Array Value) (n:Nat),K.lookup a=some o/\o.cls=.type "tuple"/\o.data=.seq its n/\its.size<=sizeLine/\aP xs its.toList
theorem TqT.sq{K:Frag}{F:Hp}{a:Addr}{xs:List V}(h:TqT K F a xs):SqT K F a xs:=h.imp .inl id
mutual
def Rp(K:Frag)(F:Hp)(as:List Addr):V->D->Prop
 |v,.non=>v=.non
 |v,.bl b=>v=.bl b
 |v,.int i=>v=.int i
 |v,.str l=>v=.str (S l)
 |v,.lst ds=>∃a xs,v=.ref a/\RdK K F a xs/\Rps K F as xs ds
 |v,.tup ds=>∃a xs,v=.ref a/\TqT K F a xs/\Rps K F as xs ds
 |v,.dic ks vs=>∃(a:Addr) (kvs:List (Key×V)),v=.ref a/\F a=some (.dK kvs)/\ks=kvs.map (λp=>oN p.1)/\Rps K F as (kvs.map (·.2)) vs
 |v,.ob n=>∃a,v=.ref a/\as[n]?=some a
def Rps(K:Frag)(F:Hp)(as:List Addr):List V->List D->Prop
 |xs,[]=>xs=[]
 |xs,d::ds=>∃x r,xs=x::r/\Rp K F as x d/\Rps K F as r ds
end
section
variable {K:Frag}{F F':Hp}{as as':List Addr}
theorem Rd.mono{H H':Hp}{a:Addr}{u:HO}(e:Same H H')(h:Rd H a u):Rd H' a u:=by
 rcases h with h | ⟨o,h⟩
 ·exact .inl (e _ _ h)
 ·exact .inr ⟨o,e _ _ h⟩
theorem RdK.mono{H H':Hp}{a:Addr}{xs:List V}(e:Same H H')(h:RdK K H a xs):RdK K H' a xs:=h.imp (λz=>z.mono e) id
mutual
theorem Rp.mono(e:Same F F')(ea:∀(n:Nat) (a:Addr),as[n]?=some a->as'[n]?=some a):∀(d:D) {v:V},Rp K F as v d->Rp K F' as' v d
 | .non,v,h=>by rw[Rp] at h ⊢;exact h
 | .bl b,v,h=>by rw[Rp] at h ⊢;exact h
 | .int i,v,h=>by rw[Rp] at h ⊢;exact h
 | .str x,v,h=>by rw[Rp] at h ⊢;exact h
 | .lst ds,v,h=>by
  rw[Rp] at h ⊢;obtain⟨a,xs,h1,h2,h3⟩:=h;exact⟨a,xs,h1,h2.mono e,Rps.mono e ea ds h3⟩
 | .tup ds,v,h=>by
  rw[Rp] at h ⊢;obtain⟨a,xs,h1,h2,h3⟩:=h;exact⟨a,xs,h1,h2.imp (e _ _) id,Rps.mono e ea ds h3⟩
 | .dic ks vs,v,h=>by
  rw[Rp] at h ⊢;obtain⟨a,kvs,h1,h2,h3,h4⟩:=h;exact⟨a,kvs,h1,e _ _ h2,h3,Rps.mono e ea vs h4⟩
 | .ob n,v,h=>by
  rw[Rp] at h ⊢;obtain⟨a,h1,h2⟩:=h;exact⟨a,h1,ea _ _ h2⟩
theorem Rps.mono(e:Same F F')(ea:∀(n:Nat) (a:Addr),as[n]?=some a->as'[n]?=some a):∀(ds:List D) {xs:List V},Rps K F as xs ds->Rps K F' as' xs ds
 | [],xs,h=>by rw[Rps] at h ⊢;exact h
 |d::ds,xs,h=>by
  rw[Rps] at h ⊢;obtain⟨x,r,h1,h2,h3⟩:=h;exact⟨x,r,h1,Rp.mono e ea d h2,Rps.mono e ea ds h3⟩
end
theorem Rp.non:Rp K F as .non .non:=by rw[Rp]
theorem Rp.bl{b:Bool}:Rp K F as (.bl b) (.bl b):=by rw[Rp]
theorem Rp.int{i:Int}:Rp K F as (.int i) (.int i):=by rw[Rp]
theorem Rp.str{l:List Nat}:Rp K F as (.str (S l)) (.str l):=by rw[Rp]
theorem Rp.unN{v:V}(h:Rp K F as v .non):v=.non:=by rw[Rp] at h;exact h
theorem Rp.unB{v:V}{b:Bool}(h:Rp K F as v (.bl b)):v=.bl b:=by rw[Rp] at h;exact h
theorem Rp.unI{v:V}{i:Int}(h:Rp K F as v (.int i)):v=.int i:=by rw[Rp] at h;exact h
theorem Rp.unS{v:V}{l:List Nat}(h:Rp K F as v (.str l)):v=.str (S l):=by rw[Rp] at h;exact h
theorem Rp.unL{v:V}{ds:List D}(h:Rp K F as v (.lst ds)):∃a xs,v=.ref a/\RdK K F a xs/\Rps K F as xs ds:=by rw[Rp] at h;exact h
theorem Rp.unT'{v:V}{ds:List D}(h:Rp K F as v (.tup ds)):∃a xs,v=.ref a/\TqT K F a xs/\Rps K F as xs ds:=by rw[Rp] at h;exact h
theorem Rp.unT{v:V}{ds:List D}(h:Rp K F as v (.tup ds)):∃a xs,v=.ref a/\SqT K F a xs/\Rps K F as xs ds:=let ⟨a,xs,e,h1,h2⟩:=h.unT';⟨a,xs,e,h1.sq,h2⟩
theorem Rp.unO{v:V}{n:Nat}(h:Rp K F as v (.ob n)):∃a,v=.ref a/\as[n]?=some a:=by rw[Rp] at h;exact h
theorem Rp.unD{v:V}{ks vs:List D}(h:Rp K F as v (.dic ks vs)):∃(a:Addr) (kvs:List (Key×V)),v=.ref a/\F a=some (.dK kvs)/\ks=kvs.map (λp=>oN p.1)/\Rps K F as (kvs.map (·.2)) vs:=by rw[Rp] at h;exact h
theorem Rp.mkL{a:Addr}{xs:List V}{ds:List D}(h:RdK K F a xs)(hs:Rps K F as xs ds):Rp K F as (.ref a) (.lst ds):=by rw[Rp];exact⟨a,xs,rfl,h,hs⟩
theorem Rp.mkT{a:Addr}{xs:List V}{ds:List D}(h:TqT K F a xs)(hs:Rps K F as xs ds):Rp K F as (.ref a) (.tup ds):=by rw[Rp];exact⟨a,xs,rfl,h,hs⟩
theorem Rp.mkO{a:Addr}{n:Nat}(h:as[n]?=some a):Rp K F as (.ref a) (.ob n):=by rw[Rp];exact⟨a,rfl,h⟩
theorem Rps.nil:Rps K F as [] []:=by rw[Rps]
theorem Rps.cons{x:V}{xs:List V}{d:D}{ds:List D}(h:Rp K F as x d)(hs:Rps K F as xs ds):Rps K F as (x::xs) (d::ds):=by
 rw[Rps];exact⟨x,xs,rfl,h,hs⟩
theorem Rps.un{xs:List V}{d:D}{ds:List D}(h:Rps K F as xs (d::ds)):∃x r,xs=x::r/\Rp K F as x d/\Rps K F as r ds:=by rw[Rps] at h;exact h
theorem Rps.un0{xs:List V}(h:Rps K F as xs []):xs=[]:=by rw[Rps] at h;exact h
theorem Rps.length:∀{ds:List D}{xs:List V},Rps K F as xs ds->xs.length=ds.length
 | [],xs,h=>by rw[h.un0];rfl
 |d::ds,xs,h=>by
  obtain⟨x,r,rfl,_,h3⟩:=h.un;simp[Rps.length h3]
theorem Rps.get:∀{ds:List D}{xs:List V}{i:Nat}{x:V},Rps K F as xs ds->xs[i]?=some x->∃d,ds[i]?=some d/\Rp K F as x d
 | [],xs,i,x,h,e=>by rw[h.un0] at e;simp at e
 |d::ds,xs,i,x,h,e=>by
  obtain⟨y,r,rfl,h2,h3⟩:=h.un
  cases i with
  |zero=>simp at e;subst e;exact⟨d,rfl,h2⟩
  |succ i =>
   obtain⟨d',e',q⟩:=Rps.get (i:=i) (x:=x) h3 (by simpa using e);exact⟨d',by simpa using e',q⟩
theorem Rps.get':∀{ds:List D}{xs:List V}{i:Nat}{d:D},Rps K F as xs ds->ds[i]?=some d->∃x,xs[i]?=some x/\Rp K F as x d:=by
 intro ds xs i d h e;have hl:=h.length
 have hi:i<xs.length:=by rw[hl];exact(zl.mp e).1
 obtain⟨d',e',q⟩:=h.get (zu hi);rw[e] at e';cases e';exact⟨_,zu hi,q⟩
theorem Rps.append{ys:List V}{es:List D}(hy:Rps K F as ys es):∀{ds:List D}{xs:List V},Rps K F as xs ds->Rps K F as (xs++ys) (ds++es)
 | [],xs,h=>by rw[h.un0];exact hy
 |e::ds,xs,h=>by
  obtain⟨y,r,rfl,h2,h3⟩:=h.un;exact Rps.cons h2 (Rps.append hy h3)
theorem Rps.snoc{x:V}{d:D}{ds:List D}{xs:List V}(h:Rps K F as xs ds)(hx:Rp K F as x d):Rps K F as (xs++[x]) (ds++[d]):=Rps.append (Rps.cons hx Rps.nil) h
theorem Rps.take:∀{ds:List D}{xs:List V} (n:Nat),Rps K F as xs ds->Rps K F as (xs.take n) (ds.take n)
 | _,_,0,_=>by simpa using Rps.nil
 | [],xs,n+1,h=>by rw[h.un0];simpa using Rps.nil
 |d::ds,xs,n+1,h=>by
  obtain⟨y,r,rfl,h2,h3⟩:=h.un;exact Rps.cons h2 (Rps.take n h3)
theorem Rps.drop:∀{ds:List D}{xs:List V} (n:Nat),Rps K F as xs ds->Rps K F as (xs.drop n) (ds.drop n)
 | _,_,0,h=>by simpa using h
 | [],xs,n+1,h=>by rw[h.un0];simpa using Rps.nil
 |d::ds,xs,n+1,h=>by
  obtain⟨y,r,rfl,h2,h3⟩:=h.un;exact Rps.drop n h3
theorem Rps.set:∀{ds:List D}{xs:List V}{x:V}{d:D} (n:Nat),Rps K F as xs ds->Rp K F as x d->Rps K F as (xs.set n x) (ds.set n d)
 | [],xs,x,d,n,h,_=>by rw[h.un0];simpa using Rps.nil
 |e::ds,xs,x,d,0,h,hx=>by
  obtain⟨y,r,rfl,h2,h3⟩:=h.un;exact Rps.cons hx h3
 |e::ds,xs,x,d,n+1,h,hx=>by
  obtain⟨y,r,rfl,h2,h3⟩:=h.un;exact Rps.cons h2 (Rps.set n h3 hx)
theorem Rps.rep{ds:List D}{xs:List V}(h:Rps K F as xs ds):∀n:Nat,Rps K F as (List.replicate n xs).flatten (List.replicate n ds).flatten
 | 0=>by simpa using Rps.nil
 |n+1=>by
  rw[List.replicate_succ,List.replicate_succ,List.flatten_cons,List.flatten_cons];exact Rps.append (Rps.rep h n) h
end
def isD:HO->Bool
 | .ins _ _ _=>false
 | .own _=>false
 | .xd _=>false
 | _=>true
def isL:HO->Bool
 | .lst _=>true
 | .dK _=>true
 | _=>false
theorem Gj{o:HO}(h:isL o=true):isD o=true:=by
 cases o<;>first | rfl | cases h
structure Gr(H F:Hp)(as:List Addr)(H' F':Hp)(as':List Addr):Prop where
 fz:∀a o,H a=some o->a∉as->isL o=true->F' a=F a
 ff:Same F F'
 nw:∃new,as'=as++new/\∀a∈new,H a=none
 fr:∀a o,H a=some o->a∉as->isD o=true->H' a=some o
 dm:∀a,H' a=none->H a=none
 kz:∀a o u,H a=some (.frz o u)->H' a=some (.frz o u)
structure Pt where
 p:Addr->Prop
 ss:List (Nat×V×D)
instance:CoeFun Pt (λ_=>Addr->Prop):=⟨Pt.p⟩
def Pt.all(H:Hp):Pt:=⟨λa=>H a≠none,[]⟩
structure GrS(P:Pt)(H F:Hp)(as:List Addr)(H' F':Hp)(as':List Addr):Prop where
 fz:∀a o,P a->H a=some o->a∉as->isL o=true->F' a=F a
 ff:Same F F'
 nw:∃new,as'=as++new/\∀a∈new,H a=none
 fr:∀a o,P a->H a=some o->a∉as->isD o=true->H' a=some o
 dm:∀a,H' a=none->H a=none
 kz:∀a o u,H a=some (.frz o u)->H' a=some (.frz o u)
section
variable {H F H' F' H2 F2:Hp}{as as' as2:List Addr}{P:Pt}
theorem Gr.refl:Gr H F as H F as:=⟨λ_ _ _ _ _=>rfl,Same.refl F,⟨[],by simp,λ_ h=>nomatch h⟩,λ_ _ h _ _=>h,λ_ h=>h,λ_ _ _ h=>h⟩
theorem Gr.trans(a:Gr H F as H' F' as')(b:Gr H' F' as' H2 F2 as2):Gr H F as H2 F2 as2:=by
 obtain⟨n1,e1,h1⟩:=a.nw;obtain⟨n2,e2,h2⟩:=b.nw;refine⟨λc o hc hn hd=>?_,a.ff.trans b.ff,⟨n1++n2,by rw[e2,e1,zM],λc hc=>?_⟩,λc o e hn hd=>?_,λc h=>a.dm c (b.dm c h),λc o u h=>b.kz c o u (a.kz c o u h)⟩
 ·have q:=a.fr c o hc hn (Gj hd);refine(b.fz c o q ?_ hd).trans (a.fz c o hc hn hd);rw[e1];intro z
  rcases zA.mp z with z | z
  ·exact hn z
  ·rw[h1 c z] at hc;cases hc
 ·rcases zA.mp hc with z | z
  ·exact h1 c z
  ·exact a.dm c (h2 c z)
 ·have q:=a.fr c o e hn hd;refine b.fr c o q ?_ hd;rw[e1];intro z
  rcases zA.mp z with z | z
  ·exact hn z
  ·rw[h1 c z] at e;cases e
theorem Gr.toS(a:Gr H F as H' F' as'):GrS P H F as H' F' as':=⟨λc o _=>a.fz c o,a.ff,a.nw,λc o _ e hn hd=>a.fr c o e hn hd,a.dm,a.kz⟩
theorem GrS.refl:GrS P H F as H F as:=Gr.refl.toS
theorem GrS.trans(a:GrS P H F as H' F' as')(b:GrS P H' F' as' H2 F2 as2):GrS P H F as H2 F2 as2:=by
 obtain⟨n1,e1,h1⟩:=a.nw;obtain⟨n2,e2,h2⟩:=b.nw;refine⟨λc o p hc hn hd=>?_,a.ff.trans b.ff,⟨n1++n2,by rw[e2,e1,zM],λc hc=>?_⟩,λc o p e hn hd=>?_,λc h=>a.dm c (b.dm c h),λc o u h=>b.kz c o u (a.kz c o u h)⟩
 ·have q:=a.fr c o p hc hn (Gj hd);refine(b.fz c o p q ?_ hd).trans (a.fz c o p hc hn hd);rw[e1];intro z
  rcases zA.mp z with z | z
  ·exact hn z
  ·rw[h1 c z] at hc;cases hc
 ·rcases zA.mp hc with z | z
  ·exact h1 c z
  ·exact a.dm c (h2 c z)
 ·have q:=a.fr c o p e hn hd;refine b.fr c o p q ?_ hd;rw[e1];intro z
  rcases zA.mp z with z | z
  ·exact hn z
  ·rw[h1 c z] at e;cases e
theorem GrS.mono{P':Pt}(a:GrS P H F as H' F' as')(h:∀c,P' c->P c):GrS P' H F as H' F' as':=⟨λc o p=>a.fz c o (h c p),a.ff,a.nw,λc o p=>a.fr c o (h c p),a.dm,a.kz⟩
theorem GrS.gr(a:GrS (Pt.all H) H F as H' F' as'):Gr H F as H' F' as':=⟨λc o e=>a.fz c o (show H c≠none by rw[e];exact λz=>nomatch z) e,a.ff,a.nw,λc o e=>a.fr c o (show H c≠none by rw[e];exact λz=>nomatch z) e,a.dm,a.kz⟩
theorem Gr.at_(a:Gr H F as H' F' as'):∀(n:Nat) (c:Addr),as[n]?=some c->as'[n]?=some c:=λn c h=>by
 obtain⟨new,e,_⟩:=a.nw;rw[e,zK (zl.mp h).1];exact h
theorem GrS.at_(a:GrS P H F as H' F' as'):∀(n:Nat) (c:Addr),as[n]?=some c->as'[n]?=some c:=λn c h=>by
 obtain⟨new,e,_⟩:=a.nw;rw[e,zK (zl.mp h).1];exact h
theorem Gr.out(a:Gr H F as H' F' as'){c:Addr}(h:c∉as)(e:H c≠none):c∉as':=by
 obtain⟨new,e1,h1⟩:=a.nw;rw[e1];intro z
 rcases zA.mp z with z | z
 ·exact h z
 ·exact e (h1 c z)
theorem GrS.out(a:GrS P H F as H' F' as'){c:Addr}(h:c∉as)(e:H c≠none):c∉as':=by
 obtain⟨new,e1,h1⟩:=a.nw;rw[e1];intro z
 rcases zA.mp z with z | z
 ·exact h z
 ·exact e (h1 c z)
theorem Rp.gr{K:Frag}{v:V}{d:D}(h:Rp K F as v d)(a:Gr H F as H' F' as'):Rp K F' as' v d:=Rp.mono a.ff a.at_ d h
theorem Rps.gr{K:Frag}{v:List V}{d:List D}(h:Rps K F as v d)(a:Gr H F as H' F' as'):Rps K F' as' v d:=Rps.mono a.ff a.at_ d h
theorem Rp.grS{K:Frag}{v:V}{d:D}(h:Rp K F as v d)(a:GrS P H F as H' F' as'):Rp K F' as' v d:=Rp.mono a.ff a.at_ d h
theorem Rps.grS{K:Frag}{v:List V}{d:List D}(h:Rps K F as v d)(a:GrS P H F as H' F' as'):Rps K F' as' v d:=Rps.mono a.ff a.at_ d h
end
structure FsR(K:Frag)(F:Hp)(as:List Addr)(gs:List (Str×V))(fs:List (Str×D)):Prop where
 nm:gs.map (·.1)=fs.map (·.1)
 vl:Rps K F as (gs.map (·.2)) (fs.map (·.2))
def XF(K:Frag)(F:Hp)(as:List Addr)(dxo:Option Addr)(fs:List (Str×D)):Prop:=fs=[]\/∃dx od gs,dxo=some dx/\F dx=some (.frz od (.xd gs))/\FsR K F as gs fs
theorem XF.mono{K:Frag}{F F':Hp}{as as':List Addr}{dxo:Option Addr}{fs:List (Str×D)}(h:XF K F as dxo fs)(e:Same F F')(ea:∀(n:Nat) (a:Addr),as[n]?=some a->as'[n]?=some a):XF K F' as' dxo fs:=by
 rcases h with h | ⟨dx,od,gs,h1,h2,h3,h4⟩
 ·exact .inl h
 ·exact .inr ⟨dx,od,gs,h1,e _ _ h2,h3,Rps.mono e ea _ h4⟩
def ObR(K:Frag)(mg:Str->Option Value)(H F:Hp)(as:List Addr)(a:Addr):Ob->Prop
 | .ins c fs=>∃C dx gs,mg c=some (.ref C)/\H a=some (.ins C dx gs)/\FsR K F as gs fs
 | .ml ds=>∃xs,H a=some (.lst xs)/\Rps K F as xs ds
 | .dt kvs=>∃xs:List (List Key×V),H a=some (.dT xs)/\xs.map (·.1)=kvs.map (·.1)/\Rps K F as (xs.map (·.2)) (kvs.map (·.2))
 | .df kvs=>∃(o:Obj) (xs:List (List Key×V)),H a=some (.frz o (.dT xs))/\xs.map (·.1)=kvs.map (·.1)/\Rps K F as (xs.map (·.2)) (kvs.map (·.2))
 | .dk kvs=>∃xs:List (Key×V),H a=some (.dK xs)/\xs.map (·.1)=kvs.map (·.1)/\Rps K F as (xs.map (·.2)) (kvs.map (·.2))
 | .kf kvs=>∃(o:Obj) (xs:List (Key×V)),H a=some (.frz o (.dK xs))/\xs.map (·.1)=kvs.map (·.1)/\Rps K F as (xs.map (·.2)) (kvs.map (·.2))
 | .xc c fs=>∃(C:Addr) (oe:Obj) (u:HO),mg c=some (.ref C)/\H a=some (.frz oe u)/\oe.cls=.ref C/\(∃ws,oe.data=.fields ws)/\XF K F as oe.dict fs
 | .gone=>∃φ,H a=some (.ext φ)
structure RlO(K:Frag)(mg:Str->Option Value)(O:aj)(H F:Hp)(as:List Addr):Prop where
 fh:Same F H
 fd:∀a o,F a=some o->isD o=true
 nd:as.Nodup
 len:as.length=O.length
 fa:∀a∈as,F a=none
 ob:∀(n:Nat) (a:Addr) (o:Ob),as[n]?=some a->O[n]?=some o->ObR K mg H F as a o
inductive Md where
 | v | s | o
 deriving DecidableEq
def jW:D->Bool
 | .lst _=>false
 | _=>true
def gO(P:Pt)(K:Frag)(H F:Hp)(as:List Addr):Md->V->D->Prop
 | .v,v,d=>Rp K F as v d
 | .s,v,d=>Rp K F as v d\/∃a xs ds,v=.ref a/\d=.lst ds/\H a=some (.lst xs)/\a∉as/\P a/\Rps K F as xs ds
 | .o,v,d=>(jW d=true/\Rp K F as v d)\/∃a xs ds,v=.ref a/\d=.lst ds/\H a=some (.lst xs)/\F a=none/\a∉as/\¬P a/\Rps K F as xs ds
structure SlO(K:Frag)(md:List Md)(P:Pt)(ρ:aA)(σ:St)(H F:Hp)(as:List Addr):Prop where
 len:σ.length=md.length
 len':ρ.length=md.length
 pd:∀a,P a->H a≠none
 sl:∀(i:Nat) (m:Md) (d:D),md[i]?=some m->ρ[i]?=some (some d)->∃v,σ[i]?=some (some v)/\gO P K H F as m v d
 inj:∀(i j:Nat) (a:Addr) (ds es:List D),md[i]?=some .o->md[j]?=some .o->ρ[i]?=some (some (.lst ds))->ρ[j]?=some (some (.lst es))->σ[i]?=some (some (.ref a))->σ[j]?=some (some (.ref a))->i=j
 pin:∀x∈P.ss,md[x.1]?=some .s/\ρ[x.1]?=some (some x.2.2)/\σ[x.1]?=some (some x.2.1)
section
variable {K:Frag}{mg:Str->Option Value}{md:List Md}{P:Pt}{ρ:aA}{σ:St}{H F H' F':Hp}{as as':List Addr}{O O':aj}
theorem gO.step{m:Md}{v:V}{d:D}(h:gO P K H F as m v d)(g:Gr H F as H' F' as'):gO P K H' F' as' m v d:=by
 cases m with
 |v=>exact Rp.gr (show Rp K F as v d from h) g
 |s =>
  rcases h with h | ⟨a,xs,ds,e1,e2,e3,e4,e5,e6⟩
  ·exact .inl (h.gr g)
  ·exact .inr ⟨a,xs,ds,e1,e2,g.fr _ _ e3 e4 rfl,g.out e4 (by rw[e3];exact λz=>nomatch z),e5,e6.gr g⟩
 |o =>
  rcases h with⟨h1,h⟩ | ⟨a,xs,ds,e1,e2,e3,e0,e4,e5,e6⟩
  ·exact .inl ⟨h1,h.gr g⟩
  ·have hn:H a≠none:=by rw[e3];exact λz=>nomatch z
   exact .inr ⟨a,xs,ds,e1,e2,g.fr _ _ e3 e4 rfl,by rw[g.fz a _ e3 e4 rfl];exact e0,g.out e4 hn,e5,e6.gr g⟩
theorem SlO.step(h:SlO K md P ρ σ H F as)(g:Gr H F as H' F' as'):SlO K md P ρ σ H' F' as' :=
 ⟨h.len,h.len',λa p z=>h.pd a p (g.dm a z),λi m d e1 e2=>let ⟨v,q,r⟩:=h.sl i m d e1 e2;⟨v,q,r.step g⟩,h.inj,h.pin⟩
end
def Sv(K:Frag)(H F:Hp)(as:List Addr)(v:V)(d:D):Prop :=
 Rp K F as v d\/∃a xs ds,v=.ref a/\d=.lst ds/\H a=some (.lst xs)/\a∉as/\Rps K F as xs ds
def Lk(K:Frag)(H F:Hp)(as:List Addr)(v:V)(d:D):Prop :=
 Rp K F as v d\/∃a xs ds,v=.ref a/\d=.lst ds/\H a=some (.lst xs)/\Rps K F as xs ds
def Ow(K:Frag)(N:Addr->Prop)(H F:Hp)(as:List Addr)(v:V)(d:D):Prop :=
 (jW d=true/\Rp K F as v d)\/∃a xs ds,v=.ref a/\d=.lst ds/\H a=some (.lst xs)/\F a=none/\a∉as/\N a/\Rps K F as xs ds
def bz(O:aj)(d:D):D:=match d with
 | .ob n=>match O[n]? with
  |some (.ml ds)=>.lst ds
  | _=>.ob n
 |d=>d
section
variable {K:Frag}{mg:Str->Option Value}{H0 H F H' F':Hp}{as as':List Addr}{O:aj}{v:V}{d:D}
theorem Sv.gr(h:Sv K H F as v d)(g:Gr H F as H' F' as'):Sv K H' F' as' v d:=by
 rcases h with h | ⟨a,xs,ds,e1,e2,e3,e4,e5⟩
 ·exact .inl (h.gr g)
 ·exact .inr ⟨a,xs,ds,e1,e2,g.fr _ _ e3 e4 rfl,g.out e4 (by rw[e3];exact λz=>nomatch z),e5.gr g⟩
theorem Sv.lk(h:Sv K H F as v d)(r:RlO K mg O H F as):Lk K H F as v (bz O d):=by
 rcases h with h | ⟨a,xs,ds,rfl,rfl,e3,e4,e5⟩
 ·cases d with
  |ob n =>
   obtain⟨a,rfl,ha⟩:=h.unO;unfold bz;dsimp only
   split
   ·rename_i ds e;obtain⟨xs,e1,e2⟩:=r.ob n a _ ha e;exact .inr ⟨a,xs,ds,rfl,rfl,e1,e2⟩
   ·exact .inl (Rp.mkO ha)
  | _=>exact .inl h
 ·exact .inr ⟨a,xs,ds,rfl,rfl,e3,e5⟩
theorem Lk.list{ds:List D}(h:Lk K H F as v (.lst ds))(fh:Same F H):∃a xs,v=.ref a/\RdK K H a xs/\Rps K F as xs ds:=by
 rcases h with h | ⟨a,xs,ds',e1,e2,e3,e4⟩
 ·obtain⟨a,xs,e,h1,h2⟩:=h.unL;exact⟨a,xs,e,h1.mono fh,h2⟩
 ·cases e2;exact⟨a,xs,e1,.inl (.inl e3),e4⟩
theorem Lk.rp(h:Lk K H F as v d)(hn:jW d=true):Rp K F as v d:=by
 rcases h with h | ⟨a,xs,ds',e1,rfl,e3,e4⟩
 ·exact h
 ·cases hn
theorem Sv.rp(h:Sv K H F as v d)(hn:jW d=true):Rp K F as v d:=by
 rcases h with h | ⟨a,xs,ds',e1,rfl,e3,e4⟩
 ·exact h
 ·cases hn
theorem Ow.sv{N:Addr->Prop}(h:Ow K N H F as v d):Sv K H F as v d:=by
 rcases h with⟨_,h⟩ | ⟨a,xs,ds,e1,e2,e3,e4,e5,e6,e7⟩
 ·exact .inl h
 ·exact .inr ⟨a,xs,ds,e1,e2,e3,e5,e7⟩
theorem Gr.lay{p:Addr}{o:HO}(hp:H p=none):Gr H F as (upd H p o) F as :=
 ⟨λ_ _ _ _ _=>rfl,Same.refl F,⟨[],by simp,λ_ h=>nomatch h⟩,λa o' e _ _=>by rw[aG (bV e hp)];exact e,λa e=>by
  by_cases h:a=p
  ·subst h;exact hp
  ·rwa [aG h] at e,λa o' u e=>by rw[aG (bV e hp)];exact e⟩
theorem ObR.keep{a:Addr}{o:Ob}(h:ObR K mg H F as a o)(hH:H' a=H a)(e:Same F F')(ea:∀(n:Nat) (a:Addr),as[n]?=some a->as'[n]?=some a):ObR K mg H' F' as' a o:=by
 cases o with
 |ins c fs =>
  obtain⟨C,dx,gs,h1,h2,h3,h4⟩:=h;exact⟨C,dx,gs,h1,by rw[hH];exact h2,h3,Rps.mono e ea _ h4⟩
 |ml ds =>
  obtain⟨xs,h1,h2⟩:=h;exact⟨xs,by rw[hH];exact h1,Rps.mono e ea _ h2⟩
 |dt kvs =>
  obtain⟨xs,h1,h2,h3⟩:=h;exact⟨xs,by rw[hH];exact h1,h2,Rps.mono e ea _ h3⟩
 |df kvs =>
  obtain⟨o,xs,h1,h2,h3⟩:=h;exact⟨o,xs,by rw[hH];exact h1,h2,Rps.mono e ea _ h3⟩
 |dk kvs =>
  obtain⟨xs,h1,h2,h3⟩:=h;exact⟨xs,by rw[hH];exact h1,h2,Rps.mono e ea _ h3⟩
 |kf kvs =>
  obtain⟨o,xs,h1,h2,h3⟩:=h;exact⟨o,xs,by rw[hH];exact h1,h2,Rps.mono e ea _ h3⟩
 |xc c fs =>
  obtain⟨C,oe,u,h1,h2,h3,h4,h5⟩:=h;exact⟨C,oe,u,h1,by rw[hH];exact h2,h3,h4,h5.mono e ea⟩
 |gone =>
  obtain⟨φ,h1⟩:=h;exact⟨φ,by rw[hH];exact h1⟩
theorem RlO.at{n:Nat}{a:Addr}{o:Ob}(r:RlO K mg O H F as)(ha:as[n]?=some a)(ho:O[n]?=some o):H a≠none:=by
 have q:=r.ob n a o ha ho
 cases o with
 |ins c fs=>obtain⟨C,dx,gs,h1,h2,_⟩:=q;rw[h2];exact λz=>nomatch z
 |ml ds=>obtain⟨xs,h1,_⟩:=q;rw[h1];exact λz=>nomatch z
 |dt kvs=>obtain⟨xs,h1,_⟩:=q;rw[h1];exact λz=>nomatch z
 |df kvs=>obtain⟨o,xs,h1,_⟩:=q;rw[h1];exact λz=>nomatch z
 |dk kvs=>obtain⟨xs,h1,_⟩:=q;rw[h1];exact λz=>nomatch z
 |kf kvs=>obtain⟨o,xs,h1,_⟩:=q;rw[h1];exact λz=>nomatch z
 |xc c fs=>obtain⟨C,oe,u,_,h1,_⟩:=q;rw[h1];exact λz=>nomatch z
 |gone=>obtain⟨φ,h1⟩:=q;rw[h1];exact λz=>nomatch z
theorem RlO.all{a:Addr}(r:RlO K mg O H F as)(ha:a∈as):H a≠none:=by
 obtain⟨n,hn,e⟩:=List.mem_iff_getElem.mp ha
 have hO:n<O.length:=by rw[<-r.len];exact hn
 exact r.at (n:=n) (by rw[zu hn,e]) (zu hO)
theorem RlO.lay{p:Addr}{o:HO}(r:RlO K mg O H F as)(hp:H p=none):RlO K mg O (upd H p o) F as:=by
 refine⟨λa u e=>?_,r.fd,r.nd,r.len,r.fa,λn a u ha hu=>(r.ob n a u ha hu).keep (aG ?_) (Same.refl F) λ_ _ h=>h⟩
 ·have q:=r.fh a u e;rw[aG (bV q hp)];exact q
 ·intro z;subst z;exact r.at ha hu hp
theorem Gr.frz{p:Addr}{o:HO}(hp:H p=none)(g:Gr H F as H' F' as')(hf:F' p=none):Gr H F as H' (upd F' p o) as' :=
 ⟨λa o' ha hn hd=>by rw[aG (λz=>by subst z;rw[hp] at ha;cases ha)];exact g.fz a o' ha hn hd,λa u e=>by
  have q:=g.ff a u e
  rw[aG (bV q hf)];exact q,g.nw,g.fr,g.dm,g.kz⟩
theorem RlO.frz{p:Addr}{o:HO}(r:RlO K mg O H F as)(hp:H p=some o)(hf:F p=none)(ha:p∉as)(hd:isD o=true):RlO K mg O H (upd F p o) as:=by
 have ff:Same F (upd F p o):=λa u e=>by rw[aG (bV e hf)];exact e
 refine⟨λa u e=>?_,λa u e=>?_,r.nd,r.len,λa h=>?_,λn a u h1 h2=>(r.ob n a u h1 h2).keep rfl ff λ_ _ h=>h⟩
 ·by_cases h:a=p
  ·subst h;rw[bF] at e;cases e;exact hp
  ·rw[aG h] at e;exact r.fh a u e
 ·by_cases h:a=p
  ·subst h;rw[bF] at e;cases e;exact hd
  ·rw[aG h] at e;exact r.fd a u e
 ·rw[aG (λz=>by subst z;exact ha h)];exact r.fa a h
end
abbrev RR:=(Addr->Prop)->Hp->Hp->List Addr->V->D->Prop
def rV(K:Frag):RR:=λ_ _ F as v d=>Rp K F as v d
def rS(K:Frag):RR:=λ_ H F as v d=>Sv K H F as v d
def rO(K:Frag):RR:=λN H F as v d=>Ow K N H F as v d
def rA(K:Frag):Md->RR
 | .v=>rV K
 | _=>rS K
def gP(R:RR):Prop:=∀(N N':Addr->Prop) (H F:Hp) (as:List Addr) (v:V) (d:D),(∀a,N a->N' a)->R N H F as v d->R N' H F as v d
theorem cL{K:Frag}:gP (rV K):=λ_ _ _ _ _ _ _ _ h=>h
theorem gQ{K:Frag}:gP (rO K):=λN N' H F as v d hn h=>by
 rcases h with h | ⟨a,xs,ds,e1,e2,e3,e4,e5,e6,e7⟩
 ·exact .inl h
 ·exact .inr ⟨a,xs,ds,e1,e2,e3,e4,e5,hn a e6,e7⟩
def tM(K:Frag)(mg:Str->Option Value)(md:List Md)(P:Pt)(R:RR)(m:M D):TE:=λσ H Q =>
 ∃ρ O F as d O',RlO K mg O H F as/\SlO K md P ρ σ H F as/\m ρ O=.ok d O' /\
  ∀v H' F' as',Gr H F as H' F' as'->RlO K mg O' H' F' as'->R (λa=>H a=none) H' F' as' v d->Q v H'
def tMT(K:Frag)(mg:Str->Option Value)(md:List Md)(P:Pt)(m:M Bool):TT:=λσ H Q =>
 ∃ρ O F as b O',RlO K mg O H F as/\SlO K md P ρ σ H F as/\m ρ O=.ok b O' /\
  ∀H' F' as',Gr H F as H' F' as'->RlO K mg O' H' F' as'->Q b H'
def cQ(K:Frag)(H F:Hp)(as:List Addr):List Md->List V->List D->Prop
 | [],[],[]=>True
 |m::ms,v::vs,d::ds=>rA K m (λ_=>True) H F as v d/\cQ K H F as ms vs ds
 | _,_,_=>False
def tMA(K:Frag)(mg:Str->Option Value)(md:List Md)(P:Pt)(ms:List Md)(m:M (List D)):TA:=λσ H Q =>
 ∃ρ O F as ds O',RlO K mg O H F as/\SlO K md P ρ σ H F as/\m ρ O=.ok ds O' /\
  ∀vs H' F' as',Gr H F as H' F' as'->RlO K mg O' H' F' as'->cQ K H' F' as' ms vs ds->Q vs H'
def XE(X:Cx)(md:List Md)(P:Pt)(R:RR)(e:Expr)(m:M D):Prop:=PE X e (tM X.K X.mg md P R m)
def VE(X:Cx)(md:List Md)(P:Pt)(e:Expr)(m:M D):Prop:=PE X e (tM X.K X.mg md P (rV X.K) m)
def SE(X:Cx)(md:List Md)(P:Pt)(e:Expr)(m:M D):Prop:=PE X e (tM X.K X.mg md P (rS X.K) m)
def OE(X:Cx)(md:List Md)(P:Pt)(e:Expr)(m:M D):Prop:=PE X e (tM X.K X.mg md P (rO X.K) m)
def TsE(X:Cx)(md:List Md)(P:Pt)(e:Expr)(m:M Bool):Prop:=PT X e (tMT X.K X.mg md P m)
def TwE(X:Cx)(md:List Md)(P:Pt)(e:Expr)(m:M Bool):Prop:=PW X e (tMT X.K X.mg md P m)
def AE(X:Cx)(md:List Md)(P:Pt)(ms:List Md)(es:List Expr)(m:M (List D)):Prop:=PA X es (tMA X.K X.mg md P ms m)
def gf(K:Frag)(mg:Str->Option Value)(md:List Md)(P:Pt)(R:RR)(D:Ends)(H F:Hp)(as:List Addr):Fl->Prop
 | .nx ρ' O'=>∀σ' H' F' as',GrS P H F as H' F' as'->RlO K mg O' H' F' as'->SlO K md P ρ' σ' H' F' as'->D.nx σ' H'
 | .bk ρ' O'=>∀σ' H' F' as',GrS P H F as H' F' as'->RlO K mg O' H' F' as'->SlO K md P ρ' σ' H' F' as'->D.bk σ' H'
 | .ct ρ' O'=>∀σ' H' F' as',GrS P H F as H' F' as'->RlO K mg O' H' F' as'->SlO K md P ρ' σ' H' F' as'->D.ct σ' H'
 | .rt d O'=>∀v H' F' as',GrS P H F as H' F' as'->RlO K mg O' H' F' as'->R (λa=>¬P a) H' F' as' v d->D.rt v H'
 | .ex _ _=>False
 | .no=>False
def tMS(K:Frag)(mg:Str->Option Value)(md:List Md)(P:Pt)(R:RR)(m:MS):TS:=λD σ H =>
 ∃ρ O F as,RlO K mg O H F as/\SlO K md P ρ σ H F as/\gf K mg md P R D H F as (m ρ O)
def VS(X:Cx)(md:List Md)(P:Pt)(R:RR)(st:Stmt)(m:MS):Prop:=PS X st (tMS X.K X.mg md P R m)
def VSs(X:Cx)(md:List Md)(P:Pt)(R:RR)(st:List Stmt)(m:MS):Prop:=PSs X st (tMS X.K X.mg md P R m)
section
variable {X:Cx}{md:List Md}{P:Pt}{R:RR}
theorem PE.imp{e:Expr}{t t':TE}(h:PE X e t)(k:∀σ H Q,t' σ H Q->t σ H Q):PE X e t':=λpins s σ H Q I q=>h pins s σ H Q I (k σ H Q q)
theorem PT.imp{e:Expr}{t t':TT}(h:PT X e t)(k:∀σ H Q,t' σ H Q->t σ H Q):PT X e t':=λpins s σ H Q I q=>h pins s σ H Q I (k σ H Q q)
theorem PW.imp{e:Expr}{t t':TT}(h:PW X e t)(k:∀σ H Q,t' σ H Q->t σ H Q):PW X e t':=λw pins s σ H Q I q=>h w pins s σ H Q I (k σ H Q q)
theorem PA.imp{e:List Expr}{t t':TA}(h:PA X e t)(k:∀σ H Q,t' σ H Q->t σ H Q):PA X e t':=λpos pins s σ H Q I q=>h pos pins s σ H Q I (k σ H Q q)
theorem PS.imp{e:Stmt}{t t':TS}(h:PS X e t)(k:∀D σ H,t' D σ H->t D σ H):PS X e t':=λpins s σ H D I q=>h pins s σ H D I (k D σ H q)
theorem PSs.imp{e:List Stmt}{t t':TS}(h:PSs X e t)(k:∀D σ H,t' D σ H->t D σ H):PSs X e t':=λpins s σ H D I q=>h pins s σ H D I (k D σ H q)
def aa(i:Nat):M D:=λρ O=>match ρ[i]? with
 |some (some d)=>.ok d O
 | _=>.no
def mC(d:D):M D:=λ_ O=>.ok d O
def mG(m:M D):M D:=λρ O=>match m ρ O with
 | .ok d O'=>if jW d=true then .ok d O' else .no
 |r=>r
theorem tX{i:Nat}{ρ:aA}{O O':aj}{d:D}(h:aa i ρ O=.ok d O'):ρ[i]?=some (some d)/\O'=O:=by
 unfold aa at h;split at h
 ·rename_i d' e;cases h;exact⟨e,rfl⟩
 ·cases h
theorem SJ{m:M D}{ρ:aA}{O O':aj}{d:D}(h:mG m ρ O=.ok d O'):m ρ O=.ok d O'/\jW d=true:=by
 unfold mG at h;split at h
 ·rename_i d' O1 e;split at h
  ·rename_i hn;cases h;exact⟨e,hn⟩
  ·cases h
 ·rename_i hne;exact absurd h (hne _ _)
theorem SlO.get{K:Frag}{ρ:aA}{σ:St}{H F:Hp}{as:List Addr}{i:Nat}{d:D}(s:SlO K md P ρ σ H F as)(h:ρ[i]?=some (some d)):∃m v,md[i]?=some m/\σ[i]?=some (some v)/\gO P K H F as m v d:=by
 have hi:i<md.length:=by rw[<-s.len'];exact(zl.mp h).1
 obtain⟨v,h1,h2⟩:=s.sl i md[i] d (zu hi) h;exact⟨_,v,zu hi,h1,h2⟩
theorem gO.sv{K:Frag}{H F:Hp}{as:List Addr}{m:Md}{v:V}{d:D}(h:gO P K H F as m v d):Sv K H F as v d:=by
 cases m with
 |v=>exact .inl h
 |s =>
  rcases h with h | ⟨a,xs,ds,e1,e2,e3,e4,e5,e6⟩
  ·exact .inl h
  ·exact .inr ⟨a,xs,ds,e1,e2,e3,e4,e6⟩
 |o =>
  rcases h with⟨_,h⟩ | ⟨a,xs,ds,e1,e2,e3,e0,e4,e5,e6⟩
  ·exact .inl h
  ·exact .inr ⟨a,xs,ds,e1,e2,e3,e4,e6⟩
theorem aK(i:Nat){x:Str}{pos:Pos}(hN:X.N[i]?=some x:=by rfl)(hv:Vis X.env.scope x:=by first | exact Or.inl rfl | exact Or.inr (Or.inl rfl) | exact Or.inr (Or.inr rfl))
  (hd:(x == ("__debug__":Str))=false:=by decide) (hcd:(x == ("__classdict__":Str))=false:=by decide):SE X md P (.Name x pos) (aa i):=by
 refine(lC (i:=i) hN hv hd hcd).imp λσ H Q h=>?_
 obtain⟨ρ,O,F,as,d,O',r,s,e,k⟩:=h;obtain⟨e1,rfl⟩:=tX e;obtain⟨m,v,h1,h2,h3⟩:=s.get e1;exact⟨v,h2,k v H F as Gr.refl r h3.sv⟩
theorem az(i:Nat){x:Str}{pos:Pos}(hm:md[i]?=some .v:=by rfl)(hN:X.N[i]?=some x:=by rfl)(hv:Vis X.env.scope x:=by first | exact Or.inl rfl | exact Or.inr (Or.inl rfl) | exact Or.inr (Or.inr rfl))
  (hd:(x == ("__debug__":Str))=false:=by decide) (hcd:(x == ("__classdict__":Str))=false:=by decide):VE X md P (.Name x pos) (aa i):=by
 refine(lC (i:=i) hN hv hd hcd).imp λσ H Q h=>?_
 obtain⟨ρ,O,F,as,d,O',r,s,e,k⟩:=h;obtain⟨e1,rfl⟩:=tX e;obtain⟨v,h2,h3⟩:=s.sl i .v d hm e1;exact⟨v,h2,k v H F as Gr.refl r h3⟩
theorem ao{e:Expr}{m:M D}(h:VE X md P e m):SE X md P e m:=h.imp λσ H Q q=>by
 obtain⟨ρ,O,F,as,d,O',r,s,e,k⟩:=q;exact⟨ρ,_,F,as,_,_,r,s,e,λv H' F' as' g r' hv=>k v H' F' as' g r' (.inl hv)⟩
theorem aY{e:Expr}{m:M D}(h:OE X md P e m):SE X md P e m:=h.imp λσ H Q q=>by
 obtain⟨ρ,O,F,as,d,O',r,s,e,k⟩:=q;exact⟨ρ,_,F,as,_,_,r,s,e,λv H' F' as' g r' hv=>k v H' F' as' g r' (Ow.sv hv)⟩
theorem bI{e:Expr}{m:M D}(h:SE X md P e m):VE X md P e (mG m):=h.imp λσ H Q q=>by
 obtain⟨ρ,O,F,as,d,O',r,s,e,k⟩:=q;obtain⟨e,hn⟩:=SJ e;exact⟨ρ,_,F,as,_,_,r,s,e,λv H' F' as' g r' hv=>k v H' F' as' g r' (Sv.rp hv hn)⟩
theorem bD{e:Expr}{m:M D}(h:OE X md P e m):VE X md P e m:=h.imp λσ H Q q=>by
 obtain⟨ρ,O,F,as,d,O',r,s,e,k⟩:=q;refine⟨ρ,_,F,as,_,_,r,s,e,λv H' F' as' g r' hv=>?_⟩
 rcases hv with⟨_,hv⟩ | ⟨a,xs,ds,rfl,rfl,e3,e4,e5,e6,e7⟩
 ·exact k v H' F' as' g r' hv
 ·have ff:Same F' (upd F' a (.lst xs)):=λb u q=>by rw[aG (bV q e4)];exact q
  refine k _ H' (upd F' a (.lst xs)) as' (g.frz e6 e4) (r'.frz e3 e4 e5 rfl) (Rp.mkL (.inl (.inl bF)) (Rps.mono ff (λ_ _ z=>z) _ e7))
theorem tY{e:Expr}{v:V}{d:D}(h:PE X e (tC v))(hd:∀K F as,Rp K F as v d):VE X md P e (mC d):=h.imp λσ H Q q=>by
 obtain⟨ρ,O,F,as,d,O',r,s,e,k⟩:=q;cases e;exact k v H F as Gr.refl r (hd _ _ _)
theorem aL{i:Int}{j pos}:VE X md P (.Constant (.int i) j pos) (mC (.int i)):=tY M4 λ_ _ _=>Rp.int
theorem dX{b:Bool}{j pos}:VE X md P (.Constant (.bool b) j pos) (mC (.bl b)):=tY M5 λ_ _ _=>Rp.bl
theorem lG{j pos}:VE X md P (.Constant .none j pos) (mC .non):=tY M6 λ_ _ _=>Rp.non
theorem Gk{x:Str}{j pos}(l:List Nat)(hx:x=S l:=by decide +kernel):VE X md P (.Constant (.str x) j pos) (mC (.str l)):=tY M7 λ_ _ _=>by rw[hx];exact Rp.str
def au:M (List D):=λ_ O=>.ok [] O
def ak(m:M D)(r:M (List D)):M (List D):=λρ O=>(m ρ O).bind λd O1=>(r ρ O1).bind λds O2=>.ok (d::ds) O2
theorem aM:AE X md P [] [] au:=jQ.imp λσ H Q q=>by
 obtain⟨ρ,O,F,as,d,O',r,s,e,k⟩:=q;cases e;exact k [] H F as Gr.refl r trivial
theorem rA.gr{K:Frag}{m:Md}{N:Addr->Prop}{H F H' F':Hp}{as as':List Addr}{v:V}{d:D}(h:rA K m N H F as v d)(g:Gr H F as H' F' as'):rA K m (λ_=>True) H' F' as' v d:=by
 cases m with
 |v=>exact Rp.gr (show Rp K F as v d from h) g
 |s=>exact Sv.gr (show Sv K H F as v d from h) g
 |o=>exact Sv.gr (show Sv K H F as v d from h) g
theorem cQ.gr{K:Frag}{H F H' F':Hp}{as as':List Addr}(g:Gr H F as H' F' as'):∀{ms:List Md}{vs:List V}{ds:List D},cQ K H F as ms vs ds->cQ K H' F' as' ms vs ds
 | [],[],[],_=>trivial
 |m::ms,v::vs,d::ds,h=>⟨rA.gr h.1 g,cQ.gr g h.2⟩
 | [],[],_::_,h=>h.elim
 | [],_::_,[],h=>h.elim
 | [],_::_,_::_,h=>h.elim
 | _::_,[],[],h=>h.elim
 | _::_,[],_::_,h=>h.elim
 | _::_,_::_,[],h=>h.elim
theorem Gm(md0:Md){e:Expr}{es:List Expr}{m:M D}{ms:List Md}{r:M (List D)}(h:XE X md P (rA X.K md0) e m)(hr:AE X md P ms es r)
  (hs:starEach (e::es) X.env=(false,eval e X.env)::starEach es X.env:=by exact dh rfl):AE X md P (md0::ms) (e::es) (ak m r):=(gJ h hr hs).imp λσ H Q q=>by
 obtain⟨ρ,O,F,as,d,O',r0,s,e,k⟩:=q;obtain⟨d,O1,e1,e⟩:=Res.bind_ok e;obtain⟨ds',O2,e2,e⟩:=Res.bind_ok e;cases e;refine⟨ρ,_,F,as,_,_,r0,s,e1,λv H1 F1 as1 g1 r1 hv=>?_⟩;refine⟨ρ,_,F1,as1,_,_,r1,s.step g1,e2,λvs H2 F2 as2 g2 r2 hvs=>?_⟩;exact k (v::vs) H2 F2 as2 (g1.trans g2) r2 ⟨rA.gr hv g2,hvs⟩
theorem cB{e:Expr}{es:List Expr}{m:M D}{ms:List Md}{r:M (List D)}(h:VE X md P e m)(hr:AE X md P ms es r)
  (hs:starEach (e::es) X.env=(false,eval e X.env)::starEach es X.env:=by exact dh rfl):AE X md P (.v::ms) (e::es) (ak m r):=Gm .v h hr hs
theorem aC{e:Expr}{es:List Expr}{m:M D}{ms:List Md}{r:M (List D)}(h:SE X md P e m)(hr:AE X md P ms es r)
  (hs:starEach (e::es) X.env=(false,eval e X.env)::starEach es X.env:=by exact dh rfl):AE X md P (.s::ms) (e::es) (ak m r):=Gm .s h hr hs
theorem cQ.rps{K:Frag}{H F:Hp}{as:List Addr}:∀{n:Nat}{vs:List V}{ds:List D},cQ K H F as (List.replicate n .v) vs ds->Rps K F as vs ds
 | 0,[],[],_=>Rps.nil
 |n+1,v::vs,d::ds,h=>by
  rw[List.replicate_succ] at h;exact Rps.cons h.1 (cQ.rps h.2)
 | 0,[],_::_,h=>h.elim
 | 0,_::_,[],h=>h.elim
 | 0,_::_,_::_,h=>h.elim
 |n+1,[],[],h=>h.elim
 |n+1,[],_::_,h=>h.elim
 |n+1,_::_,[],h=>h.elim
def cD(r:M (List D)):M D:=λρ O=>(r ρ O).bind λds O1=>if ds.length<=1000000 then .ok (.lst ds) O1 else .no
def cM(r:M (List D)):M D:=λρ O=>(r ρ O).bind λds O1=>if ds.length<=1000000 then .ok (.tup ds) O1 else .no
theorem ir{n:Nat}(h:n<=1000000):n<=sizeLine:=zH h (by decide)
theorem iR{es:List Expr}{pos:Pos}{r:M (List D)}(n:Nat)(h:AE X md P (List.replicate n .v) es r):OE X md P (.List es pos) (cD r):=(Qt h).imp λσ H Q q=>by
 obtain⟨ρ,O,F,as,d,O',r0,s,e,k⟩:=q;obtain⟨ds,O1,e1,e⟩:=Res.bind_ok e;split at e
 ·rename_i hz;cases e;refine⟨ρ,_,F,as,_,_,r0,s,e1,λvs H1 F1 as1 g1 r1 hv=>?_⟩;have hr:=hv.rps;refine⟨by rw[hr.length];exact ir hz,λp hp=>?_⟩
  have hF:F1 p=none:=by
   cases q:F1 p with
   |none=>rfl
   |some o=>rw[r1.fh p o q] at hp;cases hp
  refine k _ _ F1 as1 (g1.trans (Gr.lay hp)) (r1.lay hp) (.inr ⟨p,vs,ds,rfl,rfl,bF,hF,λz=>r1.all z hp,g1.dm p hp,hr⟩)
 ·cases e
theorem jD{es:List Expr}{pos:Pos}{x1}{r:M (List D)}(n:Nat)(h:AE X md P (List.replicate n .v) es r):VE X md P (.Tuple es x1 pos) (cM r):=(Qs h).imp λσ H Q q=>by
 obtain⟨ρ,O,F,as,d,O',r0,s,e,k⟩:=q;obtain⟨ds,O1,e1,e⟩:=Res.bind_ok e;split at e
 ·rename_i hz;cases e;refine⟨ρ,_,F,as,_,_,r0,s,e1,λvs H1 F1 as1 g1 r1 hv=>?_⟩;have hr:=hv.rps;refine⟨by rw[hr.length];exact ir hz,λp hp=>?_⟩
  have hF:F1 p=none:=by
   cases q:F1 p with
   |none=>rfl
   |some o=>rw[r1.fh p o q] at hp;cases hp
  have ff:Same F1 (upd F1 p (.tup vs)):=λb u q=>by rw[aG (bV q hF)];exact q
  refine k _ _ (upd F1 p (.tup vs)) as1 ((g1.trans (Gr.lay hp)).frz (g1.dm p hp) hF) ((r1.lay hp).frz bF hF (λz=>r1.all z hp) rfl) (Rp.mkT (.inl bF) (Rps.mono ff (λ_ _ z=>z) _ hr))
 ·cases e
def rD(K:Frag)(mg:Str->Option Value)(g:D->D->Option D):R2:=λx y H Q=>∃O F as dx dy d,RlO K mg O H F as/\Lk K H F as x dx/\Lk K H F as y dy/\g dx dy=some d /\
 ∀v' H' F',Gr H F as H' F' as->RlO K mg O H' F' as->Ow K (λa=>H a=none) H' F' as v' d->Q v' H'
abbrev OpD(X:Cx)(f:Value->Value->Sem Value)(g:D->D->Option D):Prop:=OpR X f (rD X.K X.mg g)
def aq(g:D->D->Option D)(ma mb:M D):M D:=λρ O=>(ma ρ O).bind λx O1=>(mb ρ O1).bind λy O2=>match g (bz O2 x) (bz O2 y) with
 |some d=>.ok d O2
 |none=>.no
theorem xB{K:Frag}{mg:Str->Option Value}{g:D->D->Option D}{ma mb:M D}{σ:St}{H:Hp}{Q:VK}(h:tM K mg md P (rO K) (aq g ma mb) σ H Q):tOp (rD K mg g) (tM K mg md P (rS K) ma) (tM K mg md P (rS K) mb) σ H Q:=by
 obtain⟨ρ,O,F,as,d,O',r,sl,e,k⟩:=h;obtain⟨x,O1,e1,e⟩:=Res.bind_ok e;obtain⟨y,O2,e2,e⟩:=Res.bind_ok e;split at e
 ·rename_i d' hg;cases e;refine⟨ρ,_,F,as,_,_,r,sl,e1,λv H1 F1 as1 g1 r1 hv=>?_⟩;refine⟨ρ,_,F1,as1,_,_,r1,sl.step g1,e2,λu H2 F2 as2 g2 r2 hu=>?_⟩;refine⟨_,F2,as2,_,_,_,r2,Sv.lk (Sv.gr hv g2) r2,Sv.lk hu r2,hg,λv' H' F' g' r' hw=>?_⟩;exact k v' H' F' as2 ((g1.trans g2).trans g') r' (gQ _ _ _ _ _ _ _ (λa ha=>(g1.trans g2).dm a ha) hw)
 ·cases e
theorem bR{e1 e2:Expr}{pos:Pos}{op:Operator}{g:D->D->Option D}{ma mb:M D}(ho:OpD X (binaryOp op) g)(ha:SE X md P e1 ma)(hb:SE X md P e2 mb):OE X md P (.BinOp e1 op e2 pos) (aq g ma mb):=
 (Ov ho ha hb).imp λ_ _ _=>xB
theorem qJ{e1 e2:Expr}{pos:Pos}{op:CmpOp}{g:D->D->Option D}{ma mb:M D}(ho:OpD X (compareOp op) g)(ha:SE X md P e1 ma)(hb:SE X md P e2 mb)(hm:behindInMarks op e2=false):OE X md P (.Compare e1 [op] [e2] pos) (aq g ma mb):=
 (PB ho ha hb hm).imp λ_ _ _=>xB
def aJ(m:M D):M Bool:=λρ O=>(m ρ O).bind λd O1=>match d with
 | .bl b=>.ok b O1
 | _=>.no
theorem tZ{K:Frag}{mg:Str->Option Value}{m:M D}{σ:St}{H:Hp}{Q:Bool->Hp->Prop}(h:tMT K mg md P (aJ m) σ H Q):wR (tM K mg md P (rO K) m) σ H Q:=by
 obtain⟨ρ,O,F,as,d,O',r,sl,e,k⟩:=h;obtain⟨d,O1,e1,e⟩:=Res.bind_ok e
 cases d with
 |bl c =>
  cases e;refine⟨ρ,_,F,as,_,_,r,sl,e1,λv H1 F1 as1 g1 r1 hv=>?_⟩
  rcases hv with⟨_,hv⟩ | ⟨a,xs,ds,_,e2,_⟩
  ·exact⟨_,hv.unB,k H1 F1 as1 g1 r1⟩
  ·cases e2
 | _=>cases e
theorem cW{e1 e2:Expr}{pos:Pos}{op:CmpOp}{g:D->D->Option D}{ma mb:M D}(ho:OpD X (compareOp op) g)(ha:SE X md P e1 ma)(hb:SE X md P e2 mb)(hm:behindInMarks op e2=false):TsE X md P (.Compare e1 [op] [e2] pos) (aJ (aq g ma mb)):=
 (PJ ho ha hb hm).imp λσ H Q h=>by
  have q:=tZ h;exact xB q
def Gn(g g':D->D->Option D)(ma mb mc:M D):M D:=λρ O=>(ma ρ O).bind λx O1=>(mb ρ O1).bind λy O2=>match g (bz O2 x) (bz O2 y) with
 |some (.bl true)=>(mc ρ O2).bind λz O3=>match g' (bz O3 y) (bz O3 z) with
  |some d=>.ok d O3
  |none=>.no
 |some (.bl false)=>.ok (.bl false) O2
 | _=>.no
def isNon:D->Bool
 | .non=>true
 | _=>false
def cU(m:M D):M D:=λρ O=>(m ρ O).bind λd O1=>.ok (.bl (isNon d)) O1
def di(m:M D):M D:=λρ O=>(m ρ O).bind λd O1=>.ok (.bl (!isNon d)) O1
theorem Sv.isN{K:Frag}{H F:Hp}{as:List Addr}{v:V}{d:D}(h:Sv K H F as v d):decide (v=.non)=isNon d:=by
 rcases h with h | ⟨a,xs,ds,rfl,rfl,_⟩
 ·cases d with
  |non=>rw[h.unN];rfl
  |bl b=>rw[h.unB];rfl
  |int b=>rw[h.unI];rfl
  |str b=>rw[h.unS];rfl
  |lst b=>obtain⟨a,xs,rfl,_⟩:=h.unL;rfl
  |tup b=>obtain⟨a,xs,rfl,_⟩:=h.unT;rfl
  |dic k b=>obtain⟨a,xs,rfl,_⟩:=h.unD;rfl
  |ob b=>obtain⟨a,rfl,_⟩:=h.unO;rfl
 ·rfl
theorem Gp{K:Frag}{mg:Str->Option Value}{m:M D}{σ:St}{H:Hp}{Q:VK}(h:tM K mg md P (rO K) (cU m) σ H Q):DY (tM K mg md P (rS K) m) σ H Q:=by
 obtain⟨ρ,O,F,as,d,O',r,sl,e,k⟩:=h;obtain⟨x,O1,e1,e⟩:=Res.bind_ok e;cases e;refine⟨ρ,_,F,as,_,_,r,sl,e1,λv H1 F1 as1 g1 r1 hv=>?_⟩;dsimp only;rw[Sv.isN hv];exact k _ H1 F1 as1 g1 r1 (.inl ⟨rfl,Rp.bl⟩)
theorem Gq{K:Frag}{mg:Str->Option Value}{m:M D}{σ:St}{H:Hp}{Q:VK}(h:tM K mg md P (rO K) (di m) σ H Q):Ea (tM K mg md P (rS K) m) σ H Q:=by
 obtain⟨ρ,O,F,as,d,O',r,sl,e,k⟩:=h;obtain⟨x,O1,e1,e⟩:=Res.bind_ok e;cases e;refine⟨ρ,_,F,as,_,_,r,sl,e1,λv H1 F1 as1 g1 r1 hv=>?_⟩;dsimp only;rw[Sv.isN hv];exact k _ H1 F1 as1 g1 r1 (.inl ⟨rfl,Rp.bl⟩)
theorem xC{a:Expr}{pos pos':Pos}{j}{m:M D}(h:SE X md P a m):OE X md P (.Compare a [.Is] [.Constant .none j pos'] pos) (cU m):=(wI (Eb h)).imp λ_ _ _=>Gp
theorem SM{a:Expr}{pos pos':Pos}{j}{m:M D}(h:SE X md P a m):OE X md P (.Compare a [.IsNot] [.Constant .none j pos'] pos) (di m):=(wI (Ec h)).imp λ_ _ _=>Gq
theorem Gs{t t':TE}{σ:St}{H:Hp}{Q:Bool->Hp->Prop}(h:∀Q',t σ H Q'->t' σ H Q')(q:wR t σ H Q):tB t' σ H Q:=h _ q
theorem mY{a:Expr}{pos pos':Pos}{j}{m:M D}(h:SE X md P a m):TsE X md P (.Compare a [.Is] [.Constant .none j pos'] pos) (aJ (cU m)):=(wJ (Eb h)).imp λ_ _ _ q=>Gs (λ_=>Gp) (tZ q)
theorem qK{a:Expr}{pos pos':Pos}{j}{m:M D}(h:SE X md P a m):TsE X md P (.Compare a [.IsNot] [.Constant .none j pos'] pos) (aJ (di m)):=(wJ (Ec h)).imp λ_ _ _ q=>Gs (λ_=>Gq) (tZ q)
def oO:D->Option Bool
 | .non=>some false
 | .bl b=>some b
 | .int i=>some (i != 0)
 | .str l=>if l.length<=1000000 then some (!l.isEmpty) else none
 | .lst ds=>some (!ds.isEmpty)
 | .tup ds=>some (!ds.isEmpty)
 | .dic ks _=>some (!ks.isEmpty)
 | .ob _=>none
def bW(m:M D):M Bool:=λρ O=>(m ρ O).bind λd O1=>match oO (bz O1 d) with
 |some b=>.ok b O1
 |none=>.no
theorem Gu{α β:Type}{xs:List α}{ys:List β}(h:xs.length=ys.length):(!xs.isEmpty) = !ys.isEmpty:=by
 cases xs<;>cases ys<;>simp_all
theorem Lk.tru{K:Frag}{H F:Hp}{as:List Addr}{v:V}{d:D}{b:Bool}(h:Lk K H F as v d)(fh:Same F H)(e:oO d=some b):wU K v H b:=by
 cases d with
 |non=>rw[(h.rp rfl).unN];cases e;rfl
 |bl b=>rw[(h.rp rfl).unB];cases e;rfl
 |int b=>rw[(h.rp rfl).unI];cases e;rfl
 |str l =>
  rw[(h.rp rfl).unS];simp only[oO] at e;split at e
  ·rename_i hl;cases e;refine⟨by rw[gM];exact ir hl,?_⟩;rw[gM]
   cases l with
   |nil=>rfl
   |cons c l =>
    have:((((c::l).length:Nat):Int) != 0)=true:=by
     rw[bne_iff_ne,zI];omega
    rw[this];rfl
  ·cases e
 |lst ds =>
  obtain⟨a,xs,rfl,h1,h2⟩:=h.list fh;cases e;exact .inl ⟨xs,h1.sq,(Gu h2.length).symm⟩
 |tup ds =>
  obtain⟨a,xs,rfl,h1,h2⟩:=(h.rp rfl).unT;cases e;exact .inr (.inl ⟨xs,Same.seqT fh h1,(Gu h2.length).symm⟩)
 |dic ks vs =>
  obtain⟨a,kvs,rfl,h1,rfl,h2⟩:=(h.rp rfl).unD;cases e;exact .inr (.inr ⟨kvs,fh _ _ h1,by cases kvs<;>rfl⟩)
 |ob n=>cases e
theorem dY{a:Expr}{m:M D}(h:SE X md P a m)(he:∀whole,isTrue a X.env whole=(do let v <-whole;standAt a.pos;holding [v] (truthy v)):=by intro _;rfl):TsE X md P a (bW m):=(PN h he).imp λσ H Q q=>by
 obtain⟨ρ,O,F,as,d,O',r,sl,e,k⟩:=q;obtain⟨d,O1,e1,e⟩:=Res.bind_ok e;split at e
 ·rename_i c hc;cases e;exact⟨ρ,_,F,as,_,_,r,sl,e1,λv H1 F1 as1 g1 r1 hv=>⟨_,Lk.tru (Sv.lk hv r1) r1.fh hc,k H1 F1 as1 g1 r1⟩⟩
 ·cases e
def cH(a b:M Bool):M Bool:=λρ O=>(a ρ O).bind λc O1=>if c=true then b ρ O1 else .ok false O1
def du(a b:M Bool):M Bool:=λρ O=>(a ρ O).bind λc O1=>if c=true then .ok true O1 else b ρ O1
def dH(a:M Bool):M Bool:=λρ O=>(a ρ O).bind λc O1=>.ok (!c) O1
theorem SN{K:Frag}{mg:Str->Option Value}{ma mb:M Bool}{σ:St}{H:Hp}{Q:Bool->Hp->Prop}(h:tMT K mg md P (cH ma mb) σ H Q):Ed (tMT K mg md P ma) (tMT K mg md P mb) σ H Q:=by
 obtain⟨ρ,O,F,as,d,O',r,sl,e,k⟩:=h;obtain⟨c,O1,e1,e⟩:=Res.bind_ok e;refine⟨ρ,_,F,as,_,_,r,sl,e1,λH1 F1 as1 g1 r1=>?_⟩
 cases c with
 |true =>
  rw[if_pos rfl] at e ⊢;exact⟨ρ,_,F1,as1,_,_,r1,sl.step g1,e,λH2 F2 as2 g2 r2=>k H2 F2 as2 (g1.trans g2) r2⟩
 |false =>
  rw[if_neg zq] at e ⊢;cases e;exact k H1 F1 as1 g1 r1
theorem SQ{K:Frag}{mg:Str->Option Value}{ma mb:M Bool}{σ:St}{H:Hp}{Q:Bool->Hp->Prop}(h:tMT K mg md P (du ma mb) σ H Q):tOr (tMT K mg md P ma) (tMT K mg md P mb) σ H Q:=by
 obtain⟨ρ,O,F,as,d,O',r,sl,e,k⟩:=h;obtain⟨c,O1,e1,e⟩:=Res.bind_ok e;refine⟨ρ,_,F,as,_,_,r,sl,e1,λH1 F1 as1 g1 r1=>?_⟩
 cases c with
 |true =>
  rw[if_pos rfl] at e ⊢;cases e;exact k H1 F1 as1 g1 r1
 |false =>
  rw[if_neg zq] at e ⊢;exact⟨ρ,_,F1,as1,_,_,r1,sl.step g1,e,λH2 F2 as2 g2 r2=>k H2 F2 as2 (g1.trans g2) r2⟩
theorem jX{a:Expr}{pos:Pos}{m:M Bool}(h:TsE X md P a m):TwE X md P (.BoolOp .And [a] pos) m:=Nb h
theorem jE{a:Expr}{pos:Pos}{m:M Bool}(h:TsE X md P a m):TwE X md P (.BoolOp .Or [a] pos) m:=Nf h
theorem jY{a b:Expr}{rest:List Expr}{pos:Pos}{ma mb:M Bool}(ha:TsE X md P a ma)(hb:TwE X md P (.BoolOp .And (b::rest) pos) mb):TwE X md P (.BoolOp .And (a::b::rest) pos) (cH ma mb):=(Ng ha hb).imp λ_ _ _=>SN
theorem gR{a b:Expr}{rest:List Expr}{pos:Pos}{ma mb:M Bool}(ha:TsE X md P a ma)(hb:TwE X md P (.BoolOp .Or (b::rest) pos) mb):TwE X md P (.BoolOp .Or (a::b::rest) pos) (du ma mb):=(Nh ha hb).imp λ_ _ _=>SQ
theorem dZ{e:Expr}{m:M Bool}(h:TwE X md P e m):TsE X md P e m:=PW.pt h
theorem gU{a:Expr}{pos:Pos}{m:M Bool}(h:TsE X md P a m):TsE X md P (.UnaryOp .Not a pos) (dH m):=(Ni h).imp λσ H Q q=>by
 obtain⟨ρ,O,F,as,d,O',r,sl,e,k⟩:=q;obtain⟨c,O1,e1,e⟩:=Res.bind_ok e;cases e;exact⟨ρ,_,F,as,_,_,r,sl,e1,k⟩
def gh(ma mb:M D):M D:=λρ O=>(ma ρ O).bind λd O1=>match d with
 | .bl true=>mb ρ O1
 | .bl false=>.ok (.bl false) O1
 | _=>.no
def oR(ma mb:M D):M D:=λρ O=>(ma ρ O).bind λd O1=>match d with
 | .bl true=>.ok (.bl true) O1
 | .bl false=>mb ρ O1
 | _=>.no
def t7(ma:M D):M D:=λρ O=>(ma ρ O).bind λd O1=>match d with
 | .bl b=>.ok (.bl (!b)) O1
 | _=>.no
theorem jZ{a:Expr}{pos:Pos}{op}{m:M D}(h:VE X md P a m):VE X md P (.BoolOp op [a] pos) m:=Np h
theorem mZ{a b:Expr}{rest:List Expr}{pos:Pos}{ma mb:M D}(ha:VE X md P a ma)(hb:VE X md P (.BoolOp .And (b::rest) pos) mb):VE X md P (.BoolOp .And (a::b::rest) pos) (gh ma mb):=(Nq ha hb).imp λσ H Q q=>by
 obtain⟨ρ,O,F,as,d,O',r,sl,e,k⟩:=q;obtain⟨x,O1,e1,e⟩:=Res.bind_ok e;refine⟨ρ,_,F,as,_,_,r,sl,e1,λv H1 F1 as1 g1 r1 hv=>?_⟩
 cases x with
 |bl c =>
  refine⟨c,Rp.unB hv,?_⟩
  cases c with
  |true =>
   rw[if_pos rfl];exact⟨ρ,_,F1,as1,_,_,r1,sl.step g1,e,λv2 H2 F2 as2 g2 r2 hv2=>k v2 H2 F2 as2 (g1.trans g2) r2 hv2⟩
  |false =>
   rw[if_neg zq];cases e;exact k _ H1 F1 as1 g1 r1 Rp.bl
 | _=>cases e
theorem Gv{a b:Expr}{rest:List Expr}{pos:Pos}{ma mb:M D}(ha:VE X md P a ma)(hb:VE X md P (.BoolOp .Or (b::rest) pos) mb):VE X md P (.BoolOp .Or (a::b::rest) pos) (oR ma mb):=(Nr ha hb).imp λσ H Q q=>by
 obtain⟨ρ,O,F,as,d,O',r,sl,e,k⟩:=q;obtain⟨x,O1,e1,e⟩:=Res.bind_ok e;refine⟨ρ,_,F,as,_,_,r,sl,e1,λv H1 F1 as1 g1 r1 hv=>?_⟩
 cases x with
 |bl c =>
  refine⟨c,Rp.unB hv,?_⟩
  cases c with
  |true =>
   rw[if_pos rfl];cases e;exact k _ H1 F1 as1 g1 r1 Rp.bl
  |false =>
   rw[if_neg zq];exact⟨ρ,_,F1,as1,_,_,r1,sl.step g1,e,λv2 H2 F2 as2 g2 r2 hv2=>k v2 H2 F2 as2 (g1.trans g2) r2 hv2⟩
 | _=>cases e
theorem Gw{a:Expr}{pos:Pos}{m:M D}(h:VE X md P a m):VE X md P (.UnaryOp .Not a pos) (t7 m):=(Nt h).imp λσ H Q q=>by
 obtain⟨ρ,O,F,as,d,O',r,sl,e,k⟩:=q;obtain⟨x,O1,e1,e⟩:=Res.bind_ok e;refine⟨ρ,_,F,as,_,_,r,sl,e1,λv H1 F1 as1 g1 r1 hv=>?_⟩
 cases x with
 |bl c =>
  cases e;exact⟨c,Rp.unB hv,k _ H1 F1 as1 g1 r1 Rp.bl⟩
 | _=>cases e
def mIf(t:M Bool)(a b:M D):M D:=λρ O=>(t ρ O).bind λc O1=>if c=true then a ρ O1 else b ρ O1
theorem SX(hR:gP R){c a b:Expr}{pos:Pos}{mc:M Bool}{ma mb:M D}(hc:TsE X md P c mc)(ha:PE X a (tM X.K X.mg md P R ma))(hb:PE X b (tM X.K X.mg md P R mb)):PE X (.IfExp c a b pos) (tM X.K X.mg md P R (mIf mc ma mb)):=(Nu hc ha hb).imp λσ H Q q=>by
 obtain⟨ρ,O,F,as,d,O',r,sl,e,k⟩:=q;obtain⟨x,O1,e1,e⟩:=Res.bind_ok e;refine⟨ρ,_,F,as,_,_,r,sl,e1,λH1 F1 as1 g1 r1=>?_⟩
 cases x with
 |true =>
  rw[if_pos rfl] at e ⊢;exact⟨ρ,_,F1,as1,_,_,r1,sl.step g1,e,λv2 H2 F2 as2 g2 r2 hv2=>k v2 H2 F2 as2 (g1.trans g2) r2 (hR _ _ _ _ _ _ _ (λa ha=>g1.dm a ha) hv2)⟩
 |false =>
  rw[if_neg zq] at e ⊢;exact⟨ρ,_,F1,as1,_,_,r1,sl.step g1,e,λv2 H2 F2 as2 g2 r2 hv2=>k v2 H2 F2 as2 (g1.trans g2) r2 (hR _ _ _ _ _ _ _ (λa ha=>g1.dm a ha) hv2)⟩
theorem xD{c a b:Expr}{pos:Pos}{mc:M Bool}{ma mb:M D}(hc:TsE X md P c mc)(ha:VE X md P a ma)(hb:VE X md P b mb):VE X md P (.IfExp c a b pos) (mIf mc ma mb):=SX cL hc ha hb
end
section
variable {K:Frag}{mg:Str->Option Value}{md:List Md}{P:Pt}{R:RR}{ρ:aA}{σ:St}{H F H' F':Hp}{as as':List Addr}{O O':aj}
theorem SlO.set{i:Nat}{m:Md}{v:V}{d:D}(s:SlO K md P ρ σ H F as)(hm:md[i]?=some m)(hns:m≠.s)(hv:gO P K H F as m v d)
  (hj:∀(a:Addr) (ds:List D) (j:Nat) (es:List D),m=.o->v=.ref a->d=.lst ds->i≠j->md[j]?=some .o->ρ[j]?=some (some (.lst es))->σ[j]?≠some (some (.ref a))):SlO K md P (ρ.set i (some d)) (σ.set i (some v)) H F as:=by
 have hi:i<md.length:=(zl.mp hm).1;refine⟨by rw[jh];exact s.len,by rw[jh];exact s.len',s.pd,λj m' d' e1 e2=>?_,λj k a ds es h1 h2 h3 h4 h5 h6=>?_,λx hx=>?_⟩
 ·by_cases h:i=j
  ·subst h;rw[hm] at e1;cases e1;rw[zS (by rw[s.len'];exact hi)] at e2;cases e2;exact⟨v,zS (by rw[s.len];exact hi),hv⟩
  ·rw[zm h] at e2;rw[zm h];exact s.sl j m' d' e1 e2
 ·by_cases hij:i=j
  ·by_cases hik:i=k
   ·rw[<-hij,<-hik]
   ·exfalso
    subst hij;rw[hm] at h1;cases h1;rw[zS (by rw[s.len'];exact hi)] at h3;rw[zS (by rw[s.len];exact hi)] at h5;rw[zm hik] at h4 h6;cases h3;cases h5;exact hj a ds k es rfl rfl rfl hik h2 h4 h6
  ·by_cases hik:i=k
   ·exfalso
    subst hik;rw[hm] at h2;cases h2;rw[zS (by rw[s.len'];exact hi)] at h4;rw[zS (by rw[s.len];exact hi)] at h6;rw[zm hij] at h3 h5;cases h4;cases h6;exact hj a es j ds rfl rfl rfl hij h1 h3 h5
   ·rw[zm hij] at h3 h5;rw[zm hik] at h4 h6;exact s.inj j k a ds es h1 h2 h3 h4 h5 h6
 ·obtain⟨p1,p2,p3⟩:=s.pin x hx
  have hne:i≠x.1:=λz=>by
   rw[<-z,hm] at p1;exact hns (zE p1)
  exact⟨p1,by rw[zm hne];exact p2,by rw[zm hne];exact p3⟩
theorem SlO.setV{i:Nat}{v:V}{d:D}(s:SlO K md P ρ σ H F as)(hm:md[i]?=some .v)(hv:Rp K F as v d):SlO K md P (ρ.set i (some d)) (σ.set i (some v)) H F as :=
 s.set hm (by decide) hv λ_ _ _ _ z=>nomatch z
theorem SlO.setN{i:Nat}{v:V}{d:D}(s:SlO K md P ρ σ H F as)(hm:md[i]?=some .o)(hn:jW d=true)(hv:Rp K F as v d):SlO K md P (ρ.set i (some d)) (σ.set i (some v)) H F as :=
 s.set hm (by decide) (.inl ⟨hn,hv⟩) λ_ _ _ _ _ _ z=>by subst z;cases hn
theorem SlO.setO{i:Nat}{v:V}{d:D}{H0:Hp}(s:SlO K md P ρ σ H0 F as)(g:Gr H0 F as H' F' as')(hm:md[i]?=some .o)(hv:Ow K (λa=>H0 a=none) H' F' as' v d):SlO K md P (ρ.set i (some d)) (σ.set i (some v)) H' F' as':=by
 have s':=s.step g
 rcases hv with⟨hn,hv⟩ | ⟨a,xs,ds,rfl,rfl,e3,e4,e5,e6,e7⟩
 ·exact s'.setN hm hn hv
 ·refine s'.set hm (by decide) (.inr ⟨a,xs,ds,rfl,rfl,e3,e4,e5,λp=>s.pd a p e6,e7⟩) λb ds' j es _ hb hd hij hj he hs=>?_
  cases hb;obtain⟨v,h1,h2⟩:=s.sl j .o _ hj he;rw[hs] at h1;cases h1
  rcases h2 with⟨h2,_⟩ | ⟨a',xs',_,z1,_,z3,_⟩
  ·cases h2
  ·cases z1;rw[e6] at z3;cases z3
end
section
variable {X:Cx}{md:List Md}{P:Pt}{R:RR}
def bC:MS:=λρ O=>.nx ρ O
def aB(a b:MS):MS:=λρ O=>match a ρ O with
 | .nx ρ' O'=>b ρ' O'
 |r=>r
theorem cX:VSs X md P R [] bC:=Nz.imp λD σ H q=>by
 obtain⟨ρ,O,F,as,r,s,k⟩:=q;exact k σ H F as GrS.refl r s
theorem gW{K:Frag}{mg:Str->Option Value}{D:Ends}{H F H1 F1:Hp}{as as1:List Addr}(g:GrS P H F as H1 F1 as1){f:Fl}(k:gf K mg md P R D H F as f):gf K mg md P R D H1 F1 as1 f:=by
 cases f with
 |nx ρ' O'=>exact λσ' H' F' as' g'=>k σ' H' F' as' (g.trans g')
 |bk ρ' O'=>exact λσ' H' F' as' g'=>k σ' H' F' as' (g.trans g')
 |ct ρ' O'=>exact λσ' H' F' as' g'=>k σ' H' F' as' (g.trans g')
 |rt d O'=>exact λσ' H' F' as' g'=>k σ' H' F' as' (g.trans g')
 |ex _ _=>exact k
 |no=>exact k
theorem aN{st:Stmt}{rest:List Stmt}{a b:MS}(h1:VS X md P R st a)(h2:VSs X md P R rest b):VSs X md P R (st::rest) (aB a b):=(NB h1 h2).imp λD σ H q=>by
 obtain⟨ρ,O,F,as,r,s,k⟩:=q;refine⟨ρ,O,F,as,r,s,?_⟩;unfold aB at k
 cases e:a ρ O with
 |nx ρ' O' =>
  rw[e] at k;dsimp only at k
  exact λσ' H' F' as' g r' s'=>⟨ρ',O',F',as',r',s',gW g k⟩
 |bk ρ' O'=>rw[e] at k;exact k
 |ct ρ' O'=>rw[e] at k;exact k
 |rt d O'=>rw[e] at k;exact k
 |ex x O'=>rw[e] at k;exact k
 |no=>rw[e] at k;exact k
theorem aW{st:Stmt}{a:MS}(h1:VS X md P R st a):VSs X md P R [st] a:=Ef h1
def xF:MS:=λ_ _=>.no
def qL(m:M D):MS:=λρ O=>match m ρ O with
 | .ok _ O'=>.nx ρ O'
 | .ex x O'=>.ex x O'
 | .no=>.no
theorem S5{e:Expr}{pos:Pos}{m:M D}(h:SE X md P e m)(hs:swapsWith e none pos.line X.env=pure false:=by rfl):VS X md P R (.Expr e pos) (qL m):=(qy h hs).imp λD σ H q=>by
 obtain⟨ρ,O,F,as,r,s,k⟩:=q;unfold qL at k
 cases e:m ρ O with
 |ok d O' =>
  rw[e] at k;exact⟨ρ,_,F,as,_,_,r,s,e,λv H' F' as' g r' _=>k σ H' F' as' g.toS r' (s.step g)⟩
 |ex x O'=>rw[e] at k;exact False.elim k
 |no=>rw[e] at k;exact False.elim k
def aQ(m:M D):MS:=λρ O=>match m ρ O with
 | .ok d O'=>.rt d O'
 | .ex x O'=>.ex x O'
 | .no=>.no
theorem Gx(hR:gP R){e:Expr}{pos:Pos}{m:M D}(h:PE X e (tM X.K X.mg md P R m)):VS X md P R (.Return (some e) pos) (aQ m):=(Eg h).imp λD σ H q=>by
 obtain⟨ρ,O,F,as,r,s,k⟩:=q;unfold aQ at k
 cases e:m ρ O with
 |ok d O' =>
  rw[e] at k;exact⟨ρ,_,F,as,_,_,r,s,e,λv H' F' as' g r' hv=>k v H' F' as' g.toS r' (hR _ _ _ _ _ _ _ (λa ha p=>s.pd a p ha) hv)⟩
 |ex x O'=>rw[e] at k;exact False.elim k
 |no=>rw[e] at k;exact False.elim k
theorem bM{e:Expr}{pos:Pos}{m:M D}(h:VE X md P e m):VS X md P (rV X.K) (.Return (some e) pos) (aQ m):=Gx cL h
theorem xG{e:Expr}{pos:Pos}{m:M D}(h:OE X md P e m):VS X md P (rO X.K) (.Return (some e) pos) (aQ m):=Gx gQ h
theorem t8(i:Nat){x:Str}{p pos:Pos}(hm:md[i]?=some .o:=by rfl)(hN:X.N[i]?=some x:=by rfl)(hv:Vis X.env.scope x:=by first | exact Or.inl rfl | exact Or.inr (Or.inl rfl) | exact Or.inr (Or.inr rfl))
  (hd:(x == ("__debug__":Str))=false:=by decide) (hcd:(x == ("__classdict__":Str))=false:=by decide):VS X md P (rO X.K) (.Return (some (.Name x p)) pos) (aQ (aa i)):=(Eg (lC (i:=i) hN hv hd hcd)).imp λD σ H q=>by
 obtain⟨ρ,O,F,as,r,s,k⟩:=q;unfold aQ at k
 cases e:aa i ρ O with
 |ok d O' =>
  rw[e] at k;obtain⟨e1,rfl⟩:=tX e;obtain⟨v,h1,h2⟩:=s.sl i .o d hm e1;refine⟨v,h1,k v H F as GrS.refl r ?_⟩
  rcases h2 with h2 | ⟨a,xs,ds,e1,e2,e3,e0,e4,e5,e6⟩
  ·exact .inl h2
  ·exact .inr ⟨a,xs,ds,e1,e2,e3,e0,e4,e5,e6⟩
 |ex x O'=>rw[e] at k;exact False.elim k
 |no=>rw[e] at k;exact False.elim k
def bj(t:M Bool)(a b:MS):MS:=λρ O=>match t ρ O with
 | .ok c O'=>if c=true then a ρ O' else b ρ O'
 | .ex x O'=>.ex x O'
 | .no=>.no
theorem cY{c:Expr}{a b:List Stmt}{pos:Pos}{t:M Bool}{ma mb:MS}(hc:TsE X md P c t)(ha:VSs X md P R a ma)(hb:VSs X md P R b mb):VS X md P R (.If c a b pos) (bj t ma mb):=(NZ hc ha hb).imp λD σ H q=>by
 obtain⟨ρ,O,F,as,r,s,k⟩:=q;unfold bj at k
 cases e:t ρ O with
 |ok c O' =>
  rw[e] at k;refine⟨ρ,_,F,as,_,_,r,s,e,λH1 F1 as1 g r1=>?_⟩;dsimp only at k
  cases c with
  |true =>
   rw[if_pos rfl] at k ⊢;exact⟨ρ,O',F1,as1,r1,s.step g,gW g.toS k⟩
  |false =>
   rw[if_neg zq] at k ⊢;exact⟨ρ,O',F1,as1,r1,s.step g,gW g.toS k⟩
 |ex x O'=>rw[e] at k;exact False.elim k
 |no=>rw[e] at k;exact False.elim k
def aH(i:Nat)(m:M D):MS:=λρ O=>match m ρ O with
 | .ok d O'=>.nx (ρ.set i (some d)) O'
 | .ex x O'=>.ex x O'
 | .no=>.no
theorem Gy{K:Frag}{mg:Str->Option Value}{i:Nat}{m:M D}{t:TE}(hm:md[i]?=some .v)(ht:∀σ H Q,tM K mg md P (rV K) m σ H Q->t σ H Q){D:Ends}{σ:St}{H:Hp}(q:tMS K mg md P R (aH i m) D σ H):tH t (qz i) D σ H:=by
 obtain⟨ρ,O,F,as,r,s,k⟩:=q;unfold aH at k
 cases e:m ρ O with
 |ok d O' =>
  rw[e] at k;exact ht _ _ _ ⟨ρ,_,F,as,_,_,r,s,e,λv H' F' as' g r' hv=>k _ H' F' as' g.toS r' ((s.step g).setV hm hv)⟩
 |ex x O'=>rw[e] at k;exact False.elim k
 |no=>rw[e] at k;exact False.elim k
theorem S6{K:Frag}{mg:Str->Option Value}{i:Nat}{m:M D}{t:TE}(hm:md[i]?=some .o)(ht:∀σ H Q,tM K mg md P (rO K) m σ H Q->t σ H Q){D:Ends}{σ:St}{H:Hp}(q:tMS K mg md P R (aH i m) D σ H):tH t (qz i) D σ H:=by
 obtain⟨ρ,O,F,as,r,s,k⟩:=q;unfold aH at k
 cases e:m ρ O with
 |ok d O' =>
  rw[e] at k;exact ht _ _ _ ⟨ρ,_,F,as,_,_,r,s,e,λv H' F' as' g r' hv=>k _ H' F' as' g.toS r' (s.setO g hm hv)⟩
 |ex x O'=>rw[e] at k;exact False.elim k
 |no=>rw[e] at k;exact False.elim k
theorem bG{i:Nat}{x:Str}{e:Expr}{pos pos':Pos}{m:M D}(hN:X.N.Nodup)(hi:X.N[i]?=some x)(hx:Loc X.env.scope x)(h:VE X md P e m)(hm:md[i]?=some .v:=by rfl)(hs:swapsWith e (some (.Name x pos')) pos.line X.env=pure false:=by rfl)
  (hf:X.fn x=true\/X.env.scope.names.lookup x=some .local:=by first | exact .inl rfl | exact .inr rfl | assumption):VS X md P R (.Assign [.Name x pos'] e pos) (aH i m):=(Eh (i:=i) hN hi hx h hs hf).imp λD σ H q=>Gy hm (λ_ _ _ z=>z) q
theorem uc{i:Nat}{x:Str}{e:Expr}{pos pos':Pos}{m:M D}(hN:X.N.Nodup)(hi:X.N[i]?=some x)(hx:Loc X.env.scope x)(h:OE X md P e m)(hm:md[i]?=some .o:=by rfl)(hs:swapsWith e (some (.Name x pos')) pos.line X.env=pure false:=by rfl)
  (hf:X.fn x=true\/X.env.scope.names.lookup x=some .local:=by first | exact .inl rfl | exact .inr rfl | assumption):VS X md P R (.Assign [.Name x pos'] e pos) (aH i m):=(Eh (i:=i) hN hi hx h hs hf).imp λD σ H q=>S6 hm (λ_ _ _ z=>z) q
abbrev MG:=D->aA->Option aA
def tMG(K:Frag)(mg:Str->Option Value)(md:List Md)(P:Pt)(g:MG):TG:=λv σ H Q=>∃ρ O F as d ρ',RlO K mg O H F as/\SlO K md P ρ σ H F as/\Rp K F as v d/\g d ρ=some ρ'/\∀σ',SlO K md P ρ' σ' H F as->Q σ' H
def S7(K:Frag)(mg:Str->Option Value)(md:List Md)(P:Pt)(g:List D->aA->Option aA):TGs:=λvs σ H Q=>∃ρ O F as ds ρ',RlO K mg O H F as/\SlO K md P ρ σ H F as/\Rps K F as vs ds/\g ds ρ=some ρ'/\∀σ',SlO K md P ρ' σ' H F as->Q σ' H
def VG(X:Cx)(md:List Md)(P:Pt)(tg:Expr)(g:MG):Prop:=PG X tg (tMG X.K X.mg md P g)
def VGs(X:Cx)(md:List Md)(P:Pt)(tg:List Expr)(g:List D->aA->Option aA):Prop:=PGs X tg (S7 X.K X.mg md P g)
theorem PG.imp{e:Expr}{t t':TG}(h:PG X e t)(k:∀v σ H Q,t' v σ H Q->t v σ H Q):PG X e t':=λpins s σ H v u Q I r q=>h pins s σ H v u Q I r (k v σ H Q q)
theorem PGs.imp{e:List Expr}{t t':TGs}(h:PGs X e t)(k:∀v σ H Q,t' v σ H Q->t v σ H Q):PGs X e t':=λpins s σ H v u Q I r q=>h pins s σ H v u Q I r (k v σ H Q q)
def mgN(i:Nat):MG:=λd ρ=>some (ρ.set i (some d))
theorem bY{i:Nat}{x:Str}{pos:Pos}(hN:X.N.Nodup)(hi:X.N[i]?=some x)(hx:Loc X.env.scope x)(hm:md[i]?=some .v:=by rfl)(hf:X.fn x=true\/X.env.scope.names.lookup x=some .local:=by first | exact .inl rfl | exact .inr rfl | assumption):VG X md P (.Name x pos) (mgN i):=
 (N5 (i:=i) hN hi hx hf).imp λv σ H Q q=>by
  obtain⟨ρ,O,F,as,d,ρ',r,s,hv,e,k⟩:=q;cases e;exact k _ (s.setV hm hv)
def oU:List D->aA->Option aA:=λds ρ=>match ds with
 | []=>some ρ
 | _=>none
def fD(g:MG)(r:List D->aA->Option aA):List D->aA->Option aA:=λds ρ=>match ds with
 |d::ds=>(g d ρ).bind λρ1=>r ds ρ1
 | []=>none
theorem Gz:VGs X md P [] oU:=N8.imp λv σ H Q q=>by
 obtain⟨ρ,O,F,as,ds,ρ',r,s,hv,e,k⟩:=q
 cases ds with
 |nil=>cases e;exact⟨hv.un0,k _ s⟩
 |cons _ _=>cases e
theorem oV{e:Expr}{es:List Expr}{g:MG}{r:List D->aA->Option aA}(h1:VG X md P e g)(h2:VGs X md P es r)(hs:(assignEach (e::es) X.env).map (·.2)=assign e X.env::(assignEach es X.env).map (·.2):=by rfl):VGs X md P (e::es) (fD g r):=
 (Oa h1 h2 hs).imp λv σ H Q q=>by
  obtain⟨ρ,O,F,as,ds,ρ',r0,s,hv,e,k⟩:=q
  cases ds with
  |nil=>cases e
  |cons d ds =>
   obtain⟨x,rs,rfl,hx,hr⟩:=hv.un;unfold fD at e;dsimp only at e
   cases e1:g d ρ with
   |none=>rw[e1] at e;cases e
   |some ρ1 =>
    rw[e1] at e;exact⟨x,rs,rfl,ρ,O,F,as,d,ρ1,r0,s,hx,e1,λσ' s'=>⟨ρ1,O,F,as,ds,ρ',r0,s',hr,e,k⟩⟩
def m5(n:Nat)(r:List D->aA->Option aA):MG:=λd ρ=>match d with
 | .tup ds=>if ds.length=n then r ds ρ else none
 | _=>none
theorem GC{es:List Expr}{pos:Pos}{k:Nat}{r:List D->aA->Option aA}(n:Nat)(hc:X.calm=true)(h:VGs X md P es r)(hn:(assignEach es X.env).length=n:=by rfl)(hst:(assignEach es X.env).findIdx? (·.1)=none:=by rfl):VG X md P (.Tuple es k pos) (m5 n r):=
 (Od hc h hn hst).imp λv σ H Q q=>by
  obtain⟨ρ,O,F,as,d,ρ',r0,s,hv,e,k⟩:=q
  cases d with
  |tup ds =>
   obtain⟨a,xs,rfl,h1,h2⟩:=hv.unT;unfold m5 at e;dsimp only at e;split at e
   ·rename_i hl;exact⟨a,xs,rfl,Same.seqT r0.fh h1,by rw[h2.length];exact hl,ρ,O,F,as,ds,ρ',r0,s,h2,e,k⟩
   ·cases e
  | _=>cases e
def S8(m:M D)(g:MG):MS:=λρ O=>match m ρ O with
 | .ok d O'=>match g d ρ with
  |some ρ'=>.nx ρ' O'
  |none=>.no
 | .ex x O'=>.ex x O'
 | .no=>.no
end
structure m8(K:Frag)(mg:Str->Option Value)(P:Pt)(J:It)(ds:List D)(H F:Hp)(as:List Addr):Prop where
 turn:∀(i:Nat) (d:D) (H2 F2:Hp) (as2:List Addr),GrS P H F as H2 F2 as2->(∃O,RlO K mg O H2 F2 as2)->ds[i]?=some d->J.go i H2/\∀x H3,J.yld i H2 x H3->∃F3,Gr H2 F2 as2 H3 F3 as2/\(∀O,RlO K mg O H2 F2 as2->RlO K mg O H3 F3 as2)/\Rp K F3 as2 x d
 stop:∀(H2 F2:Hp) (as2:List Addr),GrS P H F as H2 F2 as2->(∃O,RlO K mg O H2 F2 as2)->J.stop ds.length H2
structure GD(K:Frag)(mg:Str->Option Value)(J:It)(ds:List D)(H F:Hp)(as:List Addr):Prop where
 turn:∀(i:Nat) (d:D) (H2 F2:Hp) (as2:List Addr),Gr H F as H2 F2 as2->(∃O,RlO K mg O H2 F2 as2)->ds[i]?=some d->J.go i H2/\∀x H3,J.yld i H2 x H3->∃F3,Gr H2 F2 as2 H3 F3 as2/\(∀O,RlO K mg O H2 F2 as2->RlO K mg O H3 F3 as2)/\Rp K F3 as2 x d
 stop:∀(H2 F2:Hp) (as2:List Addr),Gr H F as H2 F2 as2->(∃O,RlO K mg O H2 F2 as2)->J.stop ds.length H2
theorem m8.e{K:Frag}{mg:Str->Option Value}{P:Pt}{J:It}{ds:List D}{H F:Hp}{as:List Addr}(h:m8 K mg P J ds H F as):GD K mg J ds H F as:=⟨λi d H2 F2 as2 g=>h.turn i d H2 F2 as2 g.toS,λH2 F2 as2 g=>h.stop H2 F2 as2 g.toS⟩
def GF(K:Frag)(mg:Str->Option Value)(md:List Md)(P:Pt)(m:M (List D)):TI:=λσ H Q=>∃ρ O F as ds O',RlO K mg O H F as/\SlO K md P ρ σ H F as/\m ρ O=.ok ds O' /\
 ∀J H' F' as',Gr H F as H' F' as'->RlO K mg O' H' F' as'->GD K mg J ds H' F' as'->Q J H'
def VIc(X:Cx)(md:List Md)(P:Pt)(tg iter:Expr)(m:M (List D)):Prop:=PI X tg iter (GF X.K X.mg md P m)
def tMI(K:Frag)(mg:Str->Option Value)(md:List Md)(P:Pt)(m:M (List D)):TI:=λσ H Q=>∃ρ O F as ds O',RlO K mg O H F as/\SlO K md P ρ σ H F as/\m ρ O=.ok ds O' /\
 ∀J H' F' as',Gr H F as H' F' as'->RlO K mg O' H' F' as'->m8 K mg P J ds H' F' as'->Q J H'
def VI(X:Cx)(md:List Md)(P:Pt)(tg iter:Expr)(m:M (List D)):Prop:=PI X tg iter (tMI X.K X.mg md P m)
section
variable {X:Cx}{md:List Md}{P:Pt}{R:RR}
theorem PI.imp{tg e:Expr}{t t':TI}(h:PI X tg e t)(k:∀σ H Q,t' σ H Q->t σ H Q):PI X tg e t':=λpins s σ H Q I q=>h pins s σ H Q I (k σ H Q q)
theorem oW{tg e:Expr}{m:M (List D)}(h:VI X md P tg e m):VIc X md P tg e m:=h.imp λσ H Q q=>by
 obtain⟨ρ,O,F,as,ds,O',r,s,e,k⟩:=q;exact⟨ρ,O,F,as,ds,O',r,s,e,λJ H' F' as' g r' hJ=>k J H' F' as' g r' hJ.e⟩
def bJ(g:MG)(b:MS):List D->MS
 | [],ρ,O=>.nx ρ O
 |d::ds,ρ,O=>match g d ρ with
  |none=>.no
  |some ρ1=>match b ρ1 O with
   | .nx ρ2 O2=>bJ g b ds ρ2 O2
   | .ct ρ2 O2=>bJ g b ds ρ2 O2
   | .bk ρ2 O2=>.nx ρ2 O2
   |r=>r
def cu(m:M (List D))(g:MG)(b:MS):MS:=λρ O=>match m ρ O with
 | .ok ds O'=>bJ g b ds ρ O'
 | .ex x O'=>.ex x O'
 | .no=>.no
theorem S9{K:Frag}{mg:Str->Option Value}{m:M (List D)}{g:MG}{b:MS}{D:Ends}{σ:St}{H:Hp}(q:tMS K mg md P R (cu m g b) D σ H):wL (tMI K mg md P m) (tMG K mg md P g) (tMS K mg md P R b) D σ H:=by
 obtain⟨ρ,O,F,as,r,s,k⟩:=q;unfold cu at k
 cases e:m ρ O with
 |ex x O'=>rw[e] at k;exact False.elim k
 |no=>rw[e] at k;exact False.elim k
 |ok ds O1 =>
  rw[e] at k;dsimp only at k;refine⟨ρ,_,F,as,_,_,r,s,e,λJ H1 F1 as1 g1 r1 hJ=>?_⟩;have k1:=gW (R:=R) g1.toS k;refine⟨λi m σ' H'=>m=ds.length - i/\i<=ds.length/\∃ρ' O' F' as',GrS P H1 F1 as1 H' F' as'/\RlO K mg O' H' F' as'/\SlO K md P ρ' σ' H' F' as'/\gf K mg md P R D H' F' as' (bJ g b (ds.drop i) ρ' O'),⟨ds.length,by simp,Nat.zero_le _,ρ,O1,F1,as1,GrS.refl,r1,s.step g1,by rw[List.drop_zero];exact k1⟩,?_⟩;rintro i n σ' H' ⟨rfl,hi,ρ',O',F',as',g',r',s',k'⟩
  by_cases hlt:i<ds.length
  ·have hd:=zu hlt;obtain⟨go,yl⟩:=hJ.turn i _ H' F' as' g' ⟨O',r'⟩ hd;rw[List.drop_eq_getElem_cons hlt] at k';refine .inr ⟨go,λσ2 H2=>∃ρ2 O2 F2 as2,GrS P H1 F1 as1 H2 F2 as2/\RlO K mg O2 H2 F2 as2/\SlO K md P ρ2 σ2 H2 F2 as2/\gf K mg md P R D H2 F2 as2 (bJ g b (ds.drop (i+1)) ρ2 O2),λσ2 H2 h2=>⟨ds.length - (i+1),by omega,rfl,hlt,h2⟩,λx H3 y=>?_⟩;obtain⟨F3,g3,r3,hx⟩:=yl x H3 y;have r3':=r3 O' r';unfold bJ at k'
   cases eg:g ds[i] ρ' with
   |none=>rw[eg] at k';exact False.elim k'
   |some ρ1 =>
    rw[eg] at k';dsimp only at k';refine⟨ρ',O',F3,as',ds[i],ρ1,r3',s'.step g3,hx,eg,λσ4 s4=>?_⟩;refine⟨ρ1,O',F3,as',r3',s4,?_⟩;have g4:GrS P H1 F1 as1 H3 F3 as':=g'.trans g3.toS
    have keep:=λ{f}=>gW (K:=K) (mg:=mg) (md:=md) (R:=R) (D:=D) (f:=f) (g3.toS (P:=P))
    cases eb:b ρ1 O' with
    |nx ρ2 O2 =>
     rw[eb] at k'
     exact λσ2 H2 F2 as2 g2 r2 s2=>⟨ρ2,O2,F2,as2,g4.trans g2,r2,s2,gW g2 (keep k')⟩
    |ct ρ2 O2 =>
     rw[eb] at k'
     exact λσ2 H2 F2 as2 g2 r2 s2=>⟨ρ2,O2,F2,as2,g4.trans g2,r2,s2,gW g2 (keep k')⟩
    |bk ρ2 O2 =>
     rw[eb] at k'
     exact λσ2 H2 F2 as2 g2 r2 s2=>k' σ2 H2 F2 as2 (g3.toS.trans g2) r2 s2
    |rt d O2 =>
     rw[eb] at k'
     exact λv H2 F2 as2 g2 r2 s2=>k' v H2 F2 as2 (g3.toS.trans g2) r2 s2
    |ex _ _=>rw[eb] at k';exact False.elim k'
    |no=>rw[eb] at k';exact False.elim k'
  ·have hi':i=ds.length:=by omega
   subst hi';refine .inl ⟨hJ.stop H' F' as' g' ⟨O',r'⟩,?_⟩;rw[List.drop_length] at k';exact k' σ' H' F' as' GrS.refl r' s'
theorem eG{tg iter:Expr}{body:List Stmt}{pos:Pos}{m:M (List D)}{g:MG}{b:MS}(hc:X.calm=true)(hi:VI X md P tg iter m)(hg:VG X md P tg g)(hb:VSs X md P R body b)(hp:PassesOwn (model X.prog X.w) X.A X.env X.xe:=by exact PassesOwn.never)
  (hs:∀x,foldedSetIterable iter X.env x=pure x:=by intro _;rfl):VS X md P R (.For tg iter body [] pos) (cu m g b):=(Ek hp hc hi hg hb hs).imp λ_ _ _ q=>S9 q
def fQ(t:M Bool)(b:MS):Nat->MS
 | 0,_,_=>.no
 |n+1,ρ,O=>match t ρ O with
  | .ok true O1=>match b ρ O1 with
   | .nx ρ2 O2=>fQ t b n ρ2 O2
   | .ct ρ2 O2=>fQ t b n ρ2 O2
   | .bk ρ2 O2=>.nx ρ2 O2
   |r=>r
  | .ok false O1=>.nx ρ O1
  | .ex x O'=>.ex x O'
  | .no=>.no
def j0(n:Nat)(t:M Bool)(b:MS):MS:=fQ t b n
theorem Tc{K:Frag}{mg:Str->Option Value}{n:Nat}{t:M Bool}{b:MS}{D:Ends}{σ:St}{H:Hp}(q:tMS K mg md P R (j0 n t b) D σ H):Ei (tMT K mg md P t) (tMS K mg md P R b) D σ H:=by
 refine⟨λn σ' H'=>tMS K mg md P R (fQ t b n) D σ' H',⟨n,q⟩,?_⟩;rintro m σ1 H1 ⟨ρ,O,F,as,r,s,k⟩
 cases m with
 |zero=>exact False.elim k
 |succ m =>
  unfold fQ at k
  cases e:t ρ O with
  |ex x O'=>rw[e] at k;exact False.elim k
  |no=>rw[e] at k;exact False.elim k
  |ok c O1 =>
   rw[e] at k;refine⟨ρ,_,F,as,_,_,r,s,e,λH2 F2 as2 g2 r2=>?_⟩
   cases c with
   |false =>
    rw[if_neg zq];exact k σ1 H2 F2 as2 g2.toS r2 (s.step g2)
   |true =>
    rw[if_pos rfl];refine⟨λσ' H'=>tMS K mg md P R (fQ t b m) D σ' H',λσ' H' h'=>⟨m,jr m,h'⟩,ρ,O1,F2,as2,r2,s.step g2,?_⟩;dsimp only at k
    have keep:=λ{f}=>gW (K:=K) (mg:=mg) (md:=md) (R:=R) (D:=D) (f:=f) (g2.toS (P:=P))
    cases eb:b ρ O1 with
    |nx ρ2 O2 =>
     rw[eb] at k
     exact λσ3 H3 F3 as3 g3 r3 s3=>⟨ρ2,O2,F3,as3,r3,s3,gW g3 (keep k)⟩
    |ct ρ2 O2 =>
     rw[eb] at k
     exact λσ3 H3 F3 as3 g3 r3 s3=>⟨ρ2,O2,F3,as3,r3,s3,gW g3 (keep k)⟩
    |bk ρ2 O2 =>
     rw[eb] at k
     exact λσ3 H3 F3 as3 g3 r3 s3=>k σ3 H3 F3 as3 (g2.toS.trans g3) r3 s3
    |rt d O2 =>
     rw[eb] at k
     exact λσ3 H3 F3 as3 g3 r3 s3=>k σ3 H3 F3 as3 (g2.toS.trans g3) r3 s3
    |ex _ _=>rw[eb] at k;exact False.elim k
    |no=>rw[eb] at k;exact False.elim k
theorem GJ(n:Nat){c:Expr}{body:List Stmt}{pos:Pos}{t:M Bool}{b:MS}(hc:TsE X md P c t)(hb:VSs X md P R body b)(hp:PassesOwn (model X.prog X.w) X.A X.env X.xe:=by exact PassesOwn.never):VS X md P R (.While c body [] pos) (j0 n t b):=
 (Oe hp hc hb).imp λ_ _ _ q=>Tc q
def dw(g:MG)(t:M Bool)(m:M D):List D->aA->aj->List D->Res (List D)
 | [],ρ,O,acc=>.ok acc O
 |d::ds,ρ,O,acc=>match g d ρ with
  |none=>.no
  |some ρ1=>match t ρ1 O with
   | .ok true O1=>match m ρ1 O1 with
    | .ok y O2=>dw g t m ds ρ1 O2 (acc++[y])
    | .ex x O'=>.ex x O'
    | .no=>.no
   | .ok false O1=>dw g t m ds ρ1 O1 acc
   | .ex x O'=>.ex x O'
   | .no=>.no
def iT(own:Nat)(cap:List Nat)(ρ:aA):aA:=List.replicate own none++cap.map λj=>(ρ[j]?).join
def cN(m:M (List D))(own:Nat)(cap:List Nat)(g:MG)(t:M Bool)(e:M D):M D:=λρ O=>(m ρ O).bind λds O1=>if ds.length<=1000000 then(dw g t e ds (iT own cap ρ) O1 []).bind λys O2=>.ok (.lst ys) O2 else .no
def eY:M Bool:=λ_ O=>.ok true O
def cMd(own:Nat)(cap:List Nat)(md:List Md):List Md:=List.replicate own .v++cap.map λj=>match md[j]? with
 |some .v=>.v
 | _=>.s
theorem Td{K:Frag}{ρ:aA}{σ:St}{H F:Hp}{as:List Addr}{own:List Str}{cap:List Nat}(s:SlO K md P ρ σ H F as)(hcap:∀j∈cap,j<md.length):SlO K (cMd own.length cap md) (Pt.all H) (iT own.length cap ρ) (compSt own cap σ) H F as:=by
 refine⟨by simp[compSt,cMd],by simp[iT,cMd],λa h=>h,λi m d e1 e2=>?_,λi j a ds es h1=>?_,λ_ z=>nomatch z⟩
 ·unfold iT at e2;unfold cMd at e1;unfold compSt
  by_cases hi:i<own.length
  ·rw[zK (by simpa using hi),List.getElem?_replicate_of_lt hi] at e2;cases e2
  ·have hi':own.length<=i:=Nat.le_of_not_lt hi;rw[zJ (by simpa using hi'),List.length_replicate,zy] at e2 e1;rw[zJ (by simpa using hi'),zj,zy]
   cases q:cap[i - own.length]? with
   |none=>rw[q] at e2;cases e2
   |some j =>
    rw[q] at e1 e2;simp only[Option.map_some,Option.some.injEq] at e1 e2 ⊢
    cases q2:ρ[j]? with
    |none=>rw[q2] at e2;cases e2
    |some o =>
     rw[q2] at e2;have e2':o=some d:=e2;subst e2';obtain⟨m0,v,h1,h2,h3⟩:=s.get q2;rw[h1] at e1;refine⟨v,by rw[h2];rfl,?_⟩
     cases m0 with
     |v=>dsimp only at e1;subst e1;exact h3
     |s =>
      dsimp only at e1;subst e1
      rcases h3 with h3 | ⟨a,xs,ds,e1,e2,e3,e4,e5,e6⟩
      ·exact .inl h3
      ·exact .inr ⟨a,xs,ds,e1,e2,e3,e4,(show H a≠none by rw[e3];exact λz=>nomatch z),e6⟩
     |o =>
      dsimp only at e1;subst e1
      rcases h3 with⟨_,h3⟩ | ⟨a,xs,ds,e1,e2,e3,e0,e4,e5,e6⟩
      ·exact .inl h3
      ·exact .inr ⟨a,xs,ds,e1,e2,e3,e4,(show H a≠none by rw[e3];exact λz=>nomatch z),e6⟩
 ·exfalso
  unfold cMd at h1
  by_cases hi:i<own.length
  ·rw[zK (by simpa using hi),List.getElem?_replicate_of_lt hi] at h1;cases h1
  ·have hi':own.length<=i:=Nat.le_of_not_lt hi;rw[zJ (by simpa using hi'),List.length_replicate,zy] at h1
   cases q:cap[i - own.length]? with
   |none=>rw[q] at h1;cases h1
   |some j =>
    rw[q] at h1;simp only[Option.map_some,Option.some.injEq] at h1
    split at h1<;>cases h1
end
section
variable {X:Cx}{md:List Md}{P:Pt}{R:RR}
def xM(K:Frag)(mg:Str->Option Value)(md:List Md)(R:RR)(m:M D):TE:=λσ H Q=>∃P,tM K mg md P R m σ H Q
def xMT(K:Frag)(mg:Str->Option Value)(md:List Md)(m:M Bool):TT:=λσ H Q=>∃P,tMT K mg md P m σ H Q
def xMG(K:Frag)(mg:Str->Option Value)(md:List Md)(g:MG):TG:=λv σ H Q=>∃P,tMG K mg md P g v σ H Q
theorem xm{e:Expr}{m:M D}(h:∀P,PE X e (tM X.K X.mg md P R m)):PE X e (xM X.K X.mg md R m):=λpins s σ H Q I ⟨P,q⟩=>h P pins s σ H Q I q
theorem xmg{e:Expr}{g:MG}(h:∀P,VG X md P e g):PG X e (xMG X.K X.mg md g):=λpins s σ H v u Q I r ⟨P,q⟩=>h P pins s σ H v u Q I r q
theorem xmt{e:List Expr}{m:M Bool}(h:∀P,lE X e (tMT X.K X.mg md P m)):lE X e (xMT X.K X.mg md m):=λpins s σ H Q I ⟨P,q⟩=>h P pins s σ H Q I q
def VIf(X:Cx)(md:List Md)(P:Pt)(e:List Expr)(m:M Bool):Prop:=lE X e (tMT X.K X.mg md P m)
theorem nj:VIf X md P [] eY:=λpins s σ H Q I q=>by
 obtain⟨ρ,O,F,as,d,O',r,s,e,k⟩:=q;cases e;exact RL pins _ σ H Q I (k H F as Gr.refl r)
theorem qM{c:Expr}{m:M Bool}(h:TsE X md P c m):VIf X md P [c] m:=RM h
theorem GK{K:Frag}{mg:Str->Option Value}{m:M (List D)}{own:List Str}{cap:List Nat}{g:MG}{t:M Bool}{e:M D}(hcap:∀j∈cap,j<md.length){σ:St}{H:Hp}{Q:VK}(q:tM K mg md P (rO K) (cN m own.length cap g t e) σ H Q):
  xu (GF K mg md P m) own cap (xMG K mg (cMd own.length cap md) g) (xMT K mg (cMd own.length cap md) t) (xM K mg (cMd own.length cap md) (rV K) e) σ H Q:=by
 obtain⟨ρ,O,F,as,d,OZ,r,s,eq,k⟩:=q;obtain⟨ds,O1,e1,eq⟩:=Res.bind_ok eq;split at eq
 ·rename_i hz;obtain⟨yf,O2,e2,eq⟩:=Res.bind_ok eq;cases eq;refine⟨ρ,_,F,as,_,_,r,s,e1,λJ H1 F1 as1 g1 r1 hJ=>?_⟩;have sb:=Td (own:=own) (s.step g1) hcap
  refine⟨λi n ys σ' H'=>n=ds.length - i/\i<=ds.length/\∃ρ' O' F' as' acc,Gr H1 F1 as1 H' F' as'/\RlO K mg O' H' F' as'/\SlO K (cMd own.length cap md) (Pt.all H1) ρ' σ' H' F' as'/\Rps K F' as' ys acc/\acc.length<=i /\
   dw g t e (ds.drop i) ρ' O' acc=.ok yf OZ,⟨ds.length,by simp,Nat.zero_le _,iT own.length cap ρ,O1,F1,as1,[],Gr.refl,r1,sb,Rps.nil,zd _,by rw[List.drop_zero];exact e2⟩,?_⟩
  rintro i n ys σ' H' ⟨rfl,hi,ρ',O',F',as',acc,g',r',s',hy,hl,ec⟩
  by_cases hlt:i<ds.length
  ·obtain⟨go,yl⟩:=hJ.turn i _ H' F' as' g' ⟨O',r'⟩ (zu hlt)
   refine .inr ⟨go,?_,λys σ2 H2=>∃ρ2 O3 F2 as2 acc2,Gr H1 F1 as1 H2 F2 as2/\RlO K mg O3 H2 F2 as2/\SlO K (cMd own.length cap md) (Pt.all H1) ρ2 σ2 H2 F2 as2/\Rps K F2 as2 ys acc2/\acc2.length<=i+1 /\
    dw g t e (ds.drop (i+1)) ρ2 O3 acc2=.ok yf OZ,λys2 σ2 H2 h2=>⟨ds.length - (i+1),by omega,rfl,hlt,h2⟩,λx H3 y=>?_⟩
   ·rw[hy.length]
    have:=ir hz
    omega
   obtain⟨F3,g3,r3,hx⟩:=yl x H3 y;have r3':=r3 O' r';have g13:=g'.trans g3;rw[List.drop_eq_getElem_cons hlt] at ec;unfold dw at ec
   cases eg:g ds[i] ρ' with
   |none=>rw[eg] at ec;cases ec
   |some ρ1 =>
    rw[eg] at ec;dsimp only at ec;refine⟨_,ρ',O',F3,as',ds[i],ρ1,r3',s'.step g3,hx,eg,λσ4 s4=>?_⟩
    cases et:t ρ1 O' with
    |ex _ _=>rw[et] at ec;cases ec
    |no=>rw[et] at ec;cases ec
    |ok c O4 =>
     rw[et] at ec;refine⟨_,ρ1,O',F3,as',c,O4,r3',s4,et,λH5 F5 as5 g5 r5=>?_⟩
     cases c with
     |false =>
      rw[if_neg zq];exact⟨ρ1,O4,F5,as5,acc,g13.trans g5,r5,s4.step g5,(hy.gr g3).gr g5,by omega,ec⟩
     |true =>
      rw[if_pos rfl];dsimp only at ec
      cases em:e ρ1 O4 with
      |ex _ _=>rw[em] at ec;cases ec
      |no=>rw[em] at ec;cases ec
      |ok yd O6 =>
       rw[em] at ec;refine⟨_,ρ1,O4,F5,as5,yd,O6,r5,s4.step g5,em,λvy H7 F7 as7 g7 r7 hvy=>?_⟩;exact⟨ρ1,O6,F7,as7,acc++[yd],(g13.trans g5).trans g7,r7,(s4.step g5).step g7,(((hy.gr g3).gr g5).gr g7).snoc hvy,by rw[zv];show acc.length+1<=i+1;omega,ec⟩
  ·have hi':i=ds.length:=by omega
   subst hi';rw[List.drop_length] at ec;cases ec;refine .inl ⟨hJ.stop H' F' as' g' ⟨_,r'⟩,?_,λp hp=>?_⟩
   ·rw[hy.length];exact zH hl (ir hz)
   ·have hF:F' p=none:=by
     cases q:F' p with
     |none=>rfl
     |some o=>rw[r'.fh p o q] at hp;cases hp
    exact k _ _ F' as' ((g1.trans g').trans (Gr.lay hp)) (r'.lay hp) (.inr ⟨p,ys,yf,rfl,rfl,bF,hF,λz=>r'.all z hp,(g1.trans g').dm p hp,hy⟩)
 ·cases eq
variable {tg iter elt:Expr}{ifs:List Expr}{scope:Scope}{pos:Pos}{mi:M (List D)}{g:MG}{t:M Bool}{e:M D}
theorem lH(sc0:Scope)(N0 own:List Str)(cap:List Nat)(hc:X.calm=true)(hi:VIc X md P tg iter mi)
  (hg:∀C s H ex P,VG (cG X scope C (bL N0 own cap) s H ex) (cMd own.length cap md) P tg g) (ht:∀C s H ex P,VIf (cG X scope C (bL N0 own cap) s H ex) (cMd own.length cap md) P ifs t)
  (he:∀C s H ex P,VE (cG X scope C (bL N0 own cap) s H ex) (cMd own.length cap md) P elt e)
  (hcap:∀j∈cap,j<md.length:=by decide) (hsc:X.env.scope=sc0:=by rfl) (hN0:X.N=N0:=by rfl) (ok:oK sc0 N0 scope own cap=true:=by decide +kernel) (hs:∀x,foldedSetIterable iter X.env x=pure x:=by intro _;rfl):
  OE X md P (.ListComp elt [⟨tg,iter,ifs,0⟩] scope pos) (cN mi own.length cap g t e):=
 (RT sc0 N0 own cap hc hi (λC s H ex=>xmg (hg C s H ex)) (λC s H ex=>xmt (ht C s H ex)) (λC s H ex=>xm (he C s H ex)) hsc hN0 ok hs).imp λ_ _ _ q=>GK hcap q
theorem ud{i:Nat}{x:Str}{pos' spos:Pos}(sc0:Scope)(N0 own:List Str)(cap:List Nat)(hN:X.N.Nodup)(hx:X.N[i]?=some x)(hl:Loc X.env.scope x)(hc:X.calm=true)(hi:VIc X md P tg iter mi)
  (hg:∀C s H ex P,VG (cG X scope C (bL N0 own cap) s H ex) (cMd own.length cap md) P tg g) (ht:∀C s H ex P,VIf (cG X scope C (bL N0 own cap) s H ex) (cMd own.length cap md) P ifs t)
  (he:∀C s H ex P,VE (cG X scope C (bL N0 own cap) s H ex) (cMd own.length cap md) P elt e)
  (hm:md[i]?=some .v:=by rfl) (hcap:∀j∈cap,j<md.length:=by decide) (hsw:swapsWith (.ListComp elt [⟨tg,iter,ifs,0⟩] scope pos) (some (.Name x pos')) spos.line X.env=pure true:=by rfl)
  (hf:X.fn x=true\/X.env.scope.names.lookup x=some .local:=by first | exact .inl rfl | exact .inr rfl | assumption)
  (hsc:X.env.scope=sc0:=by rfl) (hN0:X.N=N0:=by rfl) (ok:oK sc0 N0 scope own cap=true:=by decide +kernel) (hs:∀x,foldedSetIterable iter X.env x=pure x:=by intro _;rfl):
  VS X md P R (.Assign [.Name x pos'] (.ListComp elt [⟨tg,iter,ifs,0⟩] scope pos) spos) (aH i (cN mi own.length cap g t e)):=
 (RV (i:=i) sc0 N0 own cap hN hx hl hc hi (λC s H ex=>xmg (hg C s H ex)) (λC s H ex=>xmt (ht C s H ex)) (λC s H ex=>xm (he C s H ex)) hsw hf hsc hN0 ok hs).imp λD σ H q =>
  Gy hm (λσ H Q z=>GK hcap (by
   obtain⟨ρ,O,F,as,d,O',r,s,e,k⟩:=z;refine⟨ρ,_,F,as,_,_,r,s,e,λv H' F' as' g r' hv=>?_⟩
   rcases hv with⟨_,hv⟩ | ⟨a,xs,ds,rfl,rfl,e3,e4,e5,e6,e7⟩
   ·exact k v H' F' as' g r' hv
   ·have ff:Same F' (upd F' a (.lst xs)):=λb u q=>by rw[aG (bV q e4)];exact q
    exact k _ H' (upd F' a (.lst xs)) as' (g.frz e6 e4) (r'.frz e3 e4 e5 rfl) (Rp.mkL (.inl (.inl bF)) (Rps.mono ff (λ_ _ z=>z) _ e7)))) q
end
def vSp(K:Frag)(mg:Str->Option Value)(pm:List Md)(R:RR)(c:List D->aj->Res D):Sp:=λvs H Q _ =>
 ∃ds O F as d O',RlO K mg O H F as/\cQ K H F as pm vs ds/\c ds O=.ok d O'/\∀v H' F' as',Gr H F as H' F' as'->RlO K mg O' H' F' as'->R (λa=>H a=none) H' F' as' v d->Q v H'
def bO(n:Nat)(b:MS):List D->aj->Res D:=λds O=>match b (ds.map some++List.replicate (n - ds.length) none) O with
 | .rt d O'=>.ok d O'
 | .nx _ O'=>.ok .non O'
 | .ex x O'=>.ex x O'
 | _=>.no
theorem cQ.len{K:Frag}{H F:Hp}{as:List Addr}:∀{ms:List Md}{vs:List V}{ds:List D},cQ K H F as ms vs ds->vs.length=ms.length/\ds.length=ms.length
 | [],[],[],_=>⟨rfl,rfl⟩
 |m::ms,v::vs,d::ds,h=>by
  have:=cQ.len h.2
  simp[this.1,this.2]
 | [],[],_::_,h=>h.elim
 | [],_::_,[],h=>h.elim
 | [],_::_,_::_,h=>h.elim
 | _::_,[],[],h=>h.elim
 | _::_,[],_::_,h=>h.elim
 | _::_,_::_,[],h=>h.elim
theorem cQ.get{K:Frag}{H F:Hp}{as:List Addr}:∀{ms:List Md}{vs:List V}{ds:List D}{i:Nat}{m:Md}{d:D},cQ K H F as ms vs ds->ms[i]?=some m->ds[i]?=some d->∃v,vs[i]?=some v/\rA K m (λ_=>True) H F as v d
 |m::ms,v::vs,d::ds,0,m',d',h,e1,e2=>by
  simp at e1 e2
  subst e1 e2;exact⟨v,rfl,h.1⟩
 |m::ms,v::vs,d::ds,i+1,m',d',h,e1,e2=>by
  obtain⟨v',h1,h2⟩:=cQ.get (i:=i) (m:=m') (d:=d') h.2 (by simpa using e1) (by simpa using e2);exact⟨v',by simpa using h1,h2⟩
 | [],[],[],_,_,_,_,e1,_=>by simp at e1
 | [],[],_::_,_,_,_,h,_,_=>h.elim
 | [],_::_,[],_,_,_,h,_,_=>h.elim
 | [],_::_,_::_,_,_,_,h,_,_=>h.elim
 | _::_,[],[],_,_,_,h,_,_=>h.elim
 | _::_,[],_::_,_,_,_,h,_,_=>h.elim
 | _::_,_::_,[],_,_,_,h,_,_=>h.elim
theorem GP{K:Frag}{H F:Hp}{as:List Addr}{N:List Str}{pm lm:List Md}{vs:List V}{ds:List D}(h:cQ K H F as pm vs ds)(hl:(pm++lm).length=N.length)(hp:∀m∈pm,m≠.o):
  SlO K (pm++lm) (Pt.all H) (ds.map some++List.replicate (N.length - ds.length) none) (start N vs) H F as:=by
 obtain⟨h1,h2⟩:=h.len;rw[zv] at hl
 have vsl:vs.length<=N.length:=by omega
 have no:∀i a,(ds.map some++List.replicate (N.length - ds.length) none)[i]?=some (some a)->i<ds.length:=λi a e=>by
  by_cases hi:i<ds.length
  ·exact hi
  ·rw[zJ (by simpa using hi),List.getElem?_replicate] at e
   split at e<;>cases e
 refine⟨by unfold start;simp;omega,by simp;omega,λa z=>z,λi m d e1 e2=>?_,λi j a es fs e1 e2 e3=>?_,λ_ z=>nomatch z⟩
 ·have hi:=no i d e2;rw[zK (by simpa using hi),zy] at e2;rw[zK (by omega)] at e1
  cases q:ds[i]? with
  |none=>rw[q] at e2;cases e2
  |some d' =>
   rw[q] at e2;cases e2;obtain⟨v,h3,h4⟩:=h.get e1 q;refine⟨v,?_,?_⟩
   ·unfold start;rw[zK (by simp;omega),zy,h3];rfl
   ·cases m with
    |v=>exact h4
    |s =>
     rcases h4 with h4 | ⟨a,xs,es,z1,z2,z3,z4,z5⟩
     ·exact .inl h4
     ·exact .inr ⟨a,xs,es,z1,z2,z3,z4,(show H a≠none by rw[z3];exact λz=>nomatch z),z5⟩
    |o=>exact absurd rfl (hp .o (zO e1))
 ·have hi:=no i _ e3;rw[zK (by omega)] at e1;exact absurd rfl (hp .o (zO e1))
section
variable {Pr:Program}{w:World}{K:Frag}{mg:Str->Option Value}{base:Heap}
theorem cZ{x:Str}{st:Stmt}{N ps:List Str}{k:Nat}(Df:Def K mg x st)(S:bN N ps (aR st))
  (hb:∀(kV doc pm:Value) (an:Option Addr) (cdv ct:Value) (us:List Value),us.length=ps.length->bindArgs (PySem.W.fnOf x x (gb st) (dz st) (aR st) .none kV doc pm an cdv ct) ⟨us,[]⟩=pure (ps.zip us))
  (pm lm:List Md) {R:RR}{b:MS} (hR:gP R) (hR0:∀N H F as,R N H F as .non .non) (hpl:pm.length=ps.length:=by rfl) (hl:(pm++lm).length=N.length:=by rfl) (hp:∀m∈pm,m≠.o:=by decide)
  (body:∀(f:Addr) (cdv:Value) (A:Around) (outer:List Env) (s:Shared) (H:Hp) (E:XK),aX k (A.deeper (envOfC x (aR st) s.heap.objs.size f cdv))->∀P,VSs ((il CX0 Pr w K mg base N x (aR st) f cdv A outer s H E).nox) (pm++lm) P R (dz st) b):
  Can Pr w K mg base x ps (k+1) (vSp K mg pm R (bO N.length b)):=by
 refine Df.can (k:=k) S hb (λvs H Q E h=>?_) (λf cdv A outer s H vs Q E hr h=>?_)
 ·obtain⟨ds,O,F,as,d,O',r,a,_⟩:=h;rw[a.len.1,hpl]
 ·obtain⟨ds,O,F,as,d,O',r,a,e,q⟩:=h;refine⟨_,body f cdv A outer s H E hr (Pt.all H),?_⟩;refine⟨_,O,F,as,r,GP a hl hp,?_⟩;unfold bO at e
  cases eb:b (ds.map some++List.replicate (N.length - ds.length) none) O with
  |rt d' O2 =>
   rw[eb] at e;cases e
   exact λv H' F' as' g r' hv=>q v H' F' as' g.gr r' (hR _ _ _ _ _ _ _ (λc hc=>Classical.not_not.mp hc) hv)
  |nx ρ O2 =>
   rw[eb] at e;cases e
   exact λσ' H' F' as' g r' _=>q _ H' F' as' g.gr r' (hR0 _ _ _ _)
  |bk _ _=>rw[eb] at e;cases e
  |ct _ _=>rw[eb] at e;cases e
  |ex _ _=>rw[eb] at e;cases e
  |no=>rw[eb] at e;cases e
end
section
variable {X:Cx}{md:List Md}{P:Pt}{R:RR}{k:Nat}{x:Str}{ps:List Str}{p pos:Pos}{e:Expr}{es:List Expr}{pm:List Md}{c:List D->aj->Res D}{ma:M (List D)}
def aO(c:List D->aj->Res D)(ma:M (List D)):M D:=λρ O=>(ma ρ O).bind λds O1=>c ds O1
theorem Te{K:Frag}{mg:Str->Option Value}(hR:gP R){E:XK}{σ:St}{H:Hp}{Q:VK}(q:tM K mg md P R (aO c ma) σ H Q):wW (vSp K mg pm R c) [] E (tMA K mg md P pm ma) σ H Q:=by
 obtain⟨ρ,O,F,as,d,O',r,s,e,k⟩:=q;obtain⟨ds,O1,e1,e⟩:=Res.bind_ok e;refine⟨ρ,_,F,as,_,_,r,s,e1,λvs H1 F1 as1 g1 r1 hv=>?_⟩;dsimp only;rw[je];exact⟨ds,O1,F1,as1,d,O',r1,hv,e,λv H' F' as' g' r' hw=>k v H' F' as' (g1.trans g') r' (hR _ _ _ _ _ _ _ (λa ha=>g1.dm a ha) hw)⟩
theorem GQ(hR:gP R)(C:Can X.prog X.w X.K X.mg X.base x ps k (vSp X.K X.mg pm R c))(hr:aX k X.A)(ha:AE X md P pm (e::es) ma)(hg:Gl X x:=by rfl)(hdb:(x == ("__debug__":Str))=false:=by decide)
  (he:starEach (e::es) X.env=(false,eval e X.env)::starEach es X.env:=by exact dh rfl) (hpl:(backTo pos (starEach es X.env)).any (·.1)=false:=by exact dG rfl):PE X (.Call (.Name x p) (e::es) [] pos) (tM X.K X.mg md P R (aO c ma)):=
 (RW C hr ha hg hdb he hpl).imp λ_ _ _ q=>Te hR q
end
section
variable {K:Frag}{mg:Str->Option Value}{H F:Hp}{as:List Addr}{O:aj}{Q:VK}{d:D}{p:Addr}{xs:List V}{ds:List D}
theorem cO{v:V}(r:RlO K mg O H F as)(k:∀v' H' F',Gr H F as H' F' as->RlO K mg O H' F' as->Ow K (λa=>H a=none) H' F' as v' d->Q v' H')(hn:jW d=true)(hv:Rp K F as v d):Q v H:=k v H F Gr.refl r (.inl ⟨hn,hv⟩)
theorem RlO.frF(r:RlO K mg O H F as)(hp:H p=none):F p=none:=by
 cases q:F p with
 |none=>rfl
 |some o=>rw[r.fh p o q] at hp;cases hp
theorem qN(r:RlO K mg O H F as)(k:∀v' H' F',Gr H F as H' F' as->RlO K mg O H' F' as->Ow K (λa=>H a=none) H' F' as v' (.lst ds)->Q v' H')(hp:H p=none)(hs:Rps K F as xs ds):Q (.ref p) (upd H p (.lst xs)):=
 k _ _ F (Gr.lay hp) (r.lay hp) (.inr ⟨p,xs,ds,rfl,rfl,bF,r.frF hp,λz=>r.all z hp,hp,hs⟩)
theorem GR(r:RlO K mg O H F as)(k:∀v' H' F',Gr H F as H' F' as->RlO K mg O H' F' as->Ow K (λa=>H a=none) H' F' as v' (.tup ds)->Q v' H')(hp:H p=none)(hs:Rps K F as xs ds):Q (.ref p) (upd H p (.tup xs)):=by
 have hF:=r.frF hp
 have ff:Same F (upd F p (.tup xs)):=λb u q=>by rw[aG (bV q hF)];exact q
 exact k _ _ (upd F p (.tup xs)) ((Gr.lay hp).frz hp hF) ((r.lay hp).frz bF hF (λz=>r.all z hp) rfl) (.inl ⟨rfl,Rp.mkT (.inl bF) (Rps.mono ff (λ_ _ z=>z) _ hs)⟩)
end
section
variable {X:Cx}
def Tf(K:Frag):R2:=λx y H Q=>∃l b xs zs,x=.ref l/\y=.ref b/\RdK K H l xs/\RdK K H b zs/\xs.length+zs.length<=sizeLine/\∀p,H p=none->Q (.ref p) (upd H p (.lst (xs++zs)))
theorem Tg:OpR X (binaryOp .Add) (Tf X.K):=by
 intro pins s σ H x y v u Q I rx ry h;obtain⟨l,b,xs,zs,rfl,rfl,hH,hB,hz,q⟩:=h;cases rx;cases ry;obtain⟨z,its,n,r,e⟩:=hH.ok I;obtain⟨z2,its2,n2,r2,e2⟩:=hB.ok I;have hl:=r.length;have hl2:=r2.length;refine PySem.P.add_list e e2 ?_ (by rw[zG,zG];omega)
 have ea:its.toArray++its2.toArray=(its++its2).toArray:=by simp
 rw[ea];exact⟨.ref _,_,I.lnew (t':=s.toks) (r.append r2) (by rw[zv];omega),rfl,q _ I.fresh⟩
def Th(K:Frag):R2:=λx y H Q=>∃l k xs,x=.ref l/\y=.int k/\RdK K H l xs/\-(2 ^ 63)<=k/\k<2 ^ 63/\xs.length * k.toNat<=sizeLine /\
 ∀p,H p=none->Q (.ref p) (upd H p (.lst (List.replicate k.toNat xs).flatten))
theorem Ti:OpR X (binaryOp .Mult) (Th X.K):=by
 intro pins s σ H x y v u Q I rx ry h;obtain⟨l,k,xs,rfl,rfl,hH,h1,h2,hz,q⟩:=h;cases rx;obtain⟨t,rfl⟩:=ry;obtain⟨z,its,n,r,e⟩:=hH.ok I;have hl:=r.length
 have hlen:its.toArray.size * k.toNat<=sizeLine:=by rw[zG,<-hl];exact hz
 have hcap:¬its.toArray.size * k.toNat>(2 ^ 63 - 1) / 8:=by
  have:(sizeLine:Nat)<=(2 ^ 63 - 1) / 8:=by decide
  omega
 have hfit:¬(!Builtin.List.listFitsIndex k)=true:=by
  rw[fitsIndex_both h1 h2];exact zq
 have hlong:¬Builtin.List.listTooLong (its.toArray.size * k.toNat)=true:=by
  rw[tR hlen];exact zq
 have hnew:List.foldl (λx1 x2=>x1++x2) #[] (List.replicate (if its.toArray.isEmpty=true then 0 else k.toNat) its.toArray)=(List.replicate k.toNat its).flatten.toArray:=by
  have f0:∀m:Nat,List.foldl (λx1 x2=>x1++x2) #[] (List.replicate m its.toArray)=(List.replicate m its).flatten.toArray:=λm=>by
   have:=foldl_rep its m []
   rw[zV] at this;exact this
  rw[f0]
  cases its with
  |nil=>simp
  |cons a r'=>rw[if_neg (by simp)]
 refine wpAny_binaryOp_repeat_ref (T:="list") (U:="int") (by decide) ⟨_,e,rfl⟩ (λs'=>typeIs_int s' k t) noFill_list_mul F.fills_int_mul F.slot_int_rmul repeat_list F.slot_int_index.lookup
  (call_meets F.slot_int_rmul (typeIs_int s k t) F.entry_int_rmul (F.args_int_rmul_2 _ _) (int___rmul___int_list k t l its.toArray n)
   ⟨e,rfl,⟨_,e,rfl⟩,call_meets F.slot_list_mul ⟨_,e,rfl⟩ F.entry_list_mul (F.args_list_mul_2 _ _) (AutoListH.list___mul___list_int_3 l its.toArray n k t hfit hcap hlong) ⟨e,?_⟩⟩)
 rw[hnew];exact⟨.ref _,_,I.lnew (t':=s.toks) (r.rep k.toNat) (by rw[len_rep,Nat.mul_comm];exact hz),rfl,q _ I.fresh⟩
def bQ:D->D->Option D
 | .int i,.int j=>some (.int (i+j))
 | .int i,.bl k=>some (.int (i+b2i k))
 | .str a,.str b=>if a.length+b.length<=1000000 then some (.str (a++b)) else none
 | .lst a,.lst b=>if a.length+b.length<=1000000 then some (.lst (a++b)) else none
 | .tup a,.tup b=>if a.length+b.length<=1000000/\a≠[] then some (.tup (a++b)) else none
 | _,_=>none
instance (a:List D):Decidable (a≠[]):=match a with
 | []=>isFalse λh=>h rfl
 | _::_=>isTrue λh=>nomatch h
theorem gY:OpD X (binaryOp .Add) bQ:=by
 intro pins s σ H x y v u Q I rx ry h;obtain⟨O,F,as,dx,dy,d,r,hx,hy,e,k⟩:=h
 cases dx with
 |int i =>
  cases(hx.rp rfl).unI
  cases dy with
  |int j =>
   cases(hy.rp rfl).unI;cases e;exact OJ pins s σ H _ _ v u Q I rx ry ⟨i,j,rfl,rfl,cO r k rfl Rp.int⟩
  |bl j =>
   cases(hy.rp rfl).unB;cases e;exact Pq pins s σ H _ _ v u Q I rx ry ⟨i,j,rfl,rfl,cO r k rfl Rp.int⟩
  | _=>cases e
 |str a =>
  cases(hx.rp rfl).unS
  cases dy with
  |str b =>
   cases(hy.rp rfl).unS;simp only[bQ] at e;split at e
   ·rename_i hz;cases e;refine PP pins s σ H _ _ v u Q I rx ry ⟨S a,S b,rfl,rfl,by rw[gM,gM];exact ir hz,?_⟩;rw[R0];exact cO r k rfl Rp.str
   ·cases e
  | _=>cases e
 |lst a =>
  obtain⟨p,xs,rfl,h1,h2⟩:=hx.list r.fh
  cases dy with
  |lst b =>
   obtain⟨p',ys,rfl,h3,h4⟩:=hy.list r.fh;simp only[bQ] at e;split at e
   ·rename_i hz;cases e;exact Tg pins s σ H _ _ v u Q I rx ry ⟨p,p',xs,ys,rfl,rfl,h1,h3,by rw[h2.length,h4.length];exact ir hz,λq hq=>qN r k hq (Rps.append h4 h2)⟩
   ·cases e
  | _=>cases e
 |tup a =>
  obtain⟨p,xs,rfl,h1,h2⟩:=(hx.rp rfl).unT
  cases dy with
  |tup b =>
   obtain⟨p',ys,rfl,h3,h4⟩:=(hy.rp rfl).unT;simp only[bQ] at e;split at e
   ·rename_i hz;cases e
    have hxs:xs≠[]:=λz=>hz.2 (List.eq_nil_of_length_eq_zero (by rw[<-h2.length,z];rfl))
    refine QQ pins s σ H _ _ v u Q I rx ry ⟨p,p',xs,ys,rfl,rfl,Same.seqT r.fh h1,Same.seqT r.fh h3,hxs,by rw[h2.length,h4.length];exact ir hz.1,λz=>?_,λ_ q hq=>GR r k hq (Rps.append h4 h2)⟩;have hb:b=[]:=List.eq_nil_of_length_eq_zero (by rw[<-h4.length,z];rfl);subst hb;rw[je] at k;exact cO r k rfl (hx.rp rfl)
   ·cases e
  | _=>cases e
 | _=>cases e
def gI(C:Int->Int->Bool)(f:Int->Int->Int):D->D->Option D
 | .int i,.int j=>if C i j=true then some (.int (f i j)) else none
 | _,_=>none
theorem xH{f:Value->Value->Sem Value}{Cp:Int->Int->Prop}{g:Int->Int->Int}{C:Int->Int->Bool}(h:OpR X f (rI Cp λi j=>.int (g i j)))(hc:∀i j,C i j=true->Cp i j):OpD X f (gI C g):=by
 intro pins s σ H x y v u Q I rx ry h';obtain⟨O,F,as,dx,dy,d,r,hx,hy,e,k⟩:=h'
 cases dx with
 |int i =>
  cases(hx.rp rfl).unI
  cases dy with
  |int j =>
   cases(hy.rp rfl).unI;simp only[gI] at e;split at e
   ·rename_i hC;cases e;exact h pins s σ H _ _ v u Q I rx ry ⟨i,j,rfl,rfl,hc i j hC,cO r k rfl Rp.int⟩
   ·cases e
  | _=>cases e
 | _=>cases e
def qO:D->D->Option D:=gI (λ_ _=>true) λi j=>i - j
theorem Tj:OpD X (binaryOp .Sub) qO:=by
 intro pins s σ H x y v u Q I rx ry h';obtain⟨O,F,as,dx,dy,d,r,hx,hy,e,k⟩:=h'
 cases dx with
 |int i =>
  cases(hx.rp rfl).unI
  cases dy with
  |int j =>
   cases(hy.rp rfl).unI;cases e;exact Pa pins s σ H _ _ v u Q I rx ry ⟨i,j,rfl,rfl,cO r k rfl Rp.int⟩
  | _=>cases e
 | _=>cases e
def oX(i:Int):Bool:=decide (-(2 ^ 64)<i)&&decide (i<2 ^ 64)
theorem xJ{i:Int}(h:oX i=true):-(2 ^ 64)<i/\i<2 ^ 64:=by
 unfold oX at h;rw[zw,decide_eq_true_eq,decide_eq_true_eq] at h;exact h
def eZ:D->D->Option D
 | .int i,.int j=>if(oX i || oX j)=true then some (.int (i * j)) else none
 | .str l,.int n=>if -1000000<n/\n<1000000/\l.length * n.toNat<=16777216 then some (.str (List.replicate n.toNat l).flatten) else none
 | .lst l,.int n=>if -1000000<n/\n<1000000/\l.length * n.toNat<=1000000 then some (.lst (List.replicate n.toNat l).flatten) else none
 | _,_=>none
theorem ue:OpD X (binaryOp .Mult) eZ:=by
 intro pins s σ H x y v u Q I rx ry h;obtain⟨O,F,as,dx,dy,d,r,hx,hy,e,k⟩:=h
 cases dx with
 |int i =>
  cases(hx.rp rfl).unI
  cases dy with
  |int j =>
   cases(hy.rp rfl).unI;simp only[eZ] at e;split at e
   ·rename_i hz;cases e;refine Pb pins s σ H _ _ v u Q I rx ry ⟨i,j,rfl,rfl,?_,cO r k rfl Rp.int⟩;rw[Bool.or_eq_true] at hz
    rcases hz with z | z
    ·exact .inl (xJ z)
    ·exact .inr (xJ z)
   ·cases e
  | _=>cases e
 |str l =>
  cases(hx.rp rfl).unS
  cases dy with
  |int n =>
   cases(hy.rp rfl).unI;simp only[eZ] at e;split at e
   ·rename_i hz;cases e;exact Sx pins s σ H _ _ v u Q I rx ry ⟨l,n,rfl,rfl,hz.1,hz.2.1,hz.2.2,cO r k rfl Rp.str⟩
   ·cases e
  | _=>cases e
 |lst l =>
  obtain⟨p,xs,rfl,h1,h2⟩:=hx.list r.fh
  cases dy with
  |int n =>
   cases(hy.rp rfl).unI;simp only[eZ] at e;split at e
   ·rename_i hz;cases e;exact Ti pins s σ H _ _ v u Q I rx ry ⟨p,n,xs,rfl,rfl,h1,by omega,by omega,by rw[h2.length];exact ir hz.2.2,λq hq=>qN r k hq (h2.rep _)⟩
   ·cases e
  | _=>cases e
 | _=>cases e
def bZ:D->D->Option D:=gI (λ_ j=>decide (0<j)) λi j=>i % j
theorem gj:OpD X (binaryOp .Mod) bZ:=xH Ph λ_ _ h=>ji h
def lJ:D->D->Option D:=gI (λ_ j=>decide (0<j)&&decide (j<1073741824)) λi j=>i / j
theorem GX:OpD X (binaryOp .FloorDiv) lJ:=xH Pg λi j h=>by
 rw[zw,decide_eq_true_eq,decide_eq_true_eq] at h;exact h
def fU:D->D->Option D:=gI (λi j=>decide (0<=j)&&(decide (j<=1000000)&&oX i)) λi j=>i ^ j.toNat
theorem qP:OpD X (binaryOp .Pow) fU:=xH Pj λi j h=>by
 rw[zw,zw,decide_eq_true_eq,decide_eq_true_eq] at h
 have:=xJ h.2.2
 exact⟨h.1,h.2.1,by omega⟩
def mUn(g:D->Option D)(m:M D):M D:=λρ O=>(m ρ O).bind λd O1=>match g (bz O1 d) with
 |some y=>.ok y O1
 |none=>.no
def eO:D->Option D
 | .int i=>some (.int (-i))
 | _=>none
theorem qQ{md:List Md}{P:Pt}{a:Expr}{pos:Pos}{m:M D}(h:SE X md P a m):OE X md P (.UnaryOp .USub a pos) (mUn eO m):=(Ox Pn h).imp λσ H Q q=>by
 obtain⟨ρ,O,F,as,d,O',r,s,e,k⟩:=q;obtain⟨x,O1,e1,e⟩:=Res.bind_ok e;refine⟨ρ,_,F,as,_,_,r,s,e1,λv H1 F1 as1 g1 r1 hv=>?_⟩
 cases ed:bz O1 x with
 |int i =>
  rw[ed] at e;cases e
  have:=Sv.lk hv r1
  rw[ed] at this;exact⟨i,(this.rp rfl).unI,k _ H1 F1 as1 g1 r1 (.inl ⟨rfl,Rp.int⟩)⟩
 | _=>rw[ed] at e;cases e
def gCI(f:Int->Int->Bool):D->D->Option D
 | .int i,.int j=>some (.bl (f i j))
 | _,_=>none
theorem xK{f:Value->Value->Sem Value}{g:Int->Int->Bool}(h:OpR X f (rI0 λi j=>.bl (g i j))):OpD X f (gCI g):=by
 intro pins s σ H x y v u Q I rx ry h';obtain⟨O,F,as,dx,dy,d,r,hx,hy,e,k⟩:=h'
 cases dx with
 |int i =>
  cases(hx.rp rfl).unI
  cases dy with
  |int j =>
   cases(hy.rp rfl).unI;cases e;exact h pins s σ H _ _ v u Q I rx ry ⟨i,j,rfl,rfl,cO r k rfl Rp.bl⟩
  | _=>cases e
 | _=>cases e
def gLt:D->D->Option D:=gCI λi j=>decide (i<j)
def gGt:D->D->Option D:=gCI λi j=>decide (j<i)
def gGe:D->D->Option D:=gCI λi j=>decide (j<=i)
def gLe:D->D->Option D
 | .int i,.int j=>some (.bl (decide (i<=j)))
 | .str a,.str b=>some (.bl (!decide (b<a)))
 | _,_=>none
theorem Tn:OpD X (compareOp .LtE) gLe:=by
 intro pins s σ H x y v u Q I rx ry h';obtain⟨O,F,as,dx,dy,d,r,hx,hy,e,k⟩:=h'
 cases dx with
 |int i =>
  cases(hx.rp rfl).unI
  cases dy with
  |int j =>
   cases(hy.rp rfl).unI;cases e;exact Px pins s σ H _ _ v u Q I rx ry ⟨i,j,rfl,rfl,cO r k rfl Rp.bl⟩
  | _=>cases e
 |str a =>
  cases(hx.rp rfl).unS
  cases dy with
  |str b =>
   cases(hy.rp rfl).unS;cases e;refine R3 pins s σ H _ _ v u Q I rx ry ⟨S a,S b,rfl,rfl,?_⟩;rw[oM,oM];exact cO r k rfl Rp.bl
  | _=>cases e
 | _=>cases e
theorem xN:OpD X (compareOp .Lt) gLt:=xK Pu
theorem xO:OpD X (compareOp .Gt) gGt:=xK Py
theorem Tp:OpD X (compareOp .GtE) gGe:=xK Pz
mutual
def toP:D->PyData
 | .non=>.none
 | .bl b=>.bool b
 | .int i=>.int i
 | .str l=>.str (S l)
 | .lst ds=>.list (lK ds)
 | .tup ds=>.tuple (lK ds)
 | .dic _ _=>.none
 | .ob _=>.none
def lK:List D->List PyData
 | []=>[]
 |d::ds=>toP d::lK ds
end
mutual
def iu:D->Bool
 | .lst ds=>nq ds
 | .tup ds=>nq ds
 | .dic _ _=>false
 | .ob _=>false
 | _=>true
def nq:List D->Bool
 | []=>true
 |d::ds=>iu d&&nq ds
end
section
variable {K:Frag}{F:Hp}{as:List Addr}
mutual
theorem Rp.rep:∀(d:D) {v:V},iu d=true->Rp K F as v d->Rep K F v (toP d)
 | .non,v,_,h=>by rw[toP,Rep];exact h.unN
 | .bl b,v,_,h=>by rw[toP,Rep];exact h.unB
 | .int i,v,_,h=>by rw[toP,Rep];exact h.unI
 | .str x,v,_,h=>by rw[toP,Rep];exact h.unS
 | .lst ds,v,hp,h=>by
  obtain⟨a,xs,h1,h2,h3⟩:=h.unL;rw[toP,Rep];rw[iu] at hp;exact⟨a,xs,h1,h2.sq,Rps.rep' ds hp h3⟩
 | .tup ds,v,hp,h=>by
  obtain⟨a,xs,h1,h2,h3⟩:=h.unT;rw[toP,Rep];rw[iu] at hp;exact⟨a,xs,h1,h2,Rps.rep' ds hp h3⟩
 | .dic _ _,v,hp,h=>by rw[iu] at hp;cases hp
 | .ob _,v,hp,h=>by rw[iu] at hp;cases hp
theorem Rps.rep':∀(ds:List D) {xs:List V},nq ds=true->Rps K F as xs ds->aU K F xs (lK ds)
 | [],xs,_,h=>by rw[h.un0,lK];exact aU.nil
 |d::ds,xs,hp,h=>by
  obtain⟨x,r,rfl,h2,h3⟩:=h.un;rw[nq,zw] at hp;rw[lK];exact aU.cons (Rp.rep d hp.1 h2) (Rps.rep' ds hp.2 h3)
end
theorem Lk.rep{H:Hp}{d:D}{v:V}(h:Lk K H F as v d)(fh:Same F H)(hp:iu d=true):Rep K H v (toP d):=by
 rcases h with h | ⟨a,xs,ds,rfl,rfl,h1,h2⟩
 ·exact Rep.mono fh _ (Rp.rep d hp h)
 ·rw[iu] at hp;rw[toP,Rep];exact⟨a,xs,rfl,.inl (.inl h1),aU.mono fh _ (Rps.rep' ds hp h2)⟩
end
def okE(d:D):Bool:=iu d&&okD (toP d)
def iw(a b:D):Bool:=PyData.eqv (toP a) (toP b)
def gEq:D->D->Option D
 | .int i,.int j=>some (.bl (decide (i=j)))
 | .str a,.str b=>some (.bl (decide (a=b)))
 | .bl a,.bl b=>some (.bl (decide (a=b)))
 |a,b=>if(okE a&&okE b)=true then some (.bl (iw a b)) else none
def gNe:D->D->Option D
 | .int i,.int j=>some (.bl (!decide (i=j)))
 | .str a,.str b=>some (.bl (!decide (a=b)))
 | .bl a,.bl b=>some (.bl (!decide (a=b)))
 |a,b=>if(okE a&&okE b)=true then some (.bl (!iw a b)) else none
theorem GZ(a b:List Nat):decide (V.str (S a)=V.str (S b))=decide (a=b):=by
 by_cases h:a=b
 ·subst h;simp
 ·rw[zp h,zp];intro z;exact h (R1 (V.str.inj z))
theorem G3(a b:Int):decide (V.int a=V.int b)=decide (a=b):=by
 by_cases h:a=b
 ·subst h;simp
 ·rw[zp h,zp];intro z;exact h (V.int.inj z)
theorem G4(a b:Bool):decide (V.bl a=V.bl b)=decide (a=b):=by
 cases a<;>cases b<;>rfl
theorem Tq{a b d:D}(h:gEq a b=some d):(∃i j,a=.int i/\b=.int j/\d=.bl (decide (i=j)))\/(∃i j,a=.str i/\b=.str j/\d=.bl (decide (i=j)))\/(∃i j,a=.bl i/\b=.bl j/\d=.bl (decide (i=j))) \/
  (okE a=true/\okE b=true/\d=.bl (iw a b)):=by
 unfold gEq at h;split at h
 ·cases h;exact .inl ⟨_,_,rfl,rfl,rfl⟩
 ·cases h;exact .inr (.inl ⟨_,_,rfl,rfl,rfl⟩)
 ·cases h;exact .inr (.inr (.inl ⟨_,_,rfl,rfl,rfl⟩))
 ·split at h
  ·rename_i hk;rw[zw] at hk;cases h;exact .inr (.inr (.inr ⟨hk.1,hk.2,rfl⟩))
  ·cases h
theorem Tt{a b d:D}(h:gNe a b=some d):(∃i j,a=.int i/\b=.int j/\d=.bl (!decide (i=j)))\/(∃i j,a=.str i/\b=.str j/\d=.bl (!decide (i=j)))\/(∃i j,a=.bl i/\b=.bl j/\d=.bl (!decide (i=j))) \/
  (okE a=true/\okE b=true/\d=.bl (!iw a b)):=by
 unfold gNe at h;split at h
 ·cases h;exact .inl ⟨_,_,rfl,rfl,rfl⟩
 ·cases h;exact .inr (.inl ⟨_,_,rfl,rfl,rfl⟩)
 ·cases h;exact .inr (.inr (.inl ⟨_,_,rfl,rfl,rfl⟩))
 ·split at h
  ·rename_i hk;rw[zw] at hk;cases h;exact .inr (.inr (.inr ⟨hk.1,hk.2,rfl⟩))
  ·cases h
theorem gZ{k:Nat}(hr:aX k X.A):OpD X (compareOp .Eq) gEq:=by
 intro pins s σ H x y v u Q I rx ry h';obtain⟨O,F,as,dx,dy,d,r,hx,hy,e,k⟩:=h'
 rcases Tq e with⟨i,j,rfl,rfl,rfl⟩ | ⟨i,j,rfl,rfl,rfl⟩ | ⟨i,j,rfl,rfl,rfl⟩ | ⟨h1,h2,rfl⟩
 ·cases(hx.rp rfl).unI;cases(hy.rp rfl).unI;refine wO pins s σ H _ _ v u Q I rx ry ⟨rfl,?_⟩;rw[G3];exact cO r k rfl Rp.bl
 ·cases(hx.rp rfl).unS;cases(hy.rp rfl).unS;refine wO pins s σ H _ _ v u Q I rx ry ⟨rfl,?_⟩;rw[GZ];exact cO r k rfl Rp.bl
 ·cases(hx.rp rfl).unB;cases(hy.rp rfl).unB;refine wO pins s σ H _ _ v u Q I rx ry ⟨rfl,?_⟩;rw[G4];exact cO r k rfl Rp.bl
 ·unfold okE at h1 h2;rw[zw] at h1 h2;exact RX hr pins s σ H _ _ v u Q I rx ry ⟨toP dx,toP dy,hx.rep r.fh h1.1,hy.rep r.fh h2.1,h1.2,h2.2,cO r k rfl Rp.bl⟩
theorem oY{k:Nat}(hr:aX k X.A):OpD X (compareOp .NotEq) gNe:=by
 intro pins s σ H x y v u Q I rx ry h';obtain⟨O,F,as,dx,dy,d,r,hx,hy,e,k⟩:=h'
 rcases Tt e with⟨i,j,rfl,rfl,rfl⟩ | ⟨i,j,rfl,rfl,rfl⟩ | ⟨i,j,rfl,rfl,rfl⟩ | ⟨h1,h2,rfl⟩
 ·cases(hx.rp rfl).unI;cases(hy.rp rfl).unI;refine wQ pins s σ H _ _ v u Q I rx ry ⟨rfl,?_⟩;rw[G3];exact cO r k rfl Rp.bl
 ·cases(hx.rp rfl).unS;cases(hy.rp rfl).unS;refine wQ pins s σ H _ _ v u Q I rx ry ⟨rfl,?_⟩;rw[GZ];exact cO r k rfl Rp.bl
 ·cases(hx.rp rfl).unB;cases(hy.rp rfl).unB;refine wQ pins s σ H _ _ v u Q I rx ry ⟨rfl,?_⟩;rw[G4];exact cO r k rfl Rp.bl
 ·unfold okE at h1 h2;rw[zw] at h1 h2;exact RZ hr pins s σ H _ _ v u Q I rx ry ⟨toP dx,toP dy,hx.rep r.fh h1.1,hy.rep r.fh h2.1,h1.2,h2.2,cO r k rfl Rp.bl⟩
def toV:D->V
 | .bl b=>.bl b
 | .int i=>.int i
 | .str l=>.str (S l)
 | _=>.non
def uf:D->Bool
 | .non=>true
 | .bl _=>true
 | .int _=>true
 | .str _=>true
 | _=>false
def eqF(x y:D):Bool:=eqV (toV x) (toV y)
def gIn(neg:Bool):D->D->Option D
 | .str [c],.str l=>some (.bl (neg ^^ decide (c∈l)))
 |x,.lst ds=>if(uf x&&ds.all uf)=true then some (.bl (neg ^^ ds.any λy=>eqF y x)) else none
 |x,.tup ds=>if(uf x&&ds.all uf)=true then some (.bl (neg ^^ ds.any λy=>eqF y x)) else none
 | _,_=>none
def gIx:D->D->Option D
 | .lst ds,.int i=>atI ds i
 | .tup ds,.int i=>atI ds i
 | .str l,.int i=>if l.length<=1000000 then(atI l i).map λc=>.str [c] else none
 | _,_=>none
theorem Rps.atI{K:Frag}{F:Hp}{as:List Addr}{xs:List V}{ds:List D}{i:Int}{d:D}(h:Rps K F as xs ds)(e:atI ds i=some d):∃v,L2.atI xs i=some v/\Rp K F as v d:=by
 unfold L2.atI at e ⊢;rw[h.length]
 cases q:ixN ds.length i with
 |none=>rw[q] at e;cases e
 |some j =>
  rw[q] at e;exact h.get' e
def rDv(K:Frag)(mg:Str->Option Value)(g:D->D->Option D):R2:=λx y H Q=>∃O F as dx dy d,RlO K mg O H F as/\Lk K H F as x dx/\Lk K H F as y dy/\g dx dy=some d/\∀v',Rp K F as v' d->Q v' H
theorem Tu:IxR X (rDv X.K X.mg gIx):=by
 intro value slice pins s σ H x y v u Q I rx ry h' hsb;obtain⟨O,F,as,dx,dy,d,r,hx,hy,e,k⟩:=h'
 cases dx with
 |lst ds =>
  obtain⟨p,xs,rfl,h1,h2⟩:=hx.list r.fh
  cases dy with
  |int i =>
   cases(hy.rp rfl).unI;obtain⟨z,e1,e2⟩:=h2.atI e;exact QX value slice pins s σ H _ _ v u Q I rx ry ⟨p,xs,i,z,rfl,rfl,h1.sq,e1,k z e2⟩ hsb
  | _=>cases e
 |tup ds =>
  obtain⟨p,xs,rfl,h1,h2⟩:=(hx.rp rfl).unT
  cases dy with
  |int i =>
   cases(hy.rp rfl).unI;obtain⟨z,e1,e2⟩:=h2.atI e;exact QZ value slice pins s σ H _ _ v u Q I rx ry ⟨p,xs,i,z,rfl,rfl,Same.seqT r.fh h1,e1,k z e2⟩ hsb
  | _=>cases e
 |str l =>
  cases(hx.rp rfl).unS
  cases dy with
  |int i =>
   cases(hy.rp rfl).unI;simp only[gIx] at e;split at e
   ·rename_i hz
    cases q:L2.atI l i with
    |none=>rw[q] at e;cases e
    |some c =>
     rw[q] at e;cases e;exact Q0 value slice pins s σ H _ _ v u Q I rx ry ⟨S l,i,c,rfl,rfl,by rw[gM];exact ir hz,by rw[oM];exact q,k _ Rp.str⟩ hsb
   ·cases e
  | _=>cases e
 | _=>cases e
theorem bH{md:List Md}{P:Pt}{a b:Expr}{pos:Pos}{ma mb:M D}(ha:SE X md P a ma)(hb:SE X md P b mb)(hs:tQ b:=by intro _ _;rfl):VE X md P (.Subscript a b pos) (aq gIx ma mb):=(QS Tu ha hb hs).imp λσ H Q h=>by
 obtain⟨ρ,O,F,as,d,O',r,sl,e,k⟩:=h;obtain⟨x,O1,e1,e⟩:=Res.bind_ok e;obtain⟨y,O2,e2,e⟩:=Res.bind_ok e;split at e
 ·rename_i d' hg;cases e;refine⟨ρ,_,F,as,_,_,r,sl,e1,λv H1 F1 as1 g1 r1 hv=>?_⟩;refine⟨ρ,_,F1,as1,_,_,r1,sl.step g1,e2,λu H2 F2 as2 g2 r2 hu=>?_⟩;exact⟨_,F2,as2,_,_,_,r2,Sv.lk (Sv.gr hv g2) r2,Sv.lk hu r2,hg,λv' hw=>k v' H2 F2 as2 (g1.trans g2) r2 hw⟩
 ·cases e
def tMO(K:Frag)(mg:Str->Option Value)(md:List Md)(P:Pt)(m:M (Option Int)):TO:=λσ H Q =>
 ∃ρ O F as b O',RlO K mg O H F as/\SlO K md P ρ σ H F as/\m ρ O=.ok b O'/\∀H' F' as',Gr H F as H' F' as'->RlO K mg O' H' F' as'->Q b H'
def VO(X:Cx)(md:List Md)(P:Pt)(e:Option Expr)(m:M (Option Int)):Prop:=PO X e (tMO X.K X.mg md P m)
theorem PO.imp{e:Option Expr}{t t':TO}(h:PO X e t)(k:∀σ H Q,t' σ H Q->t σ H Q):PO X e t':=λpins s σ H Q I q=>h pins s σ H Q I (k σ H Q q)
def moN:M (Option Int):=λ_ O=>.ok none O
def moS(m:M D):M (Option Int):=λρ O=>(m ρ O).bind λd O1=>match d with
 | .int i=>.ok (some i) O1
 | _=>.no
theorem G5{md:List Md}{P:Pt}{e:Expr}{m:M D}(h:VE X md P e m):VO X md P (some e) (moS m):=(QH h).imp λσ H Q q=>by
 obtain⟨ρ,O,F,as,d,O',r,s,e,k⟩:=q;obtain⟨x,O1,e1,e⟩:=Res.bind_ok e
 cases x with
 |int i =>
  cases e;exact⟨ρ,_,F,as,_,_,r,s,e1,λv H1 F1 as1 g1 r1 hv=>⟨i,Rp.unI hv,k H1 F1 as1 g1 r1⟩⟩
 | _=>cases e
def gSl(d:D)(lo hi:Option Int):Option D:=match d with
 | .lst ds=>some (.lst (eE ds lo hi))
 | .tup ds=>some (.tup (eE ds lo hi))
 | .str l=>if l.length<=16777216 then some (.str (eE l lo hi)) else none
 | _=>none
def Tv(K:Frag)(mg:Str->Option Value):V->Option Int->Option Int->Hp->VK->Prop:=λx lo hi H Q=>∃O F as dx d,RlO K mg O H F as/\Lk K H F as x dx/\gSl dx lo hi=some d /\
 ∀v' H' F',Gr H F as H' F' as->RlO K mg O H' F' as->Ow K (λa=>H a=none) H' F' as v' d->Q v' H'
theorem Rps.cut{K:Frag}{F:Hp}{as:List Addr}{xs:List V}{ds:List D}(h:Rps K F as xs ds)(lo hi:Option Int):Rps K F as (jR xs lo hi) (eE ds lo hi):=by
 unfold jR eE;rw[h.length];exact(h.drop _).take _
theorem Tw:SlR X (Tv X.K X.mg):=by
 intro pins s σ H x v vl vu lo hi sl Q I rx hs pl pu h;obtain⟨O,F,as,dx,d,r,hx,e,k⟩:=h
 cases dx with
 |lst ds =>
  obtain⟨p,xs,rfl,h1,h2⟩:=hx.list r.fh;cases e;exact Q5 pins s σ H _ v vl vu lo hi sl Q I rx hs pl pu ⟨p,xs,rfl,h1.sq,λq hq=>qN r k hq (h2.cut lo hi)⟩
 |tup ds =>
  obtain⟨p,xs,rfl,h1,h2⟩:=(hx.rp rfl).unT;cases e;refine Sg X.K rfl pins s σ H _ v vl vu lo hi sl Q I rx hs pl pu ⟨p,xs,rfl,Same.seqT r.fh h1,λz=>?_,λ_ q hq=>GR r k hq (h2.cut lo hi)⟩
  have:eE ds lo hi=ds:=by
   unfold eE;rw[<-h2.length,z.1,z.2,List.drop_zero,Nat.sub_zero,h2.length,List.take_length]
  rw[this] at k;exact cO r k rfl (hx.rp rfl)
 |str l =>
  cases(hx.rp rfl).unS;simp only[gSl] at e;split at e
  ·rename_i hz;cases e;exact R9 pins s σ H _ v vl vu lo hi sl Q I rx hs pl pu ⟨l,rfl,zH hz (Nat.le_of_eq sizeLine_eq.symm),cO r k rfl Rp.str⟩
  ·cases e
 | _=>cases e
def mSl(m:M D)(lo hi:M (Option Int)):M D:=λρ O=>(m ρ O).bind λd O1=>(lo ρ O1).bind λl O2=>(hi ρ O2).bind λh O3=>match gSl (bz O3 d) l h with
 |some y=>.ok y O3
 |none=>.no
end
section
variable {X:Cx}{md:List Md}{P:Pt}{R:RR}
theorem Tz{e:Expr}{lo hi:Option Expr}{p2 pos:Pos}{m:M D}{ml mh:M (Option Int)}(he:SE X md P e m)(hl:VO X md P lo ml)(hh:VO X md P hi mh):OE X md P (.Subscript e (.Slice lo hi none p2) pos) (mSl m ml mh):=(QJ Tw he hl hh).imp λσ H Q q=>by
 obtain⟨ρ,O,F,as,d,O',r,s,e,k⟩:=q;obtain⟨x,O1,e1,e⟩:=Res.bind_ok e;obtain⟨l,O2,e2,e⟩:=Res.bind_ok e;obtain⟨h,O3,e3,e⟩:=Res.bind_ok e;split at e
 ·rename_i y hg;cases e;refine⟨ρ,_,F,as,_,_,r,s,e1,λv H1 F1 as1 g1 r1 hv=>?_⟩;refine⟨ρ,_,F1,as1,_,_,r1,s.step g1,e2,λH2 F2 as2 g2 r2=>?_⟩;have g12:=g1.trans g2;refine⟨ρ,_,F2,as2,_,_,r2,s.step g12,e3,λH3 F3 as3 g3 r3=>?_⟩;have g13:=g12.trans g3;exact⟨_,F3,as3,_,_,r3,Sv.lk (Sv.gr (Sv.gr hv g2) g3) r3,hg,λv' H' F' g' r' hw=>k v' H' F' as3 (g13.trans g') r' (gQ _ _ _ _ _ _ _ (λa ha=>g13.dm a ha) hw)⟩
 ·cases e
def Lks(K:Frag)(H F:Hp)(as:List Addr):List V->List D->Prop
 | [],[]=>True
 |v::vs,d::ds=>Lk K H F as v d/\Lks K H F as vs ds
 | _,_=>False
theorem cQ.lks{K:Frag}{mg:Str->Option Value}{O:aj}{H F:Hp}{as:List Addr}(r:RlO K mg O H F as):∀{ms:List Md}{vs:List V}{ds:List D},cQ K H F as ms vs ds->Lks K H F as vs (ds.map (bz O))
 | [],[],[],_=>trivial
 |m::ms,v::vs,d::ds,h=>by
  refine⟨?_,cQ.lks r h.2⟩
  have h1:Sv K H F as v d:=by
   cases m with
   |v=>exact .inl h.1
   |s=>exact h.1
   |o=>exact h.1
  exact h1.lk r
 | [],[],_::_,h=>h.elim
 | [],_::_,[],h=>h.elim
 | [],_::_,_::_,h=>h.elim
 | _::_,[],[],h=>h.elim
 | _::_,[],_::_,h=>h.elim
 | _::_,_::_,[],h=>h.elim
def rC(K:Frag)(mg:Str->Option Value)(g:List D->Option D):List V->Hp->VK->Prop:=λvs H Q=>∃O F as ds d,RlO K mg O H F as/\Lks K H F as vs ds/\g ds=some d /\
 ∀v' H' F',Gr H F as H' F' as->RlO K mg O H' F' as->Ow K (λa=>H a=none) H' F' as v' d->Q v' H'
abbrev qR(X:Cx)(f:Value)(g:List D->Option D):Prop:=jB X f (rC X.K X.mg g)
def bB(g:List D->Option D)(ma:M (List D)):M D:=λρ O=>(ma ρ O).bind λds O1=>match g (ds.map (bz O1)) with
 |some d=>.ok d O1
 |none=>.no
theorem xP{K:Frag}{mg:Str->Option Value}{g:List D->Option D}{ms:List Md}{ma:M (List D)}{σ:St}{H:Hp}{Q:VK}(q:tM K mg md P (rO K) (bB g ma) σ H Q):tCB (rC K mg g) (tMA K mg md P ms ma) σ H Q:=by
 obtain⟨ρ,O,F,as,d,O',r,s,e,k⟩:=q;obtain⟨ds,O1,e1,e⟩:=Res.bind_ok e;split at e
 ·rename_i y hg;cases e;refine⟨ρ,_,F,as,_,_,r,s,e1,λvs H1 F1 as1 g1 r1 hv=>?_⟩;exact⟨_,F1,as1,_,_,r1,hv.lks r1,hg,λv' H' F' g' r' hw=>k v' H' F' as1 (g1.trans g') r' (gQ _ _ _ _ _ _ _ (λa ha=>g1.dm a ha) hw)⟩
 ·cases e
theorem fG{x:Str}{p pos:Pos}{e:Expr}{es:List Expr}{id:String}{g:List D->Option D}{ms:List Md}{ma:M (List D)}(hc:qR X (.builtin id) g)(hm:X.mg x=none)(ha:AE X md P ms (e::es) ma)(hv:bootBuiltins x=some (.builtin id):=by decide +kernel)(hg:Gl X x:=by rfl)
  (hn:x≠"__name__":=by decide) (hdb:(x == ("__debug__":Str))=false:=by decide) (he:starEach (e::es) X.env=(false,eval e X.env)::starEach es X.env:=by exact dh rfl) (hpl:(backTo pos (starEach es X.env)).any (·.1)=false:=by exact dG rfl):
  OE X md P (.Call (.Name x p) (e::es) [] pos) (bB g ma):=(qG hc hg hm hv ha hn hdb he hpl).imp λ_ _ _ q=>xP q
theorem oZ{x:Str}{p pos:Pos}{e:Expr}{es:List Expr}{T:String}{g:List D->Option D}{ms:List Md}{ma:M (List D)}(hc:qR X (.type T) g)(hm:X.mg x=none)(ha:AE X md P ms (e::es) ma)(hv:bootBuiltins x=some (.type T):=by decide +kernel)(hg:Gl X x:=by rfl)
  (hn:x≠"__name__":=by decide) (hdb:(x == ("__debug__":Str))=false:=by decide) (he:starEach (e::es) X.env=(false,eval e X.env)::starEach es X.env:=by exact dh rfl) (hpl:(backTo pos (starEach es X.env)).any (·.1)=false:=by exact dG rfl):
  OE X md P (.Call (.Name x p) (e::es) [] pos) (bB g ma):=(QB hc hg hm hv ha hn hdb he hpl).imp λ_ _ _ q=>xP q
theorem Lks.one{K:Frag}{H F:Hp}{as:List Addr}{vs:List V}{d:D}(h:Lks K H F as vs [d]):∃v,vs=[v]/\Lk K H F as v d:=by
 cases vs with
 |nil=>exact h.elim
 |cons v vs =>
  cases vs with
  |nil=>exact⟨v,rfl,h.1⟩
  |cons u us=>exact h.2.elim
theorem Lks.two{K:Frag}{H F:Hp}{as:List Addr}{vs:List V}{d e:D}(h:Lks K H F as vs [d,e]):∃v u,vs=[v,u]/\Lk K H F as v d/\Lk K H F as u e:=by
 cases vs with
 |nil=>exact h.elim
 |cons v vs =>
  cases vs with
  |nil=>exact h.2.elim
  |cons u us =>
   cases us with
   |nil=>exact⟨v,u,rfl,h.1,h.2.1⟩
   |cons w ws=>exact h.2.2.elim
def dg:List D->Option D
 | [.str l]=>if l.length<=1000000 then some (.int l.length) else none
 | [.lst ds]=>some (.int ds.length)
 | [.tup ds]=>some (.int ds.length)
 | _=>none
theorem iy:qR X (.builtin "len") dg:=by
 intro pins s σ H xs us Q I rs h;obtain⟨O,F,as,ds,d,r,hvs,e,k⟩:=h;unfold dg at e;split at e
 ·rename_i l;obtain⟨v,rfl,hv⟩:=hvs.one;split at e
  ·rename_i hz;cases e;cases(hv.rp rfl).unS;refine call_len pins s σ H _ us Q I rs ⟨_,_,rfl,⟨by rw[gM];exact ir hz,rfl⟩,?_⟩;rw[gM];exact cO r k rfl Rp.int
  ·cases e
 ·rename_i l;obtain⟨v,rfl,hv⟩:=hvs.one;cases e;obtain⟨p,xs,rfl,h1,h2⟩:=hv.list r.fh;refine call_len pins s σ H _ us Q I rs ⟨_,_,rfl,.inl ⟨xs,h1.sq,rfl⟩,?_⟩;rw[h2.length];exact cO r k rfl Rp.int
 ·rename_i l;obtain⟨v,rfl,hv⟩:=hvs.one;cases e;obtain⟨p,xs,rfl,h1,h2⟩:=(hv.rp rfl).unT;refine call_len pins s σ H _ us Q I rs ⟨_,_,rfl,.inr ⟨xs,Same.seqT r.fh h1,rfl⟩,?_⟩;rw[h2.length];exact cO r k rfl Rp.int
 ·cases e
def TF:List D->Option D
 | [.int i,.int j]=>some (.int (if j>i then j else i))
 | _=>none
def TJ:List D->Option D
 | [.int i,.int j]=>some (.int (if j<i then j else i))
 | _=>none
def G6:List D->Option D
 | [.int i]=>some (.int i)
 | [.bl b]=>some (.int (if b then 1 else 0))
 | _=>none
def dI:List D->Option D
 | [.lst ds]=>some (.lst ds)
 | [.tup ds]=>some (.lst ds)
 | _=>none
theorem o9:qR X (.type "list") dI:=by
 intro pins s σ H xs us Q I rs h;obtain⟨O,F,as,ds,d,r,hvs,e,k⟩:=h;unfold dI at e;split at e
 ·obtain⟨v,rfl,hv⟩:=hvs.one;cases e;obtain⟨p,xs,rfl,h1,h2⟩:=hv.list r.fh;exact Fq pins s σ H _ us Q I rs ⟨p,xs,rfl,.inl h1.sq,λl hl=>qN r k hl h2⟩
 ·obtain⟨v,rfl,hv⟩:=hvs.one;cases e;obtain⟨p,xs,rfl,h1,h2⟩:=(hv.rp rfl).unT;exact Fq pins s σ H _ us Q I rs ⟨p,xs,rfl,.inr (Same.seqT r.fh h1),λl hl=>qN r k hl h2⟩
 ·cases e
def j4:List D->Option (List Bool)
 | []=>some []
 | .bl b::ds=>(j4 ds).map (b :: ·)
 | _=>none
theorem Rps.bools{K:Frag}{F:Hp}{as:List Addr}:∀{ds:List D}{xs:List V}{bs:List Bool},Rps K F as xs ds->j4 ds=some bs->xs=bs.map V.bl
 | [],xs,bs,h,e=>by cases e;rw[h.un0];rfl
 |d::ds,xs,bs,h,e=>by
  obtain⟨x,r,rfl,h2,h3⟩:=h.un
  cases d with
  |bl b =>
   unfold j4 at e
   cases q:j4 ds with
   |none=>rw[q] at e;cases e
   |some cs =>
    rw[q] at e;cases e;rw[h2.unB,Rps.bools h3 q];rfl
  | _=>cases e
def j5:List D->Option D
 | [.lst ds]=>(j4 ds).map λbs=>.bl (bs.all id)
 | _=>none
theorem ug(hc:X.calm=true):qR X (.builtin "all") j5:=by
 intro pins s σ H xs us Q I rs h;obtain⟨O,F,as,ds,d,r,hvs,e,k⟩:=h;unfold j5 at e;split at e
 ·rename_i es;obtain⟨v,rfl,hv⟩:=hvs.one;obtain⟨p,xs,rfl,h1,h2⟩:=hv.list r.fh
  cases q:j4 es with
  |none=>rw[q] at e;cases e
  |some bs =>
   rw[q] at e;cases e;refine R7 hc pins s σ H _ us Q I rs ⟨p,bs,rfl,?_,cO r k rfl Rp.bl⟩;rw[<-h2.bools q];exact h1.sq
 ·cases e
def j6:List D->Option (List Int)
 | []=>some []
 | .int b::ds=>(j6 ds).map (b :: ·)
 | _=>none
theorem Rps.ints{K:Frag}{F:Hp}{as:List Addr}:∀{ds:List D}{xs:List V}{bs:List Int},Rps K F as xs ds->j6 ds=some bs->xs=bs.map V.int
 | [],xs,bs,h,e=>by cases e;rw[h.un0];rfl
 |d::ds,xs,bs,h,e=>by
  obtain⟨x,r,rfl,h2,h3⟩:=h.un
  cases d with
  |int b =>
   unfold j6 at e
   cases q:j6 ds with
   |none=>rw[q] at e;cases e
   |some cs =>
    rw[q] at e;cases e;rw[h2.unI,Rps.ints h3 q];rfl
  | _=>cases e
theorem iz:bootBuiltins "len" = some (.builtin "len"):=by decide +kernel
theorem uh:bootBuiltins "all" = some (.builtin "all"):=by decide +kernel
theorem G7:bootBuiltins "int" = some (.type "int"):=by decide +kernel
theorem G8:bootBuiltins "bool" = some (.type "bool"):=by decide +kernel
theorem nu:bootBuiltins "list" = some (.type "list"):=by decide +kernel
theorem xQ:bootBuiltins "tuple" = some (.type "tuple"):=by decide +kernel
def tyD:D->Option String
 | .non=>some "NoneType"
 | .bl _=>some "bool"
 | .int _=>some "int"
 | .str _=>some "str"
 | .lst _=>some "list"
 | .tup _=>some "tuple"
 | .dic _ _=>some "dict"
 | .ob _=>none
def fc(t n:String):Bool:=t == n || (t == "bool" && n == "int")
def fH(n:String)(m:M D):M D:=λρ O=>(m ρ O).bind λd O1=>match tyD (bz O1 d) with
 |some t=>.ok (.bl (fc t n)) O1
 |none=>.no
def xR:List String:=["str","int","bool","list","tuple","dict"]
theorem TQ(K:Frag):∀d t,tyD d=some t->∀n∈xR,PySem.W.kitOne K (.type t) (.type n)=some (fc t n):=by
 intro d t e n hn;simp only[xR,zF,List.not_mem_nil,or_false] at hn
 cases d<;>cases e<;>rcases hn with rfl | rfl | rfl | rfl | rfl | rfl<;>first | exact Gf K _ | kernel_rfl
theorem Lk.ty{K:Frag}{H F:Hp}{as:List Addr}{v:V}{d:D}{t:String}(h:Lk K H F as v d)(fh:Same F H)(e:tyD d=some t):TyQ K H v t:=by
 cases d with
 |non=>cases e;rw[(h.rp rfl).unN];exact .non
 |bl b=>cases e;rw[(h.rp rfl).unB];exact .bl _
 |int b=>cases e;rw[(h.rp rfl).unI];exact .int _
 |str b=>cases e;rw[(h.rp rfl).unS];exact .str _
 |lst ds=>cases e;obtain⟨p,xs,rfl,h1,h2⟩:=h.list fh;exact .lst h1.sq
 |tup ds=>cases e;obtain⟨p,xs,rfl,h1,h2⟩:=(h.rp rfl).unT;exact .tup (Same.seqT fh h1)
 |dic ks vs=>cases e;obtain⟨p,xs,rfl,h1,h2⟩:=(h.rp rfl).unD;exact .dK (fh _ _ h1)
 |ob n=>cases e
theorem lL(n:String){T:Str}{a:Expr}{p p' pos:Pos}{m:M D}(hm:X.mg "isinstance" = none)(hT:X.mg T=none)(h:SE X md P a m)(hb:bootBuiltins T=some (.type n):=by decide +kernel)(hn:n∈xR:=by decide)(hg:Gl X "isinstance":=by rfl)(hgT:Gl X T:=by rfl)
  (hTn:T≠"__name__":=by decide) (hTd:(T == ("__debug__":Str))=false:=by decide)
  (hs1:starEach [a,.Name T p'] X.env=(false,eval a X.env)::starEach [.Name T p'] X.env:=by exact dh rfl) (hs2:starEach [.Name T p'] X.env=(false,eval (.Name T p') X.env)::starEach [] X.env:=by rfl) (hpl:(backTo pos (starEach [.Name T p'] X.env)).any (·.1)=false:=by exact dG rfl):
  OE X md P (.Call (.Name "isinstance" p) [a,.Name T p'] [] pos) (fH n m):=
 (qG (Sq X.K) hg hm (by decide +kernel) (gJ h (gJ (DW (v:=.ty n) hgT hT hb rfl hTn hTd) jQ hs2) hs1) (by decide) (by decide) hs1 hpl).imp λσ H Q q=>by
  obtain⟨ρ,O,F,as,d,O',r,s,e,k⟩:=q;obtain⟨x,O1,e1,e⟩:=Res.bind_ok e;split at e
  ·rename_i t ht;cases e;refine⟨ρ,_,F,as,_,_,r,s,e1,λv H1 F1 as1 g1 r1 hv=>?_⟩;exact⟨v,n,t,_,rfl,Lk.ty (Sv.lk hv r1) r1.fh ht,TQ _ _ t ht n hn,k _ H1 F1 as1 g1 r1 (.inl ⟨rfl,Rp.bl⟩)⟩
  ·cases e
def ph(m:M D):M (List D):=λρ O=>(m ρ O).bind λd O1=>match d with
 | .lst ds=>.ok ds O1
 | _=>.no
def xT(m:M D):M (List D):=λρ O=>(m ρ O).bind λd O1=>match d with
 | .tup ds=>.ok ds O1
 | _=>.no
theorem TV{K:Frag}{mg:Str->Option Value}{H F:Hp}{as:List Addr}{a:Addr}{xs:List V}{ds:List D}(hs:Rps K F as xs ds)(hp:∀(H2 F2:Hp) (as2:List Addr),GrS P H F as H2 F2 as2->(∃O,RlO K mg O H2 F2 as2)->RdK K H2 a xs):m8 K mg P (Itl K a) ds H F as:=by
 refine⟨λi d H2 F2 as2 g r e=>?_,λH2 F2 as2 g r=>⟨xs,(hp H2 F2 as2 g r).sq,by rw[hs.length];exact zd _⟩⟩;obtain⟨x,h1,h2⟩:=hs.get' e;have q:=hp H2 F2 as2 g r;refine⟨⟨xs,x,q.sq,h1⟩,λy H3 hy=>?_⟩;obtain⟨rfl,hy⟩:=hy
 have:=hy xs q.sq
 rw[h1] at this;cases this;exact⟨F2,Gr.refl,λ_ r=>r,h2.grS g⟩
end
section
variable {X:Cx}{pins:List (Addr×Obj)}{σ:St}{H:Hp}{s:Shared}
theorem Inv.turnL{ch:List Addr}{h':Heap}{t':Nat}(I:Inv X pins σ H s)(hch:∀b∈ch,f9 X pins H b)(k:∀b o,b∉ch->s.heap.get? b=some o->h'.get? b=some o):Inv X pins σ H {s with heap:=h',toks:=t'}:=by
 have nit:∀b u,H b=some u->b∉ch:=λb u e z=>by rw[(hch b z).1] at e;cases e
 refine I.step (g':=s.gens) (d':=s.drawn) (ch:=ch) (λb hb=>?_) (λb o _ _ hc e _=>k b o hc e) (λb o _ _ hc e _=>⟨o.slots,k b o hc e⟩) (λ_ _ _ _ n=>n)
  (λb o hc e=>⟨o,k b o hc e⟩) (λ_ _ e=>e) (λ_ _ _ e=>e) (λb ps e=>⟨#[],by rw[e];simp⟩) (λm hm=>?_) (λb u e=>?_) I.bare
 ·obtain⟨f0,f1,f2,f3,f4,f5⟩:=hch b hb;exact⟨f3,f1,f4,f5⟩
 ·obtain⟨o,es,ep,ho,r⟩:=hm;exact⟨o,es,ep,k _ o (λz=>(hch _ z).2.1 rfl) ho,r⟩
 ·refine(I.hok b u e).stay (λc v hc q=>k c v ?_ q) (λ_ q=>q) λ_ _ q=>q
  rcases hc with z | z
  ·rw[z];exact nit b u e
  ·exact nit c _ z
theorem Inv.turnT{ch:List Addr}{h':Heap}{t':Nat}{T:Addr}{vs:List V}{us:List Value}(I:Inv X pins σ H s)(hch:∀b∈ch,f9 X pins H b)(k:∀b o,b∉ch->s.heap.get? b=some o->h'.get? b=some o)
  (hT:s.heap.objs.size<=T) (new:IsTup h' T us.toArray) (hv:aP vs us) (hz:vs.length<=sizeLine):Inv X pins σ (upd H T (.tup vs)) {s with heap:=h',toks:=t'}:=by
 have hn:H T=none:=I.hok.fresh hT
 have nit:∀b u,H b=some u->b∉ch:=λb u e z=>by rw[(hch b z).1] at e;cases e
 have ne:∀b o,s.heap.get? b=some o->b≠T:=λb o e z=>by
  subst z;exact absurd (zo e) (Nat.not_lt_of_le hT)
 refine I.step (g':=s.gens) (d':=s.drawn) (ch:=ch) (λb hb=>?_) (λb o _ _ hc e _=>k b o hc e) (λb o _ _ hc e _=>⟨o.slots,k b o hc e⟩) (λb o _ e n=>by rw[aG (ne b o e)];exact n)
  (λb o hc e=>⟨o,k b o hc e⟩) (λb _ e=>by rw[aG (bV e hn)];exact e) (λb _ _ e=>by rw[aG (bV e hn)];exact e) (λb ps e=>⟨#[],by rw[aG (bV e hn),e];simp⟩) (λm hm=>?_) (λb u e=>?_) I.bare
 ·obtain⟨f0,f1,f2,f3,f4,f5⟩:=hch b hb;exact⟨f3,f1,f4,f5⟩
 ·obtain⟨o,es,ep,ho,r⟩:=hm;exact⟨o,es,ep,k _ o (λz=>(hch _ z).2.1 rfl) ho,r⟩
 ·by_cases hb:b=T
  ·subst hb;rw[bF] at e;cases e;exact⟨hz,us,hv,new⟩
  ·rw[aG hb] at e
   refine(I.hok b u e).stay (λc v hc q=>k c v ?_ q) (λc q=>by rw[aG (bV q hn)];exact q) λc xs q=>by rw[aG (bV q hn)];exact q
   rcases hc with z | z
   ·rw[z];exact nit b u e
   ·exact nit c _ z
end
theorem xU{h:Heap}{b:Addr}{o:Obj}{vs:Array Value}(e:h.get? b=some o)(d:o.data=.fields vs):∃o,h.get? b=some o/\∀v,o.data≠.cell v:=⟨o,e,λv z=>by rw[d] at z;cases z⟩
section
variable {X:Cx}{elts:List Expr}{x1:Nat}{tpos:Pos}
end
def rW(K:Frag)(P:Pt):RR:=λ_ H F as v d=>Rp K F as v d\/∃a xs ds,v=.ref a/\d=.lst ds/\H a=some (.lst xs)/\a∉as/\P a/\Rps K F as xs ds
def WE(X:Cx)(md:List Md)(P:Pt)(e:Expr)(m:M D):Prop:=PE X e (tM X.K X.mg md P (rW X.K P) m)
section
variable {X:Cx}{md:List Md}{P:Pt}{R:RR}
theorem xV{e:Expr}{m:M D}(h:VE X md P e m):WE X md P e m:=h.imp λσ H Q q=>by
 obtain⟨ρ,O,F,as,d,O',r,s,e,k⟩:=q;exact⟨ρ,O,F,as,d,O',r,s,e,λv H' F' as' g r' hv=>k v H' F' as' g r' (.inl hv)⟩
theorem pq(i:Nat){x:Str}{pos:Pos}(hm:md[i]?=some .s:=by rfl)(hN:X.N[i]?=some x:=by rfl)(hv:Vis X.env.scope x:=by first | exact Or.inl rfl | exact Or.inr (Or.inl rfl) | exact Or.inr (Or.inr rfl))
  (hd:(x == ("__debug__":Str))=false:=by decide) (hcd:(x == ("__classdict__":Str))=false:=by decide):WE X md P (.Name x pos) (aa i):=by
 refine(lC (i:=i) hN hv hd hcd).imp λσ H Q h=>?_
 obtain⟨ρ,O,F,as,d,O',r,s,e,k⟩:=h;obtain⟨e1,rfl⟩:=tX e;obtain⟨v,h2,h3⟩:=s.sl i .s d hm e1;exact⟨v,h2,k v H F as Gr.refl r h3⟩
theorem TX{K:Frag}{mg:Str->Option Value}{N:Addr->Prop}{H F:Hp}{as:List Addr}{v:V}{ds:List D}(hv:rW K P N H F as v (.lst ds)):
  ∃a xs,v=.ref a/\Rps K F as xs ds/\∀(H2 F2:Hp) (as2:List Addr),GrS P H F as H2 F2 as2->(∃O,RlO K mg O H2 F2 as2)->RdK K H2 a xs:=by
 rcases hv with hv | ⟨a,xs,ds',rfl,e,e3,e4,e5,e6⟩
 ·obtain⟨a,xs,rfl,h1,h2⟩:=hv.unL;exact⟨a,xs,rfl,h2,λH2 F2 as2 g ⟨O,r⟩=>(h1.mono g.ff).mono r.fh⟩
 ·cases e;exact⟨a,xs,rfl,e6,λH2 F2 as2 g _=>.inl (.inl (g.fr _ _ e5 e3 e4 rfl))⟩
theorem G9{tg e:Expr}{m:M D}(h:WE X md P e m):VI X md P tg e (ph m):=(wK h).imp λσ H Q q=>by
 obtain⟨ρ,O,F,as,ds,O',r,s,e,k⟩:=q;obtain⟨d,O1,e1,e⟩:=Res.bind_ok e
 cases d with
 |lst es =>
  cases e;refine⟨ρ,_,F,as,_,_,r,s,e1,λv H1 F1 as1 g1 r1 hv=>?_⟩;obtain⟨a,xs,rfl,h1,h2⟩:=TX (mg:=X.mg) hv;exact⟨a,rfl,⟨xs,(h2 H1 F1 as1 GrS.refl ⟨_,r1⟩).sq⟩,k _ H1 F1 as1 g1 r1 (TV h1 h2)⟩
 | _=>cases e
theorem Ha{tg e:Expr}{m:M D}(h:VE X md P e m):VI X md P tg e (xT m):=(Ol h).imp λσ H Q q=>by
 obtain⟨ρ,O,F,as,ds,O',r,s,e,k⟩:=q;obtain⟨d,O1,e1,e⟩:=Res.bind_ok e
 cases d with
 |tup es =>
  cases e;refine⟨ρ,_,F,as,_,_,r,s,e1,λv H1 F1 as1 g1 r1 hv=>?_⟩;obtain⟨a,xs,rfl,h1,h2⟩:=Rp.unT hv
  have hp:∀(H2 F2:Hp) (as2:List Addr),GrS P H1 F1 as1 H2 F2 as2->(∃O,RlO X.K X.mg O H2 F2 as2)->SqT X.K H2 a xs:=λH2 F2 as2 g ⟨O,r⟩=>Same.seqT r.fh (Same.seqT g.ff h1)
  refine⟨a,rfl,⟨xs,hp H1 F1 as1 GrS.refl ⟨_,r1⟩⟩,k _ H1 F1 as1 g1 r1 ⟨λi d H2 F2 as2 g r e=>?_,λH2 F2 as2 g r=>⟨xs,hp H2 F2 as2 g r,by rw[h2.length];exact zd _⟩⟩⟩;obtain⟨x,h3,h4⟩:=h2.get' e;have q:=hp H2 F2 as2 g r;refine⟨⟨xs,x,q,h3⟩,λy H3 hy=>?_⟩;obtain⟨rfl,hy⟩:=hy
  have:=hy xs q
  rw[h3] at this;cases this;exact⟨F2,Gr.refl,λ_ r=>r,h4.grS g⟩
 | _=>cases e
def lM(l:List Nat):List D:=l.map λc=>.str [c]
def xW(m:M D):M (List D):=λρ O=>(m ρ O).bind λd O1=>match d with
 | .str l=>if ascii l=true then .ok (lM l) O1 else .no
 | _=>.no
theorem xX{K:Frag}{mg:Str->Option Value}{J:It}{ds:List D}{H F:Hp}{as:List Addr}(h1:∀(i:Nat) (d:D) (H2:Hp),ds[i]?=some d->J.go i H2/\∀x H3,J.yld i H2 x H3->H3=H2/\∀K F as,Rp K F as x d)(h2:∀H2,J.stop ds.length H2):m8 K mg P J ds H F as :=
 ⟨λi d H2 F2 as2 _ _ e=>⟨(h1 i d H2 e).1,λx H3 y=>by
  obtain⟨rfl,hx⟩:=(h1 i d H2 e).2 x H3 y
  exact⟨F2,Gr.refl,λ_ r=>r,hx _ _ _⟩⟩,λH2 _ _ _ _=>h2 H2⟩
theorem Hb{tg e:Expr}{m:M D}(h:SE X md P e m):VI X md P tg e (xW m):=(R6 h).imp λσ H Q q=>by
 obtain⟨ρ,O,F,as,ds,O',r,s,e,k⟩:=q;obtain⟨d,O1,e1,e⟩:=Res.bind_ok e
 cases d with
 |str l =>
  dsimp only at e;split at e
  ·rename_i hl;cases e;refine⟨ρ,_,F,as,_,_,r,s,e1,λv H1 F1 as1 g1 r1 hv=>?_⟩;refine⟨l,(Sv.rp hv rfl).unS,hl,k _ H1 F1 as1 g1 r1 (xX (λi d H2 e=>?_) λH2=>by simp[lM,Its])⟩;unfold lM at e;rw[zy] at e
   cases q:l[i]? with
   |none=>rw[q] at e;cases e
   |some c =>
    rw[q] at e;cases e;refine⟨(zl.mp q).1,λx H3 y=>?_⟩;obtain⟨e1,c',e2,rfl⟩:=y;rw[q] at e2;cases e2;exact⟨e1,λ_ _ _=>Rp.str⟩
  ·cases e
 | _=>cases e
def d7(lo:Int)(n:Nat):List D:=(List.range n).map λ(k:Nat)=>.int (lo+(k:Int))
def fj(m:M (List D)):M (List D):=λρ O=>(m ρ O).bind λds O1=>match ds with
 | [.int j]=>if j<=1000000000/\-1000000000<=j then .ok (d7 0 j.toNat) O1 else .no
 | _=>.no
theorem TY{K:Frag}{mg:Str->Option Value}{lo:Int}{n:Nat}{H F:Hp}{as:List Addr}:m8 K mg P (Itr lo n) (d7 lo n) H F as:=xX (λi d H2 e=>by
 unfold d7 at e;rw[zy] at e
 by_cases hi:i<n
 ·rw[List.getElem?_range hi] at e;cases e;refine⟨hi,λx H3 y=>?_⟩;obtain⟨e1,rfl⟩:=y;exact⟨e1,λ_ _ _=>Rp.int⟩
 ·rw[jy (by simpa using hi)] at e
  cases e) λH2=>by simp[d7,Itr]
theorem cQ.one{K:Frag}{H F:Hp}{as:List Addr}{m:Md}{vs:List V}{d:D}(h:cQ K H F as [m] vs [d]):∃v,vs=[v]/\rA K m (λ_=>True) H F as v d:=by
 cases vs with
 |nil=>exact h.elim
 |cons v vs =>
  cases vs with
  |nil=>exact⟨v,rfl,h.1⟩
  |cons u us=>exact h.2.elim
theorem cQ.two{K:Frag}{H F:Hp}{as:List Addr}{m n:Md}{vs:List V}{d e:D}(h:cQ K H F as [m,n] vs [d,e]):∃v u,vs=[v,u]/\rA K m (λ_=>True) H F as v d/\rA K n (λ_=>True) H F as u e:=by
 cases vs with
 |nil=>exact h.elim
 |cons v vs =>
  cases vs with
  |nil=>exact h.2.elim
  |cons u us =>
   cases us with
   |nil=>exact⟨v,u,rfl,h.1,h.2.1⟩
   |cons w ws=>exact h.2.2.elim
theorem j7{tg a:Expr}{p pos:Pos}{m:M (List D)}(hm:X.mg "range" = none)(ha:AE X md P [.s] [a] m)(hg:Gl X "range":=by rfl)(hs:starEach [a] X.env=[(false,eval a X.env)]:=by exact Sy rfl):VI X md P tg (.Call (.Name "range" p) [a] [] pos) (fj m):=(Oq hg hm ha hs).imp λσ H Q q=>by
 obtain⟨ρ,O,F,as,ds,O',r,s,e,k⟩:=q;obtain⟨es,O1,e1,e⟩:=Res.bind_ok e;split at e
 ·rename_i j;split at e
  ·rename_i hj;cases e;refine⟨ρ,_,F,as,_,_,r,s,e1,λvs H1 F1 as1 g1 r1 hv=>?_⟩;obtain⟨v,rfl,hv1⟩:=hv.one
   have:=(Sv.rp hv1 rfl).unI
   subst this;exact⟨j,rfl,by omega,by omega,k _ H1 F1 as1 g1 r1 TY⟩
  ·cases e
 ·cases e
def qT:Nat->List D->List D
 | _,[]=>[]
 |k,d::ds=>.tup [.int k,d]::qT (k+1) ds
theorem T3{K:Frag}{mg:Str->Option Value}{H2 F2:Hp}{as2:List Addr}{T:Addr}{xs:List V}{ds:List D}(hr:∃O,RlO K mg O H2 F2 as2)(hT:H2 T=none)(hx:Rps K F2 as2 xs ds):
  ∃F3,Gr H2 F2 as2 (upd H2 T (.tup xs)) F3 as2/\(∀O,RlO K mg O H2 F2 as2->RlO K mg O (upd H2 T (.tup xs)) F3 as2)/\Rp K F3 as2 (.ref T) (.tup ds):=by
 obtain⟨O,r⟩:=hr;have hF:=r.frF hT
 have ff:Same F2 (upd F2 T (.tup xs)):=λb u q=>by rw[aG (bV q hF)];exact q
 exact⟨upd F2 T (.tup xs),(Gr.lay hT).frz hT hF,λO' r'=>(r'.lay hT).frz bF hF (λz=>r'.all z hT) rfl,Rp.mkT (.inl bF) (Rps.mono ff (λ_ _ z=>z) _ hx)⟩
variable {elts:List Expr}{x1:Nat}{tpos:Pos}
def nA:List D->Option (List (List Nat))
 | []=>some []
 | .str l::ds=>(nA ds).map (l :: ·)
 | _=>none
theorem Rps.strs{K:Frag}{F:Hp}{as:List Addr}:∀{ds:List D}{xs:List V}{ls:List (List Nat)},Rps K F as xs ds->nA ds=some ls->xs=ls.map λl=>V.str (S l)
 | [],xs,bs,h,e=>by cases e;rw[h.un0];rfl
 |d::ds,xs,bs,h,e=>by
  obtain⟨x,r,rfl,h2,h3⟩:=h.un
  cases d with
  |str b =>
   unfold nA at e
   cases q:nA ds with
   |none=>rw[q] at e;cases e
   |some cs =>
    rw[q] at e;cases e;rw[h2.unS,Rps.strs h3 q];rfl
  | _=>cases e
def Ua(m:M D):M D:=λρ O=>(m ρ O).bind λd O1=>match bz O1 d with
 | .lst ds=>match nA ds with
  |some ls=>if(ls.map List.length).sum<=1000000 then .ok (.str ls.flatten) O1 else .no
  |none=>.no
 | _=>.no
def Ub(mo m:M D):M D:=λρ O=>(mo ρ O).bind λa O1=>(m ρ O1).bind λb O2=>match a,b with
 | .str l,.str n=>.ok (.bl (decide (l.take n.length=n))) O2
 | _,_=>.no
end
section
variable {K:Frag}{mg:Str->Option Value}{md:List Md}{P:Pt}{ρ:aA}{σ:St}{H F:Hp}{as:List Addr}{O:aj}{i:Nat}{a:Addr}{xs xs':List V}{ds ds':List D}
theorem SlO.own(s:SlO K md P ρ σ H F as)(hm:md[i]?=some .o)(hρ:ρ[i]?=some (some (.lst ds))):∃a xs,σ[i]?=some (some (.ref a))/\H a=some (.lst xs)/\F a=none/\a∉as/\¬P a/\Rps K F as xs ds:=by
 obtain⟨v,h1,h2⟩:=s.sl i .o _ hm hρ
 rcases h2 with⟨h2,_⟩ | ⟨a,xs,es,rfl,e2,e3,e0,e4,e5,e6⟩
 ·cases h2
 ·cases e2;exact⟨a,xs,h1,e3,e0,e4,e5,e6⟩
theorem SlO.mut(s:SlO K md P ρ σ H F as)(hm:md[i]?=some .o)(hρ:ρ[i]?=some (some (.lst ds)))(hσ:σ[i]?=some (some (.ref a)))(hF:F a=none)(ha:a∉as)(hP:¬P a)(r:Rps K F as xs' ds'):SlO K md P (ρ.set i (some (.lst ds'))) σ (upd H a (.lst xs')) F as:=by
 have hi:i<md.length:=(zl.mp hm).1;refine⟨s.len,by rw[jh];exact s.len',λc p=>?_,λj m d e1 e2=>?_,λj k c es fs h1 h2 h3 h4 h5 h6=>?_,λx hx=>?_⟩
 ·have:=s.pd c p
  unfold upd
  split
  ·exact λz=>nomatch z
  ·exact this
 ·by_cases h:i=j
  ·subst h;rw[hm] at e1;cases e1;rw[zS (by rw[s.len'];exact hi)] at e2;cases e2;exact⟨_,hσ,.inr ⟨a,xs',ds',rfl,rfl,bF,hF,ha,hP,r⟩⟩
  ·rw[zm h] at e2;obtain⟨v,q1,q2⟩:=s.sl j m d e1 e2;refine⟨v,q1,?_⟩
   cases m with
   |v=>exact q2
   |s =>
    rcases q2 with q2 | ⟨c,ys,es,z1,z2,z3,z4,z5,z6⟩
    ·exact .inl q2
    ·exact .inr ⟨c,ys,es,z1,z2,by rw[aG (λz=>hP (by rw[<-z];exact z5))];exact z3,z4,z5,z6⟩
   |o =>
    rcases q2 with q2 | ⟨c,ys,es,z1,z2,z3,z0,z4,z5,z6⟩
    ·exact .inl q2
    ·refine .inr ⟨c,ys,es,z1,z2,?_,z0,z4,z5,z6⟩;rw[aG]
     ·exact z3
     ·intro z;subst z z1 z2;exact h (s.inj i j c ds es hm e1 hρ e2 hσ q1)
 ·have f:∀k es,(ρ.set i (some (.lst ds')))[k]?=some (some (D.lst es))->∃es',ρ[k]?=some (some (D.lst es')):=λk es q=>by
   by_cases h:i=k
   ·subst h;exact⟨ds,hρ⟩
   ·rw[zm h] at q;exact⟨es,q⟩
  obtain⟨es',q3⟩:=f j es h3;obtain⟨fs',q4⟩:=f k fs h4;exact s.inj j k c es' fs' h1 h2 q3 q4 h5 h6
 ·obtain⟨p1,p2,p3⟩:=s.pin x hx
  have hne:i≠x.1:=λz=>by rw[<-z,hm] at p1;cases p1
  exact⟨p1,by rw[zm hne];exact p2,p3⟩
theorem Hc{xs:List V}(hH:H a=some (.lst xs))(hP:¬P a){o:HO}:GrS P H F as (upd H a o) F as :=
 ⟨λ_ _ _ _ _ _=>rfl,Same.refl F,⟨[],by simp,λ_ h=>nomatch h⟩,λc u p e _ _=>by rw[aG (λz=>hP (by rw[<-z];exact p))];exact e,λc e=>by
  by_cases h:c=a
  ·subst h;rw[bF] at e;cases e
  ·rwa [aG h] at e,λc o' u e=>by rw[aG (λz=>by rw[z,hH] at e;cases e)];exact e⟩
theorem RlO.mut(r:RlO K mg O H F as)(hF:F a=none)(ha:a∉as){o:HO}:RlO K mg O (upd H a o) F as:=by
 refine⟨λc u e=>?_,r.fd,r.nd,r.len,r.fa,λn c u hc hu=>(r.ob n c u hc hu).keep (aG ?_) (Same.refl F) λ_ _ h=>h⟩
 ·rw[aG (bV e hF)];exact r.fh c u e
 ·intro z;subst z;exact ha (zO hc)
end
section
variable {X:Cx}{md:List Md}{P:Pt}{R:RR}
def fV(i:Nat)(m:M D):MS:=λρ O=>match m ρ O with
 | .ok d O'=>match ρ[i]? with
  |some (some (.lst ds))=>if ds.length<1000000 then .nx (ρ.set i (some (.lst (ds++[d])))) O' else .no
  | _=>.no
 | .ex x O'=>.ex x O'
 | .no=>.no
theorem Uc{i:Nat}{m:M D}{ρ:aA}{O:aj}(K:Frag)(mg:Str->Option Value){D:Ends}{H F:Hp}{as:List Addr}(k:gf K mg md P R D H F as (fV i m ρ O)):
  ∃d O' ds,m ρ O=.ok d O'/\ρ[i]?=some (some (.lst ds))/\ds.length<1000000/\gf K mg md P R D H F as (.nx (ρ.set i (some (.lst (ds++[d])))) O'):=by
 unfold fV at k;split at k
 ·rename_i d O' e;split at k
  ·rename_i ds e2;split at k
   ·rename_i hz;exact⟨d,O',ds,e,e2,hz,k⟩
   ·exact False.elim k
  ·exact False.elim k
 ·exact False.elim k
 ·exact False.elim k
theorem um(i:Nat){x:Str}{p apos cpos pos:Pos}{e:Expr}{m:M D}(h:VE X md P e m)(hm:md[i]?=some .o:=by rfl)(hN:X.N[i]?=some x:=by rfl)(hv:Vis X.env.scope x:=by first | exact Or.inl rfl | exact Or.inr (Or.inl rfl) | exact Or.inr (Or.inr rfl))
  (hd:(x == ("__debug__":Str))=false:=by decide) (hcd:(x == ("__classdict__":Str))=false:=by decide)
  (hbase:attributeBase (.Name x p) "append" X.env (eval (.Name x p) X.env)=eval (.Name x p) X.env:=by rfl)
  (hfew:((backTo cpos (starEach [e] X.env)).all (λx=>!x.1)&&(backToKw cpos (keywordEach [] X.env)).all (λx=>x.1.isSome)&&decide ([e].length+([]:List Keyword).length+(if([]:List Keyword).isEmpty then 0 else 1)<30))=true:=by rfl)
  (hline:(apos.endLine == cpos.line)=true:=by rfl) (hs:starEach [e] X.env=(false,eval e X.env)::starEach [] X.env:=by exact dh rfl) (hplain:(backTo cpos (starEach [] X.env)).any (·.1)=false:=by exact dG rfl)
  (hsw:swapsWith (.Call (.Attribute (.Name x p) "append" apos) [e] [] cpos) none pos.line X.env=pure false:=by rfl):
  VS X md P R (.Expr (.Call (.Attribute (.Name x p) "append" apos) [e] [] cpos) pos) (fV i m):=
 (qy (w6 PySem.F.plainAttrs_list PySem.F.slot_list_append PySem.F.type_list_append Fv (lC (i:=i) hN hv hd hcd) (gJ h jQ hs) hbase hfew hline hs hplain) hsw).imp λD σ H q=>by
  obtain⟨ρ,O,F,as,r,s,k⟩:=q;obtain⟨d,O',ds,e,e2,hz,k⟩:=Uc X.K X.mg k;obtain⟨a,xs,h1,h2,h3,h4,h5,h6⟩:=s.own hm e2;refine⟨_,h1,.inl ⟨rfl,xs,.inl (.inl h2)⟩,ρ,O,F,as,d,O',r,s,e,λy H1 F1 as1 g1 r1 hy=>?_⟩;have s1:=s.step g1
  have hn:H a≠none:=by rw[h2];exact λz=>nomatch z
  have q2:=g1.fr _ _ h2 h4 rfl
  have q3:F1 a=none:=by rw[g1.fz a _ h2 h4 rfl];exact h3
  have q4:=g1.out h4 hn
  have hn1:H1 a≠none:=by rw[q2];exact λz=>nomatch z
  exact⟨a,xs,y,rfl,rfl,q2,by rw[h6.length];exact zL hz (by decide),k σ _ F1 as1 (g1.toS.trans (Hc q2 h5)) (r1.mut q3 q4) (s1.mut hm e2 h1 q3 q4 h5 ((h6.gr g1).snoc hy))⟩
def Ud(K:Frag):V->List V->Hp->VK->Prop:=λx vs H Q=>∃l b xs zs,x=.ref l/\vs=[.ref b]/\H l=some (.lst xs)/\RdK K H b zs/\xs.length+zs.length<=sizeLine/\Q .non (upd H l (.lst (xs++zs)))
theorem Ue:MtM X "list.extend" (Ud X.K):=by
 intro pins s σ H x vs v us Q I rx rv h;obtain⟨l,b,xs,zs,rfl,rfl,hH,hB,hz,q⟩:=h;cases rx;obtain⟨u,rfl,ru⟩:=rv.one;cases ru;obtain⟨z,its,n,r,hl,e⟩:=I.lstM hH;obtain⟨z2,its2,n2,r2,e2⟩:=hB.ok I;have hl2:=r2.length
 have hsz:its.toArray.size+its2.toArray.size<=sizeLine:=by rw[zG,zG];omega
 have hlong:¬(!its.toArray.isEmpty&&Builtin.List.listTooLong (its.toArray.size+its2.toArray.size))=true:=by
  rw[tR hsz,Bool.and_false];exact zq
 refine call_meets F.slot_list_extend ⟨_,e,rfl⟩ F.entry_list_extend (F.args_list_extend_2 _ _)
  (AutoSeq1.list_extend_list_list_0 l its.toArray n b its2.toArray n2 hlong (by rw[zG];omega) (by omega)) ⟨e,e2,?_⟩
 refine⟨.non,_,I.lset (its':=its++its2) hH e (by simp) (r.append r2) ?_,rfl,q⟩;rw[zv];omega
def nC(i:Nat)(m:M D):MS:=λρ O=>match m ρ O with
 | .ok d O'=>match ρ[i]?,bz O' d with
  |some (some (.lst ds)),.lst es=>if ds.length+es.length<=1000000 then .nx (ρ.set i (some (.lst (ds++es)))) O' else .no
  | _,_=>.no
 | .ex x O'=>.ex x O'
 | .no=>.no
theorem Ug{i:Nat}{m:M D}{ρ:aA}{O:aj}(K:Frag)(mg:Str->Option Value){D:Ends}{H F:Hp}{as:List Addr}(k:gf K mg md P R D H F as (nC i m ρ O)):
  ∃d O' ds es,m ρ O=.ok d O'/\ρ[i]?=some (some (.lst ds))/\bz O' d=.lst es/\ds.length+es.length<=1000000/\gf K mg md P R D H F as (.nx (ρ.set i (some (.lst (ds++es)))) O'):=by
 unfold nC at k;split at k
 ·rename_i d O' e;split at k
  ·rename_i ds es e2 e3;split at k
   ·rename_i hz;exact⟨d,O',ds,es,e,e2,e3,hz,k⟩
   ·exact False.elim k
  ·exact False.elim k
 ·exact False.elim k
 ·exact False.elim k
theorem Uh(i:Nat){x:Str}{p apos cpos pos:Pos}{e:Expr}{m:M D}(h:SE X md P e m)(hm:md[i]?=some .o:=by rfl)(hN:X.N[i]?=some x:=by rfl)(hv:Vis X.env.scope x:=by first | exact Or.inl rfl | exact Or.inr (Or.inl rfl) | exact Or.inr (Or.inr rfl))
  (hd:(x == ("__debug__":Str))=false:=by decide) (hcd:(x == ("__classdict__":Str))=false:=by decide)
  (hbase:attributeBase (.Name x p) "extend" X.env (eval (.Name x p) X.env)=eval (.Name x p) X.env:=by rfl)
  (hfew:((backTo cpos (starEach [e] X.env)).all (λx=>!x.1)&&(backToKw cpos (keywordEach [] X.env)).all (λx=>x.1.isSome)&&decide ([e].length+([]:List Keyword).length+(if([]:List Keyword).isEmpty then 0 else 1)<30))=true:=by rfl)
  (hline:(apos.endLine == cpos.line)=true:=by rfl) (hs:starEach [e] X.env=(false,eval e X.env)::starEach [] X.env:=by exact dh rfl) (hplain:(backTo cpos (starEach [] X.env)).any (·.1)=false:=by exact dG rfl)
  (hsw:swapsWith (.Call (.Attribute (.Name x p) "extend" apos) [e] [] cpos) none pos.line X.env=pure false:=by rfl):
  VS X md P R (.Expr (.Call (.Attribute (.Name x p) "extend" apos) [e] [] cpos) pos) (nC i m):=
 (qy (w6 PySem.F.plainAttrs_list PySem.F.slot_list_extend PySem.F.type_list_extend Ue (lC (i:=i) hN hv hd hcd) (gJ h jQ hs) hbase hfew hline hs hplain) hsw).imp λD σ H q=>by
  obtain⟨ρ,O,F,as,r,s,k⟩:=q;obtain⟨d,O',ds,es,e,e2,e3,hz,k⟩:=Ug X.K X.mg k;obtain⟨a,xs,h1,h2,h3,h4,h5,h6⟩:=s.own hm e2;refine⟨_,h1,.inl ⟨rfl,xs,.inl (.inl h2)⟩,ρ,O,F,as,d,O',r,s,e,λy H1 F1 as1 g1 r1 hy=>?_⟩;have s1:=s.step g1
  have hn:H a≠none:=by rw[h2];exact λz=>nomatch z
  have q2:=g1.fr _ _ h2 h4 rfl
  have q3:F1 a=none:=by rw[g1.fz a _ h2 h4 rfl];exact h3
  have q4:=g1.out h4 hn
  have hn1:H1 a≠none:=by rw[q2];exact λz=>nomatch z
  have ly:=Sv.lk hy r1;rw[e3] at ly;obtain⟨b,zs,rfl,w1,w2⟩:=ly.list r1.fh;exact⟨a,b,xs,zs,rfl,rfl,q2,w1,by rw[h6.length,w2.length];exact ir hz,k σ _ F1 as1 (g1.toS.trans (Hc q2 h5)) (r1.mut q3 q4) (s1.mut hm e2 h1 q3 q4 h5 (Rps.append w2 (h6.gr g1)))⟩
end
def putD(f:Str)(v:D):List (Str×D)->List (Str×D)
 | []=>[(f,v)]
 | (g,x)::r=>if g=f then(g,v)::r else(g,x)::putD f v r
section
variable {K:Frag}{F:Hp}{as:List Addr}
theorem FsR.cons_inv{gs:List (Str×V)}{f:Str}{d:D}{fs:List (Str×D)}(h:FsR K F as gs ((f,d)::fs)):∃v gs',gs=(f,v)::gs'/\Rp K F as v d/\FsR K F as gs' fs:=by
 obtain⟨h1,h2⟩:=h
 cases gs with
 |nil=>cases h1
 |cons g gs' =>
  obtain⟨g1,g2⟩:=g;simp only[zh,List.cons.injEq] at h1;obtain⟨x,r,e,h3,h4⟩:=h2.un;simp only[zh,List.cons.injEq] at e;obtain⟨rfl,rfl⟩:=e;exact⟨g2,gs',by rw[h1.1],h3,⟨h1.2,h4⟩⟩
theorem FsR.nil_inv{gs:List (Str×V)}(h:FsR K F as gs []):gs=[]:=List.map_eq_nil_iff.mp h.nm
theorem FsR.get:∀{fs:List (Str×D)}{gs:List (Str×V)}{f:Str}{d:D},FsR K F as gs fs->fs.lookup f=some d->∃v,gs.lookup f=some v/\Rp K F as v d
 | [],_,_,_,_,e=>by cases e
 | (g,x)::fs,gs,f,d,h,e=>by
  obtain⟨v,gs',rfl,h1,h2⟩:=h.cons_inv;rw[List.lookup_cons] at e ⊢
  cases q:f == g with
  |true =>
   rw[q] at e;cases e;exact⟨v,rfl,h1⟩
  |false =>
   rw[q] at e;exact FsR.get h2 e
theorem FsR.no:∀{fs:List (Str×D)}{gs:List (Str×V)}{f:Str},FsR K F as gs fs->fs.lookup f=none->gs.lookup f=none
 | [],_,_,h,e=>by rw[h.nil_inv];rfl
 | (g,x)::fs,gs,f,h,e=>by
  obtain⟨v,gs',rfl,h1,h2⟩:=h.cons_inv;rw[List.lookup_cons] at e ⊢
  cases q:f == g with
  |true=>rw[q] at e;cases e
  |false =>
   rw[q] at e;exact FsR.no h2 e
theorem FsR.put{f:Str}{v:V}{d:D}(hv:Rp K F as v d):∀{fs:List (Str×D)}{gs:List (Str×V)},FsR K F as gs fs->FsR K F as (dW f v gs) (putD f d fs)
 | [],_,h=>by
  rw[h.nil_inv];exact⟨rfl,Rps.cons hv Rps.nil⟩
 | (g,x)::fs,gs,h=>by
  obtain⟨u,gs',rfl,h1,h2⟩:=h.cons_inv;rw[dW,putD]
  by_cases q:g=f
  ·rw[if_pos q,if_pos q];exact⟨by simp[h2.nm],Rps.cons hv h2.vl⟩
  ·rw[if_neg q,if_neg q];have ih:=FsR.put (f:=f) hv h2;exact⟨by simp[ih.nm],Rps.cons h1 ih.vl⟩
theorem FsR.length{fs:List (Str×D)}{gs:List (Str×V)}(h:FsR K F as gs fs):gs.length=fs.length:=by
 have:=congrArg List.length h.nm
 simpa using this
theorem RlO.set{mg:Str->Option Value}{O:aj}{H:Hp}{n:Nat}{a:Addr}{o:Ob}{u:HO}(r:RlO K mg O H F as)(ha:as[n]?=some a)(ho:ObR K mg (upd H a u) F as a o):RlO K mg (O.set n o) (upd H a u) F as:=by
 have hF:=r.fa a (zO ha);refine⟨λc w e=>?_,r.fd,r.nd,by rw[jh];exact r.len,r.fa,λk c w hc hw=>?_⟩
 ·rw[aG (bV e hF)];exact r.fh c w e
 ·by_cases h:n=k
  ·subst h;rw[ha] at hc;cases hc;rw[zS (by rw[<-r.len];exact(zl.mp ha).1)] at hw;cases hw;exact ho
  ·rw[zm h] at hw
   refine(r.ob k c w hc hw).keep (aG ?_) (Same.refl F) λ_ _ h=>h
   intro z;subst z;obtain⟨l1,q1⟩:=zl.mp ha;obtain⟨l2,q2⟩:=zl.mp hc;exact h ((List.getElem_inj r.nd).mp (q1.trans q2.symm))
end
def KC(K:Frag)(mg:Str->Option Value)(c f:Str):Prop:=∃C,mg c=some (.ref C)/\Cls K C/\mL K C f
section
variable {X:Cx}{md:List Md}{P:Pt}{R:RR}
def dC(cs:List Str)(f:Str)(m:M D):M D:=λρ O=>(m ρ O).bind λd O1=>match d with
 | .ob n=>match O1[n]? with
  |some (.ins c fs)=>if c∈cs then match fs.lookup f with
   |some y=>.ok y O1
   |none=>.no else .no
  | _=>.no
 | _=>.no
theorem pA{cs:List Str}{f:Str}{o:Expr}{pos:Pos}{m:M D}(hc:∀c∈cs,KC X.K X.mg c f)(h:VE X md P o m)(hb:attributeBase o f X.env (eval o X.env)=eval o X.env:=by rfl):VE X md P (.Attribute o f pos) (dC cs f m):=(Qk h hb).imp λσ H Q q=>by
 obtain⟨ρ,O,F,as,d,O',r,s,e,k⟩:=q;obtain⟨x,O1,e1,e⟩:=Res.bind_ok e
 cases x with
 |ob n =>
  dsimp only at e;split at e
  ·rename_i c fs eo;split at e
   ·rename_i hcs;split at e
    ·rename_i y ey;cases e;refine⟨ρ,_,F,as,_,_,r,s,e1,λv H1 F1 as1 g1 r1 hv=>?_⟩;obtain⟨a,rfl,ha⟩:=Rp.unO hv;obtain⟨C,dx,gs,h1,h2,h3⟩:=r1.ob n a _ ha eo;obtain⟨C',h4,h5,h6⟩:=hc c hcs;rw[h1] at h4;cases h4;obtain⟨w,h7,h8⟩:=h3.get ey;exact⟨a,C,dx,gs,w,rfl,h2,h5,h6,h7,k w H1 F1 as1 g1 r1 h8⟩
    ·cases e
   ·cases e
  ·cases e
 | _=>cases e
def gk(cs:List Str)(f:Str)(mo mv:M D):MS:=λρ O=>match mv ρ O with
 | .ok d O1=>match mo ρ O1 with
  | .ok (.ob n) O2=>match O2[n]? with
   |some (.ins c fs)=>if c∈cs/\fs.length<900 then .nx ρ (O2.set n (.ins c (putD f d fs))) else .no
   | _=>.no
  | _=>.no
 | .ex x O'=>.ex x O'
 | .no=>.no
theorem xY{cs:List Str}{f:Str}{o value:Expr}{pos pos':Pos}{mo mv:M D}(hc:∀c∈cs,KC X.K X.mg c f)(ho:VE X md P o mo)(hv:VE X md P value mv)(hs:swapsWith value (some (.Attribute o f pos')) pos.line X.env=pure false:=by rfl):VS X md P R (.Assign [.Attribute o f pos'] value pos) (gk cs f mo mv):=(Ql ho hv hs).imp λD σ H q=>by
 obtain⟨ρ,O,F,as,r,s,k⟩:=q;unfold gk at k;split at k
 ·rename_i d O1 e1;split at k
  ·rename_i n O2 e2;split at k
   ·rename_i c fs eo;split at k
    ·rename_i hcs;refine⟨ρ,O,F,as,d,O1,r,s,e1,λy H1 F1 as1 g1 r1 hy=>?_⟩;refine⟨ρ,O1,F1,as1,.ob n,O2,r1,s.step g1,e2,λz H2 F2 as2 g2 r2 hz=>?_⟩;have g:=g1.trans g2;obtain⟨a,rfl,ha⟩:=Rp.unO hz;obtain⟨C,dx,gs,h1,h2,h3⟩:=r2.ob n a _ ha eo;obtain⟨C',h4,h5,h6⟩:=hc c hcs.1;rw[h1] at h4;cases h4;have hmem:=zO ha
     have hn:H2 a≠none:=by rw[h2];exact λz=>nomatch z
     have gg:Gr H2 F2 as2 (upd H2 a (.ins C dx (dW f y gs))) F2 as2:=⟨λ_ _ _ _ _=>rfl,Same.refl _,⟨[],by simp,λ_ h=>nomatch h⟩,λb u e hb _=>by rw[aG (λz=>hb (by rw[z];exact hmem))];exact e,λb e=>by
      by_cases h:b=a
      ·subst h;rw[bF] at e;cases e
      ·rwa [aG h] at e,λb o' u e=>by rw[aG (λz=>by rw[z,h2] at e;cases e)];exact e⟩
     refine⟨a,C,dx,gs,rfl,h2,h5,h6,by rw[h3.length];omega,?_⟩;exact k σ _ F2 as2 (g.trans gg).toS (r2.set ha ⟨C,dx,_,h1,bF,h3.put (Rp.gr hy g2)⟩) ((s.step g).step gg)
    ·exact False.elim k
   ·exact False.elim k
  ·exact False.elim k
 ·exact False.elim k
 ·exact False.elim k
end
section
variable {Pr:Program}{w:World}{K:Frag}{mg:Str->Option Value}{base:Heap}
theorem Hd{x qual:Str}{st:Stmt}{f:Addr}{fd:FuncData}{N ps:List Str}{k:Nat}(Fn:Fun K x qual st f fd)(S:bN N ps (aR st))
  (pm lm:List Md) {R:RR}{b:MS} (hR:gP R) (hR0:∀N H F as,R N H F as .non .non) (hpl:pm.length=ps.length) (hl:(pm++lm).length=N.length) (hp:∀m∈pm,m≠.o)
  (body:∀(cdv:Value) (A:Around) (outer:List Env) (s:Shared) (H:Hp) (E:XK),aX k (A.deeper (envOfC qual (aR st) s.heap.objs.size f cdv))->∀P,VSs ((il CX0 Pr w K mg base N qual (aR st) f cdv A outer s H E).nox) (pm++lm) P R (dz st) b):
  cA Pr w K mg base CX0 (k+1) f fd ps (vSp K mg pm R (bO N.length b)):=by
 refine Fn.ok S (λvs H Q E h=>?_) (λcdv A outer s H vs Q E hr h=>?_)
 ·obtain⟨ds,O,F,as,d,O',r,a,_⟩:=h;rw[a.len.1,hpl]
 ·obtain⟨ds,O,F,as,d,O',r,a,e,q⟩:=h;refine⟨_,body cdv A outer s H E hr (Pt.all H),?_⟩;refine⟨_,O,F,as,r,GP a hl hp,?_⟩;unfold bO at e
  cases eb:b (ds.map some++List.replicate (N.length - ds.length) none) O with
  |rt d' O2 =>
   rw[eb] at e;cases e
   exact λv H' F' as' g r' hv=>q v H' F' as' g.gr r' (hR _ _ _ _ _ _ _ (λc hc=>Classical.not_not.mp hc) hv)
  |nx ρ O2 =>
   rw[eb] at e;cases e
   exact λσ' H' F' as' g r' _=>q _ H' F' as' g.gr r' (hR0 _ _ _ _)
  |bk _ _=>rw[eb] at e;cases e
  |ct _ _=>rw[eb] at e;cases e
  |ex _ _=>rw[eb] at e;cases e
  |no=>rw[eb] at e;cases e
def nD(K:Frag)(mg:Str->Option Value)(c m qual:Str)(st:Stmt):Prop:=∃C f fd,mg c=some (.ref C)/\Cls K C/\mO K C m f/\Fun K m qual st f fd
def ie(P:Program)(w:World)(K:Frag)(mg:Str->Option Value)(base:Heap)(c m:Str)(ps:List Str)(k:Nat)(sp:Sp):Prop :=
 ∃C f fd,mg c=some (.ref C)/\Cls K C/\mO K C m f/\Binds K fd ps []/\cA P w K mg base CX0 k f fd ps sp
def uo(P:Program)(w:World)(K:Frag)(mg:Str->Option Value)(base:Heap)(c:Str)(ps:List Str)(k:Nat)(sp:Sp):Prop :=
 ∃C f fd,mg c=some (.ref C)/\Mk K C f/\Binds K fd ps []/\cA P w K mg base CX0 k f fd ps sp
def xZ(K:Frag)(mg:Str->Option Value)(c qual:Str)(st:Stmt):Prop:=∃C f fd,mg c=some (.ref C)/\Mk K C f/\Fun K "__init__" qual st f fd
theorem qU{c x qual:Str}{st:Stmt}{N ps:List Str}{k:Nat}(Df:nD K mg c x qual st)(S:bN N ps (aR st))
  (hb:∀(kV doc pm:Value) (an:Option Addr) (cdv ct:Value) (us:List Value),us.length=ps.length->bindArgs (PySem.W.fnOf x qual (gb st) (dz st) (aR st) .none kV doc pm an cdv ct) ⟨us,[]⟩=pure (ps.zip us))
  (pm lm:List Md) {R:RR}{b:MS} (hR:gP R) (hR0:∀N H F as,R N H F as .non .non) (hpl:pm.length=ps.length:=by rfl) (hl:(pm++lm).length=N.length:=by rfl) (hp:∀m∈pm,m≠.o:=by decide)
  (body:∀(f:Addr) (cdv:Value) (A:Around) (outer:List Env) (s:Shared) (H:Hp) (E:XK),aX k (A.deeper (envOfC qual (aR st) s.heap.objs.size f cdv))->∀P,VSs ((il CX0 Pr w K mg base N qual (aR st) f cdv A outer s H E).nox) (pm++lm) P R (dz st) b):
  ie Pr w K mg base c x ps (k+1) (vSp K mg pm R (bO N.length b)):=by
 obtain⟨C,f,fd,h1,h2,h3,h4⟩:=Df;exact⟨C,f,fd,h1,h2,h3,h4.binds hb,Hd h4 S pm lm hR hR0 hpl hl hp (body f)⟩
theorem Ui{c qual:Str}{st:Stmt}{N ps:List Str}{k:Nat}(Df:xZ K mg c qual st)(S:bN N ps (aR st))
  (hb:∀(kV doc pm:Value) (an:Option Addr) (cdv ct:Value) (us:List Value),us.length=ps.length->bindArgs (PySem.W.fnOf "__init__" qual (gb st) (dz st) (aR st) .none kV doc pm an cdv ct) ⟨us,[]⟩=pure (ps.zip us))
  (pm lm:List Md) {R:RR}{b:MS} (hR:gP R) (hR0:∀N H F as,R N H F as .non .non) (hpl:pm.length=ps.length:=by rfl) (hl:(pm++lm).length=N.length:=by rfl) (hp:∀m∈pm,m≠.o:=by decide)
  (body:∀(f:Addr) (cdv:Value) (A:Around) (outer:List Env) (s:Shared) (H:Hp) (E:XK),aX k (A.deeper (envOfC qual (aR st) s.heap.objs.size f cdv))->∀P,VSs ((il CX0 Pr w K mg base N qual (aR st) f cdv A outer s H E).nox) (pm++lm) P R (dz st) b):
  uo Pr w K mg base c ps (k+1) (vSp K mg pm R (bO N.length b)):=by
 obtain⟨C,f,fd,h1,h2,h4⟩:=Df;exact⟨C,f,fd,h1,h2,h4.binds hb,Hd h4 S pm lm hR hR0 hpl hl hp (body f)⟩
end
section
variable {X:Cx}{md:List Md}{P:Pt}{R:RR}{k:Nat}{c m:Str}{ps:List Str}{p pos apos:Pos}{o e:Expr}{es:List Expr}{pm:List Md}{cf:List D->aj->Res D}{mo:M D}{ma:M (List D)}
def bA(c m:Str)(cf:List D->aj->Res D)(mo:M D)(ma:M (List D)):M D:=λρ O=>(mo ρ O).bind λd O1=>match d with
 | .ob n=>match O1[n]? with
  |some (.ins c' fs)=>if c'=c/\(fs.lookup m).isNone=true then(ma ρ O1).bind λds O2=>cf (.ob n::ds) O2 else .no
  | _=>.no
 | _=>.no
theorem Hf{K:Frag}{mg:Str->Option Value}{C:Addr}(hR:gP R)(hC:mg c=some (.ref C)){E:XK}{σ:St}{H:Hp}{Q:VK}(q:tM K mg md P R (bA c m cf mo ma) σ H Q):
  wX C m (vSp K mg (.v::pm) R cf) [] E (tM K mg md P (rV K) mo) (tMA K mg md P pm ma) σ H Q:=by
 obtain⟨ρ,O,F,as,d,O',r,s,e,k⟩:=q;obtain⟨x,O1,e1,e⟩:=Res.bind_ok e
 cases x with
 |ob n =>
  dsimp only at e;split at e
  ·rename_i c' fs eo;split at e
   ·rename_i hc;obtain⟨ds,O2,e2,e⟩:=Res.bind_ok e;refine⟨ρ,O,F,as,.ob n,O1,r,s,e1,λv H1 F1 as1 g1 r1 hv=>?_⟩;obtain⟨a,rfl,ha⟩:=Rp.unO hv;obtain⟨C',dx,gs,h1,h2,h3⟩:=r1.ob n a _ ha eo;rw[hc.1,hC] at h1;cases h1;refine⟨a,dx,gs,rfl,h2,h3.no (Option.isNone_iff_eq_none.mp hc.2),?_⟩;refine⟨ρ,O1,F1,as1,ds,O2,r1,s.step g1,e2,λvs H2 F2 as2 g2 r2 hvs=>?_⟩;dsimp only;rw[je];exact⟨.ob n::ds,O2,F2,as2,d,O',r2,⟨Rp.gr hv g2,hvs⟩,e,λv' H' F' as' g' r' hw=>k v' H' F' as' ((g1.trans g2).trans g') r' (hR _ _ _ _ _ _ _ (λb hb=>(g1.trans g2).dm b hb) hw)⟩
   ·cases e
  ·cases e
 | _=>cases e
theorem Hg{pl:Sem Bool}(hR:gP R)(M:ie X.prog X.w X.K X.mg X.base c m ps k (vSp X.K X.mg (.v::pm) R cf))(hr:aX k X.A)(ho:VE X md P o mo)(ha:AE X md P pm (e::es) ma)
  (hst:starEach (e::es) X.env=(false,eval e X.env)::starEach es X.env:=by exact dh rfl) (hpl:(backTo pos (starEach es X.env)).any (·.1)=false:=by exact dG rfl)
  (ht:eval (.Call (.Attribute o m apos) (e::es) [] pos) X.env=(do
   let ov <-eval o X.env
   standAt apos.atName
   let (f,first) <-holding [ov] (getMethod ov m pl)
   callWith pos f first (backTo pos (starEach (e::es) X.env)) (backToKw pos (keywordEach [] X.env))):=by rfl):
  PE X (.Call (.Attribute o m apos) (e::es) [] pos) (tM X.K X.mg md P R (bA c m cf mo ma)):=by
 obtain⟨C,f,fd,h1,h2,h3,h4,h5⟩:=M
 exact(Qv (pl:=pl) (E:=E0) (ds:=[]) (dvs:=[]) ho h2 h3 h5 hr h4 .nil tU ha hst hpl ht).imp λ_ _ _ q=>Hf hR h1 q
theorem Uj{pl:Sem Bool}(hR:gP R)(M:ie X.prog X.w X.K X.mg X.base c m ps k (vSp X.K X.mg [.v] R cf))(hr:aX k X.A)(ho:VE X md P o mo)
  (ht:eval (.Call (.Attribute o m apos) [] [] pos) X.env=(do
   let ov <-eval o X.env
   standAt apos.atName
   let (f,first) <-holding [ov] (getMethod ov m pl)
   callWith pos f first (backTo pos (starEach [] X.env)) (backToKw pos (keywordEach [] X.env))):=by rfl):
  PE X (.Call (.Attribute o m apos) [] [] pos) (tM X.K X.mg md P R (bA c m cf mo au)):=by
 obtain⟨C,f,fd,h1,h2,h3,h4,h5⟩:=M
 refine(Qw (pl:=pl) (E:=E0) (ds:=[]) (dvs:=[]) ho h2 h3 h5 hr h4 .nil tU ht).imp λσ H Q q=>?_
 obtain⟨ρ,O,F,as,d,O',r,s,e,k⟩:=Hf (pm:=[]) (E:=E0) hR h1 q;refine⟨ρ,O,F,as,d,O',r,s,e,λv H' F' as' g r' hv=>?_⟩;obtain⟨a,dx,fs,e1,e2,e3,t⟩:=k v H' F' as' g r' hv;refine⟨a,dx,fs,e1,e2,e3,?_⟩;obtain⟨ρ1,O1,F1,as1,ds1,O2,r1,s1,e4,k4⟩:=t;cases e4;exact k4 [] H' F1 as1 Gr.refl r1 trivial
def nF(c:Str)(cf:List D->aj->Res D)(ma:M (List D)):M D:=λρ O=>(ma ρ O).bind λds O1=>match cf (.ob O1.length::ds) (O1++[.ins c []]) with
 | .ok .non O2=>.ok (.ob O1.length) O2
 | .ok _ _=>.no
 | .ex x O2=>.ex x O2
 | .no=>.no
theorem Uk{K:Frag}{mg:Str->Option Value}{C:Addr}(hC:mg c=some (.ref C)){E:XK}{σ:St}{H:Hp}{Q:VK}(q:tM K mg md P (rV K) (nF c cf ma) σ H Q):
  Ey C (vSp K mg (.v::pm) (rV K) cf) [] E (tMA K mg md P pm ma) σ H Q:=by
 obtain⟨ρ,O,F,as,d,O',r,s,e,k⟩:=q;obtain⟨ds,O1,e1,e⟩:=Res.bind_ok e;split at e
 ·rename_i O2 ec;cases e;refine⟨ρ,O,F,as,ds,O1,r,s,e1,λvs H1 F1 as1 g1 r1 hvs=>?_⟩;intro x dx hx hdx hne;rw[je]
  have hx2:upd H1 dx (.own x) x=none:=by rw[aG hne.symm];exact hx
  have gA:Gr H1 F1 as1 (upd H1 dx (.own x)) F1 as1:=Gr.lay hdx;have gB:Gr (upd H1 dx (.own x)) F1 as1 (upd (upd H1 dx (.own x)) x (.ins C dx [])) F1 as1:=Gr.lay hx2;have gC:Gr (upd (upd H1 dx (.own x)) x (.ins C dx [])) F1 as1 (upd (upd H1 dx (.own x)) x (.ins C dx [])) F1 as1:=Gr.refl;have gAB:=gA.trans gB;have g2:Gr H1 F1 as1 (upd (upd H1 dx (.own x)) x (.ins C dx [])) F1 (as1++[x]):=⟨gAB.fz,gAB.ff,⟨[x],rfl,λa ha=>by rw[zz.mp ha];exact hx⟩,λa o e ha hd=>gAB.fr a o e ha hd,gAB.dm,gAB.kz⟩
  have nx:x∉as1:=λz=>r1.all z hx
  have rB:=(r1.lay (o:=.own x) hdx).lay (o:=.ins C dx []) hx2
  have at_:∀(n:Nat) (a:Addr),as1[n]?=some a->(as1++[x])[n]?=some a:=λn a h=>by
   rw[zK (zl.mp h).1];exact h
  have r2:RlO K mg (O1++[.ins c []]) (upd (upd H1 dx (.own x)) x (.ins C dx [])) F1 (as1++[x]):=by
   refine⟨rB.fh,rB.fd,?_,by simp[r1.len],λa ha=>?_,λn a o ha ho=>?_⟩
   ·rw[jc];refine⟨r1.nd,by simp,λa ha b hb=>?_⟩;rw[zz.mp hb];intro z;subst z;exact nx ha
   ·rcases zA.mp ha with z | z
    ·exact r1.fa a z
    ·rw[zz.mp z];exact r1.frF hx
   ·by_cases hn:n<O1.length
    ·rw[zK (by rw[r1.len];exact hn)] at ha;rw[zK hn] at ho;exact(rB.ob n a o ha ho).keep rfl (Same.refl _) at_
    ·have hn':n=O1.length:=by
      have:=(zl.mp ho).1
      simp at this
      omega
     subst hn';rw[zJ (zd _),Nat.sub_self] at ho;rw[<-r1.len,zJ (zd _),Nat.sub_self] at ha;cases ho;cases ha;exact⟨C,dx,[],hC,bF,⟨rfl,Rps.nil⟩⟩
  have hox:Rp K F1 (as1++[x]) (.ref x) (.ob O1.length):=Rp.mkO (by rw[<-r1.len,zJ (zd _),Nat.sub_self];rfl);refine⟨.ob O1.length::ds,_,F1,as1++[x],.non,_,r2,⟨hox,hvs.gr g2⟩,ec,λv H3 F3 as3 g3 r3 hv=>?_⟩;exact⟨Rp.unN hv,k _ H3 F3 as3 ((g1.trans g2).trans g3) r3 (Rp.gr hox g3)⟩
 ·cases e
 ·cases e
 ·cases e
theorem Ul(M:uo X.prog X.w X.K X.mg X.base c ps k (vSp X.K X.mg (.v::pm) (rV X.K) cf))(hr:aX (k+1) X.A)(ha:AE X md P pm (e::es) ma)(hg:Gl X c:=by rfl)(hdb:(c == ("__debug__":Str))=false:=by decide)
  (he:starEach (e::es) X.env=(false,eval e X.env)::starEach es X.env:=by exact dh rfl) (hpl:(backTo pos (starEach es X.env)).any (·.1)=false:=by exact dG rfl):VE X md P (.Call (.Name c p) (e::es) [] pos) (nF c cf ma):=by
 obtain⟨C,f,fd,h1,h3,h4,h5⟩:=M
 exact(Qy (E:=E0) (ds:=[]) (dvs:=[]) h3 h5 hr hg h1 h4 .nil tU ha hdb he hpl).imp λ_ _ _ q=>Uk h1 q
end
section
variable {X:Cx}{md:List Md}{P:Pt}{R:RR}
def gIs(neg:Bool):D->D->Option D
 | .bl a,.bl b=>some (.bl (neg ^^ (a == b)))
 | _,_=>none
theorem Um:OpD X (compareOp .IsNot) (gIs true):=by
 intro pins s σ H x y v u Q I rx ry h;obtain⟨O,F,as,dx,dy,d,r,hx,hy,e,k⟩:=h
 cases dx with
 |bl a =>
  cases(hx.rp rfl).unB
  cases dy with
  |bl b =>
   cases(hy.rp rfl).unB;cases e;refine Su pins s σ H _ _ v u Q I rx ry ⟨a,b,rfl,rfl,?_⟩;rw[Bool.true_xor] at k;exact cO r k rfl Rp.bl
  | _=>cases e
 | _=>cases e
def pB:D->Option (List D)
 | .lst ds=>some ds
 | .tup ds=>some ds
 | .str l=>if ascii l=true then some (lM l) else none
 | _=>none
def cg(m:M D):M (List D):=λρ O=>(m ρ O).bind λd O1=>match pB d with
 |some ds=>.ok ds O1
 |none=>.no
theorem Hh{e:Expr}{m:M D}(h:WE X md P e m):SE X md P e m:=h.imp λσ H Q q=>by
 obtain⟨ρ,O,F,as,d,O',r,s,e,k⟩:=q;refine⟨ρ,O,F,as,d,O',r,s,e,λv H' F' as' g r' hv=>k v H' F' as' g r' ?_⟩
 rcases hv with hv | ⟨a,xs,ds,e1,e2,e3,e4,e5,e6⟩
 ·exact .inl hv
 ·exact .inr ⟨a,xs,ds,e1,e2,e3,e4,e6⟩
theorem pC{tg e:Expr}{m:M D}(h:WE X md P e m):VI X md P tg e (cg m):=λpins s σ H Q I q=>by
 obtain⟨ρ,O,F,as,ds,O',r,sl,e,k⟩:=q;obtain⟨d,O1,e1,e⟩:=Res.bind_ok e
 cases d with
 |lst es =>
  cases e;exact G9 h pins s σ H Q I ⟨ρ,O,F,as,_,_,r,sl,by unfold ph;rw[e1];rfl,k⟩
 |tup es =>
  cases e;exact Ha (bI (Hh h)) pins s σ H Q I ⟨ρ,O,F,as,_,_,r,sl,by unfold xT mG;rw[e1];rfl,k⟩
 |str l =>
  simp only[pB] at e;split at e
  ·rename_i es hes;split at hes
   ·rename_i hl;cases hes;cases e;refine Hb (Hh h) pins s σ H Q I ⟨ρ,O,F,as,lM l,_,r,sl,?_,k⟩;unfold xW;rw[e1];show(if ascii l=true then _ else _)=_;rw[if_pos hl]
   ·cases hes
  ·cases e
 | _=>cases e
theorem Uo{tg e:Expr}{m:M D}(h:SE X md P e m):VIc X md P tg e (ph m):=(wK h).imp λσ H Q q=>by
 obtain⟨ρ,O,F,as,ds,O',r,s,e,k⟩:=q;obtain⟨d,O1,e1,e⟩:=Res.bind_ok e
 cases d with
 |lst es =>
  cases e;refine⟨ρ,_,F,as,_,_,r,s,e1,λv H1 F1 as1 g1 r1 hv=>?_⟩
  obtain⟨a,xs,rfl,h1,h2⟩:∃a xs,v=.ref a/\Rps X.K F1 as1 xs ds/\∀(H2 F2:Hp) (as2:List Addr),Gr H1 F1 as1 H2 F2 as2->(∃O,RlO X.K X.mg O H2 F2 as2)->RdK X.K H2 a xs:=by
   rcases hv with hv | ⟨a,xs,ds',rfl,e,e3,e4,e6⟩
   ·obtain⟨a,xs,rfl,h1,h2⟩:=hv.unL;exact⟨a,xs,rfl,h2,λH2 F2 as2 g ⟨O,r⟩=>(h1.mono g.ff).mono r.fh⟩
   ·cases e;exact⟨a,xs,rfl,e6,λH2 F2 as2 g _=>.inl (.inl (g.fr _ _ e3 e4 rfl))⟩
  refine⟨a,rfl,⟨xs,(h2 H1 F1 as1 Gr.refl ⟨_,r1⟩).sq⟩,k _ H1 F1 as1 g1 r1 ⟨λi d H2 F2 as2 g r e=>?_,λH2 F2 as2 g r=>⟨xs,(h2 H2 F2 as2 g r).sq,by rw[h1.length];exact zd _⟩⟩⟩;obtain⟨x,h3,h4⟩:=h1.get' e;have q:=h2 H2 F2 as2 g r;refine⟨⟨xs,x,q.sq,h3⟩,λy H3 hy=>?_⟩;obtain⟨rfl,hy⟩:=hy
  have:=hy xs q.sq
  rw[h3] at this;cases this;exact⟨F2,Gr.refl,λ_ r=>r,h4.gr g⟩
 | _=>cases e
theorem lN{tg e:Expr}{m:M D}(h:SE X md P e m):VIc X md P tg e (cg m):=λpins s σ H Q I q=>by
 obtain⟨ρ,O,F,as,ds,O',r,sl,e,k⟩:=q;obtain⟨d,O1,e1,e⟩:=Res.bind_ok e
 cases d with
 |lst es =>
  cases e;exact Uo h pins s σ H Q I ⟨ρ,O,F,as,_,_,r,sl,by unfold ph;rw[e1];rfl,k⟩
 |tup es =>
  cases e;exact oW (Ha (bI h)) pins s σ H Q I ⟨ρ,O,F,as,_,_,r,sl,by unfold xT mG;rw[e1];rfl,k⟩
 |str l =>
  simp only[pB] at e;split at e
  ·rename_i es hes;split at hes
   ·rename_i hl;cases hes;cases e;refine oW (Hb h) pins s σ H Q I ⟨ρ,O,F,as,lM l,_,r,sl,?_,k⟩;unfold xW;rw[e1];show(if ascii l=true then _ else _)=_;rw[if_pos hl]
   ·cases hes
  ·cases e
 | _=>cases e
def Up(m:M D):M (List D):=λρ O=>(m ρ O).bind λd O1=>match d with
 | .lst ds=>.ok (qT 0 ds) O1
 | .str l=>if ascii l=true then .ok (qT 0 (lM l)) O1 else .no
 | _=>.no
variable {elts:List Expr}{x1:Nat}{tpos:Pos}
def Pt.with(P:Pt)(a:Addr)(i:Nat)(d:D)(l:List (Nat×V×D)):Pt:=⟨λc=>P c\/c=a,(i,.ref a,d)::(l++P.ss)⟩
end
theorem Uq{P:Program}{w:World}{K:PySem.W.Frag}{mg mb:Str->Option Value}{CX:CXT}{k:Nat}{fa a:Addr}{fd:FuncData}{x:Str}{sp:Sp}{s₁:Shared}{vs:List Value}{ns:List Int}
  (KX:K.In s₁.heap) (hns:s₁.heap.Ns mainGlobals mg) (hb:s₁.heap.Ns builtinsNs mb) (hbb:∀x:Str,x≠"__name__"->mb x=bootBuiltins x) (hlim:s₁.heap.NoLimit) (hg:s₁.gens = #[])
  (ha:s₁.heap.get? a=some {cls:=.type "list",data:=.seq vs.toArray}) (hi:IntsAre vs ns) (hl:ns.length<=sizeLine) (hr:aX k callerA)
  (F:∀base:Heap,K.In base->base.Ns mainGlobals mg->cA P w K mg base CX k fa fd [x] sp) (hbind:∀(s:Shared) (u:Value),BindsTo s fd ⟨[u],[]⟩ [(x,u)])
  (hsp:∀H:Hp,mR H->RdK K H a (ns.map V.int)->sp [.ref a] H (λv _=>v=.bl true) λ_ _ _=>False)
  (hCX:∀H e s',CX [] H s₁ (λ_ _ _=>False) e s'->False):
  codeAny (model P w) callerA (.call (.ref fa) ⟨[.ref a],[]⟩) (λr s'=>r=.ok (.ret (.bool true))/\OldK s₁.heap s'.heap/\s'.os=s₁.os/\AllBare s'.gens) s₁:=by
 have rv:=xf hi;have lenV:=hi.length;have core:∀H:Hp,mR H->RdK K H a (ns.map V.int)->HOk P w H s₁.heap->(∀b,H b≠none->b=a)->(H a≠none->K.lookup a=none) ->
   codeAny (model P w) callerA (.call (.ref fa) ⟨[.ref a],[]⟩) (λr s'=>r=.ok (.ret (.bool true))/\OldK s₁.heap s'.heap/\s'.os=s₁.os/\AllBare s'.gens) s₁:=by
  intro H hO hS hok hA hK
  have base_of:∀{b:Addr}{o:Obj},s₁.heap.get? b=some o->H b=none->(fZ s₁.heap H).get? b=some o:=λe n=>DP e n
  have noA:∀{b:Addr}{o:Obj}{es:Array DictEntry}{ep:Nat},s₁.heap.get? b=some o->o.data=.dict es ep->H b=none:=λ{b o es ep} e d=>by
   cases q:H b with
   |none=>rfl
   |some u =>
    have e':b=a:=hA b (by rw[q];simp);subst e';rw[ha] at e;cases e;have d':Data.seq vs.toArray _=Data.dict es ep:=d;cases d'
  have nsK:∀{b:Addr}{m:Str->Option Value},s₁.heap.Ns b m->(fZ s₁.heap H).Ns b m:=λ{b m} ⟨o,es,ep,e,d,r⟩=>⟨o,es,ep,base_of e (noA e d),d,r⟩
  have hKb:K.In (fZ s₁.heap H):=λb o e=>base_of (KX b o e) (by
   cases q:H b with
   |none=>rfl
   |some u =>
    have e':b=a:=hA b (by rw[q];simp);subst e'
    rw[hK (by rw[q];simp)] at e;cases e)
  have hM:Mod K mg (fZ s₁.heap H):=⟨hKb,nsK hns,⟨mb,nsK hb,hbb⟩,let ⟨mc,h1,h2⟩:=hlim;⟨mc,nsK h1,h2⟩⟩;have e0:gK P w K mg (fZ s₁.heap H) callerA [] s₁ H:=⟨rfl,hM,λb o e=>DQ e,Nat.le_of_eq (DN _ _),trivial,λb hb=>absurd (show b∈([]:List Addr) from hb) (by simp),hok,.of_eq hg⟩
  refine codeAny_mono ((F _ hKb (nsK hns)).run callerA [] s₁ H ⟨[.ref a],[]⟩ [.ref a] [.ref a] _ _ hr e0 (hbind s₁ (.ref a)) (.cons rfl .nil) (hsp H hO hS)) λr s' h=>?_
  cases r with
  |error e=>exact(hCX H e s' h).elim
  |ok fl =>
   cases fl with
   |next=>exact False.elim h
   |brk=>exact False.elim h
   |cont=>exact False.elim h
   |ret u =>
    obtain⟨v,H',os,bare,un,hok',r',q⟩:=h;have q':v=.bl true:=q;subst q';obtain rfl:u=Value.bool true:=r';refine⟨rfl,OldK.of_keep λb o e=>?_,os,bare⟩
    cases q:H b with
    |none=>exact un.keep b o e q (by intro z;exact absurd (show b∈([]:List Addr) from z) (by simp)) (by simp)
    |some u =>
     rcases hO b with z | ⟨ob,xs,z⟩
     ·rw[q] at z;cases z
     ·have z2:=un.frzs b ob _ z;obtain⟨e1,_⟩:=hok b _ z;obtain⟨e2,_⟩:=hok' b _ z2;rw[e] at e1;cases e1;exact e2
 cases hk:K.lookup a with
 |some o =>
  have e:=KX a o hk;rw[ha] at e;cases e
  refine core (λ_=>none) (λ_=>.inl rfl) (.inr ⟨vs,_,hk,by rw[lenV];exact hl,rv⟩) (λb u z=>by have z':(none:Option HO)=some u:=z;cases z') (λb z=>absurd rfl z) λz=>absurd rfl z
 |none =>
  refine core (λb=>if b=a then some (.frz {cls:=.type "list",data:=.seq vs.toArray} (.lst (ns.map V.int))) else none) (λb=>?_) (.inl (.inr ⟨{cls:=.type "list",data:=.seq vs.toArray},if_pos rfl⟩)) (λb u z=>?_) (λb z=>?_) λ_=>hk
  ·by_cases hb:b=a
   ·exact .inr ⟨_,_,if_pos hb⟩
   ·exact .inl (if_neg hb)
  ·by_cases hb:b=a
   ·have z':=(if_pos hb).symm.trans z;cases z';subst hb;exact⟨ha,by rw[zj];exact hl,vs,_,rv,ha⟩
   ·have z':=(if_neg hb).symm.trans z;cases z'
  ·by_cases hb:b=a
   ·exact hb
   ·exact absurd (if_neg hb) z
theorem walk_ofR{l:PySem.W.OpenLaw}{n k:Nat}{q:Program}{loose:List Str}{XP:(Str->Option Value)->Heap->Prop}{YP:World->Heap->Prop}{d:DefRec}{K:Params->PySem.W.Frag}{CX:World->CXT}{sp:World->Sp}{x:Str}
  (hn:l.most=some n) (hn2:n<=sizeLine) (hdf:d.params.defaults=[]) (hr:aX k callerA)
  (hY:∀(w:World) (h:Heap),YP w h->(K w.params).In h)
  (F:∀(w:World) (mg:Str->Option Value) (fa:Addr) (h:Heap),(K w.params).In h->h.Ns mainGlobals mg->mg d.name=some (.ref fa) ->
   ∃fd:FuncData,(∀(s:Shared) (u:Value),BindsTo s fd ⟨[u],[]⟩ [(x,u)]) /\
    ∀base:Heap,(K w.params).In base->base.Ns mainGlobals mg->cA l.prog w (K w.params) mg base (CX w) k fa fd [x] (sp w))
  (hsp:∀(w:World) (H:Hp) (a:Addr) (ns:List Int),ns.length<=n->mR H->RdK (K w.params) H a (ns.map V.int)->sp w [.ref a] H (λv _=>v=.bl true) λ_ _ _=>False)
  (hCX:∀(w:World) (H:Hp) (s:Shared) (e:Value) (s':Shared),CX w [] H s (λ_ _ _=>False) e s'->False):
  PySem.W.WalkO q loose XP YP l.row.toRowW d [] (λf vs=>PySem.call f vs):=by
 refine Att.attach_call hn hdf λw s₀ s₁ mg mb fa o pm cd doc a vs ns G Y ho hd hcd hmg hobj hints hlen hg=>?_
 have KX:=hY w _ Y;obtain⟨fd,hb,hF⟩:=F w mg fa _ KX G.T.g hmg
 exact Uq KX G.T.g G.T.b G.T.builtins G.T.nolimit hg hobj hints (zH hlen hn2) hr hF hb (λH hO hS=>hsp w H a ns hlen hO hS) λH e s'=>hCX w H s₁ e s'
theorem j8{K:Frag}{mg:Str->Option Value}{f:Str}:∀c∈([]:List Str),KC K mg c f:=λ_ h=>nomatch h
theorem j9{K:Frag}{mg:Str->Option Value}{f c:Str}{cs:List Str}(h:KC K mg c f)(hr:∀c∈cs,KC K mg c f):∀c'∈c::cs,KC K mg c' f:=λc' hc=>by
 rcases zF.mp hc with rfl | hc
 ·exact h
 ·exact hr c' hc
def sp_law(K:Frag):Sp:=λvs H Q _=>∃(a:Addr) (ns:List Int),vs=[.ref a]/\RdK K H a (ns.map V.int)/\ns.length<=63/\mR H/\∀H',Q (.bl true) H'
theorem Rps.ofInts{K:Frag}{F:Hp}{as:List Addr}:∀ns:List Int,Rps K F as (ns.map V.int) (ns.map D.int)
 | []=>Rps.nil
 |n::ns=>Rps.cons Rp.int (Rps.ofInts ns)
theorem Ur{K:Frag}{mg:Str->Option Value}{c:List D->aj->Res D}(h:∀ns:List Int,ns.length<=63->∃O',c [.lst (ns.map D.int)] []=.ok (.bl true) O'):∀vs H Q E,sp_law K vs H Q E->vSp K mg [.s] (rV K) c vs H Q E:=by
 rintro vs H Q E ⟨a,ns,rfl,hS,hl,hO,q⟩;obtain⟨O',e⟩:=h ns hl
 have r:RlO K mg [] H H []:=⟨Same.refl H,λb o e=>by
  rcases hO b with z | ⟨o',xs,z⟩
  ·rw[e] at z;cases z
  ·rw[e] at z;cases z;rfl,List.nodup_nil,rfl,(λ_ z=>nomatch z),λn b o z=>by cases z⟩
 refine⟨[.lst (ns.map D.int)],[],H,[],.bl true,O',r,⟨.inl (Rp.mkL hS (Rps.ofInts ns)),trivial⟩,e,λv H' F' as' g r' hv=>?_⟩;rw[Rp.unB hv];exact q H'
def keyOf:D->Option Key
 | .int i=>some (.inl i)
 | .str l=>some (.inr (S l))
 | _=>none
theorem Us{d:D}{k:Key}(h:keyOf d=some k):oN k=d:=by
 cases d with
 |int i=>cases h;rfl
 |str l=>cases h;show D.str (S l).cps.toList=_;rw[oM]
 | _=>cases h
theorem Rp.key{K:Frag}{F:Hp}{as:List Addr}{v:V}{d:D}{k:Key}(h:Rp K F as v d)(e:keyOf d=some k):v=kV k:=by
 cases d with
 |int i=>cases e;exact h.unI
 |str l=>cases e;exact h.unS
 | _=>cases e
section
variable {X:Cx}{md:List Md}{P:Pt}
def Prs(K:Frag)(F:Hp)(as:List Addr):List (V×V)->List (D×D)->Prop
 | [],[]=>True
 |p::ps,d::ds=>Rp K F as p.1 d.1/\Rp K F as p.2 d.2/\Prs K F as ps ds
 | _,_=>False
def DPE(X:Cx)(md:List Md)(P:Pt)(pos:Pos)(keys:List (Option Expr))(values:List Expr)(m:M (List (D×D))):Prop:=∃trs:List (TE×TE),
 PPs X pos keys values trs/\∀σ H Q,(∃ρ O F as kv O',RlO X.K X.mg O H F as/\SlO X.K md P ρ σ H F as/\m ρ O=.ok kv O'/\∀ps H' F' as',Gr H F as H' F' as'->RlO X.K X.mg O' H' F' as'->Prs X.K F' as' ps kv->Q ps H')->xq trs σ H Q
def Ut:M (List (D×D)):=λ_ O=>.ok [] O
def Uu(mk mv:M D)(r:M (List (D×D))):M (List (D×D)):=λρ O=>(mk ρ O).bind λa O1=>(mv ρ O1).bind λb O2=>(r ρ O2).bind λps O3=>.ok ((a,b)::ps) O3
def keysOf:List (D×D)->Option (List Key)
 | []=>some []
 | (a,_)::r=>(keyOf a).bind λk=>(keysOf r).map (k :: ·)
theorem Prs.kvs{K:Frag}{F:Hp}{as:List Addr}:∀{kv:List (D×D)}{ps:List (V×V)}{ks:List Key},Prs K F as ps kv->keysOf kv=some ks ->
  ∃kvs:List (Key×V),ps=kvs.map (λp=>(kV p.1,p.2))/\kvs.map (·.1)=ks/\kv.map (·.1)=kvs.map (λp=>oN p.1)/\Rps K F as (kvs.map (·.2)) (kv.map (·.2))
 | [],ps,ks,h,e=>by
  cases ps with
  |nil=>cases e;exact⟨[],rfl,rfl,rfl,Rps.nil⟩
  |cons _ _=>exact h.elim
 | (a,b)::kv,ps,ks,h,e=>by
  cases ps with
  |nil=>exact h.elim
  |cons p ps =>
   obtain⟨p1,p2⟩:=p;unfold keysOf at e
   cases ea:keyOf a with
   |none=>rw[ea] at e;cases e
   |some k =>
    rw[ea] at e
    cases er:keysOf kv with
    |none=>rw[er] at e;cases e
    |some ks' =>
     rw[er] at e;cases e;obtain⟨kvs,h1,h2,h3,h4⟩:=Prs.kvs h.2.2 er;refine⟨(k,p2)::kvs,?_,?_,?_,Rps.cons h.2.1 h4⟩
     ·rw[zh,<-h1]
      have:p1=kV k:=Rp.key h.1 ea
      rw[this]
     ·rw[zh,h2]
     ·rw[zh,zh,h3,Us ea]
def Uv(m:M (List (D×D))):M D:=λρ O=>(m ρ O).bind λkv O1=>match keysOf kv with
 |some ks=>if ks.Nodup/\kv.length<=15 then .ok (.dic (kv.map (·.1)) (kv.map (·.2))) O1 else .no
 |none=>.no
theorem Prs.length{K:Frag}{F:Hp}{as:List Addr}:∀{kv:List (D×D)}{ps:List (V×V)},Prs K F as ps kv->ps.length=kv.length
 | [],[],_=>rfl
 | _::kv,_::ps,h=>by simp[Prs.length h.2.2]
 | [],_::_,h=>h.elim
 | _::_,[],h=>h.elim
end
section
variable {X:Cx}{md:List Md}{P:Pt}{k:Nat}{c x m:Str}{ps:List Str}{p pos apos:Pos}{o e:Expr}{es:List Expr}{pm:List Md}{cf:List D->aj->Res D}{mo:M D}{ma:M (List D)}
theorem bT(C:Can X.prog X.w X.K X.mg X.base x ps k (vSp X.K X.mg pm (rV X.K) cf))(hr:aX k X.A)(ha:AE X md P pm (e::es) ma)(hg:Gl X x:=by rfl)(hdb:(x == ("__debug__":Str))=false:=by decide)(he:starEach (e::es) X.env=(false,eval e X.env)::starEach es X.env:=by exact dh rfl)(hpl:(backTo pos (starEach es X.env)).any (·.1)=false:=by exact dG rfl):
  VE X md P (.Call (.Name x p) (e::es) [] pos) (aO cf ma):=GQ cL C hr ha hg hdb he hpl
theorem qW(C:Can X.prog X.w X.K X.mg X.base x ps k (vSp X.K X.mg pm (rO X.K) cf))(hr:aX k X.A)(ha:AE X md P pm (e::es) ma)(hg:Gl X x:=by rfl)(hdb:(x == ("__debug__":Str))=false:=by decide)(he:starEach (e::es) X.env=(false,eval e X.env)::starEach es X.env:=by exact dh rfl)(hpl:(backTo pos (starEach es X.env)).any (·.1)=false:=by exact dG rfl):
  OE X md P (.Call (.Name x p) (e::es) [] pos) (aO cf ma):=GQ gQ C hr ha hg hdb he hpl
theorem uq{pl:Sem Bool}(M:ie X.prog X.w X.K X.mg X.base c m ps k (vSp X.K X.mg (.v::pm) (rV X.K) cf))(hr:aX k X.A)(ho:VE X md P o mo)(ha:AE X md P pm (e::es) ma)(hst:starEach (e::es) X.env=(false,eval e X.env)::starEach es X.env:=by exact dh rfl)(hpl:(backTo pos (starEach es X.env)).any (·.1)=false:=by exact dG rfl)
  (ht:eval (.Call (.Attribute o m apos) (e::es) [] pos) X.env=(do
   let ov <-eval o X.env
   standAt apos.atName
   let (f,first) <-holding [ov] (getMethod ov m pl)
   callWith pos f first (backTo pos (starEach (e::es) X.env)) (backToKw pos (keywordEach [] X.env))):=by rfl):VE X md P (.Call (.Attribute o m apos) (e::es) [] pos) (bA c m cf mo ma):=Hg cL M hr ho ha hst hpl ht
theorem pF{pl:Sem Bool}(M:ie X.prog X.w X.K X.mg X.base c m ps k (vSp X.K X.mg (.v::pm) (rO X.K) cf))(hr:aX k X.A)(ho:VE X md P o mo)(ha:AE X md P pm (e::es) ma)(hst:starEach (e::es) X.env=(false,eval e X.env)::starEach es X.env:=by exact dh rfl)(hpl:(backTo pos (starEach es X.env)).any (·.1)=false:=by exact dG rfl)
  (ht:eval (.Call (.Attribute o m apos) (e::es) [] pos) X.env=(do
   let ov <-eval o X.env
   standAt apos.atName
   let (f,first) <-holding [ov] (getMethod ov m pl)
   callWith pos f first (backTo pos (starEach (e::es) X.env)) (backToKw pos (keywordEach [] X.env))):=by rfl):OE X md P (.Call (.Attribute o m apos) (e::es) [] pos) (bA c m cf mo ma):=Hg gQ M hr ho ha hst hpl ht
theorem ur{pl:Sem Bool}(M:ie X.prog X.w X.K X.mg X.base c m ps k (vSp X.K X.mg [.v] (rV X.K) cf))(hr:aX k X.A)(ho:VE X md P o mo)
  (ht:eval (.Call (.Attribute o m apos) [] [] pos) X.env=(do
   let ov <-eval o X.env
   standAt apos.atName
   let (f,first) <-holding [ov] (getMethod ov m pl)
   callWith pos f first (backTo pos (starEach [] X.env)) (backToKw pos (keywordEach [] X.env))):=by rfl):VE X md P (.Call (.Attribute o m apos) [] [] pos) (bA c m cf mo au):=Uj cL M hr ho ht
end
section
variable {X:Cx}{md:List Md}{P:Pt}{R:RR}{elts:List Expr}{x1:Nat}{tpos:Pos}
def iB:List D->List D->List D
 |d::ds,e::es=>.tup [d,e]::iB ds es
 | _,_=>[]
theorem Hi:∀(ds es:List D) (i:Nat) (x:D),(iB ds es)[i]?=some x->∃d e,ds[i]?=some d/\es[i]?=some e/\x=.tup [d,e]
 | [],es,i,x,h=>by simp[iB] at h
 |d::ds,[],i,x,h=>by simp[iB] at h
 |d::ds,e::es,0,x,h=>by
  simp[iB] at h
  exact⟨d,e,rfl,rfl,h.symm⟩
 |d::ds,e::es,i+1,x,h=>by
  obtain⟨d',e',h1,h2,h3⟩:=Hi ds es i x (by simpa [iB] using h);exact⟨d',e',by simpa using h1,by simpa using h2,h3⟩
def Hj(ma mb:M D):M (List D):=λρ O=>(ma ρ O).bind λd O1=>(mb ρ O1).bind λe O2=>match d,e with
 | .lst ds,.lst es=>.ok (iB ds es) O2
 | _,_=>.no
def Uw(m:MS):MS:=λρ O=>match m ρ O with
 | .rt d O'=>.rt d O'
 | _=>.no
theorem SlO.toV{K:Frag}{ρ:aA}{σ:St}{H F F':Hp}{as:List Addr}{i:Nat}(s:SlO K md P ρ σ H F as)(hm:md[i]?=some .o)(ff:Same F F')
  (hown:∀(j:Nat) (ds:List D) (a:Addr),j≠i->md[j]?=some .o->ρ[j]?=some (some (.lst ds))->σ[j]?=some (some (.ref a))->F' a=F a)
  (hv:∀d,ρ[i]?=some (some d)->∃v,σ[i]?=some (some v)/\Rp K F' as v d):SlO K (md.set i .v) P ρ σ H F' as:=by
 have hi:i<md.length:=(zl.mp hm).1
 have back:∀(j:Nat),(md.set i Md.v)[j]?=some Md.o->j≠i/\md[j]?=some .o:=λj e=>by
  by_cases hj:j=i
  ·subst hj;rw[zS hi] at e;cases e
  ·rw[zm (Ne.symm hj)] at e;exact⟨hj,e⟩
 refine⟨by rw[jh];exact s.len,by rw[jh];exact s.len',s.pd,λj m d e1 e2=>?_,λj k a ds es h1 h2 h3 h4 h5 h6=>s.inj j k a ds es (back j h1).2 (back k h2).2 h3 h4 h5 h6,λx hx=>?_⟩
 ·by_cases hj:j=i
  ·subst hj;rw[zS hi] at e1;cases e1;exact hv d e2
  ·rw[zm (Ne.symm hj)] at e1;obtain⟨v,q,t⟩:=s.sl j m d e1 e2;refine⟨v,q,?_⟩
   cases m with
   |v=>exact Rp.mono ff (λ_ _ z=>z) _ t
   |s =>
    rcases t with t | ⟨a,xs,ds,t1,t2,t3,t4,t5,t6⟩
    ·exact .inl (Rp.mono ff (λ_ _ z=>z) _ t)
    ·exact .inr ⟨a,xs,ds,t1,t2,t3,t4,t5,Rps.mono ff (λ_ _ z=>z) _ t6⟩
   |o =>
    rcases t with⟨t0,t⟩ | ⟨a,xs,ds,rfl,rfl,t3,t0,t4,t5,t6⟩
    ·exact .inl ⟨t0,Rp.mono ff (λ_ _ z=>z) _ t⟩
    ·exact .inr ⟨a,xs,ds,rfl,rfl,t3,by rw[hown j ds a hj e1 e2 q];exact t0,t4,t5,Rps.mono ff (λ_ _ z=>z) _ t6⟩
 ·obtain⟨p1,p2,p3⟩:=s.pin x hx
  have hne:i≠x.1:=λz=>by rw[<-z,hm] at p1;cases p1
  exact⟨by rw[zm hne];exact p1,p2,p3⟩
theorem Ux{st:List Stmt}:VSs X md P R st xF:=λpins s σ H D I q=>by
 obtain⟨ρ,O,F,as,r,s,k⟩:=q;exact False.elim k
end
section
variable {prog:Program}{w:World}{A:Around}{E:Value->Shared->Prop}
end
section
variable {X:Cx}{md:List Md}{P:Pt}{R:RR}
def mMl(m:M D):M D:=λρ O=>(m ρ O).bind λd O1=>match d with
 | .lst ds=>.ok (.ob O1.length) (O1++[.ml ds])
 |d=>.ok d O1
theorem pG{as:List Addr}{a:Addr}:∀(n:Nat) (c:Addr),as[n]?=some c->(as++[a])[n]?=some c:=λn c h=>by
 rw[zK (zl.mp h).1];exact h
theorem RlO.snocMl{K:Frag}{mg:Str->Option Value}{O:aj}{H F:Hp}{as:List Addr}{a:Addr}{xs:List V}{ds:List D}(r:RlO K mg O H F as)(hH:H a=some (.lst xs))(hF:F a=none)(ha:a∉as)(hx:Rps K F as xs ds):RlO K mg (O++[.ml ds]) H F (as++[a]):=by
 refine⟨r.fh,r.fd,jc.mpr ⟨r.nd,by simp,λc hc d hd=>by rw[zz.mp hd];exact λz=>ha (z ▸ hc)⟩,by rw[zv,zv,r.len];rfl,λc hc=>?_,λn c o hc ho=>?_⟩
 ·rcases zA.mp hc with hc | hc
  ·exact r.fa c hc
  ·rw[zz.mp hc];exact hF
 ·by_cases hn:n<as.length
  ·rw[zK hn] at hc;rw[zK (by rw[<-r.len];exact hn)] at ho;exact(r.ob n c o hc ho).keep rfl (Same.refl F) pG
  ·have hn':n=as.length:=by
    have:=(zl.mp hc).1
    rw[zv,jo] at this;omega
   subst hn';rw[zJ (zd _),Nat.sub_self] at hc;rw[r.len,zJ (zd _),Nat.sub_self] at ho;cases hc;cases ho;exact⟨xs,hH,Rps.mono (Same.refl F) pG _ hx⟩
theorem uv{e:Expr}{m:M D}(h:OE X md P e m):VE X md P e (mMl m):=h.imp λσ H Q q=>by
 obtain⟨ρ,O,F,as,d,O',r,s,e,k⟩:=q;obtain⟨x,O1,e1,e⟩:=Res.bind_ok e;refine⟨ρ,_,F,as,_,_,r,s,e1,λv H1 F1 as1 g1 r1 hv=>?_⟩
 rcases hv with⟨hn,hv⟩ | ⟨a,xs,ds,rfl,rfl,e3,e4,e5,e6,e7⟩
 ·cases x with
  |lst ds=>cases hn
  | _=>cases e;exact k v H1 F1 as1 g1 r1 hv
 ·cases e;obtain⟨new,en,hnw⟩:=g1.nw;refine k (.ref a) H1 F1 (as1++[a]) ⟨g1.fz,g1.ff,⟨new++[a],by rw[en,zM],λc hc=>?_⟩,g1.fr,g1.dm,g1.kz⟩ (r1.snocMl e3 e4 e5 e7) (Rp.mkO ?_)
  ·rcases zA.mp hc with hc | hc
   ·exact hnw c hc
   ·rw[zz.mp hc];exact e6
  ·rw[<-r1.len,zJ (zd _),Nat.sub_self];rfl
theorem nG{H F:Hp}{as:List Addr}{a:Addr}{h:HO}(ha:a∈as)(hh:H a=some h){o:HO}(hf:∀o u,h≠.frz o u:=by intro _ _ z;cases z):Gr H F as (upd H a o) F as :=
 ⟨λ_ _ _ _ _=>rfl,Same.refl F,⟨[],by simp,λ_ h=>nomatch h⟩,λc u e hn _=>by rw[aG (λz=>hn (by rw[z];exact ha))];exact e,λc e=>by
  by_cases h:c=a
  ·subst h;rw[bF] at e;cases e
  ·rwa [aG h] at e,λc o' u e=>by rw[aG (λz=>by rw[z,hh] at e;cases e;exact hf _ _ rfl)];exact e⟩
theorem RlO.mutO{K:Frag}{mg:Str->Option Value}{O:aj}{H F:Hp}{as:List Addr}{n:Nat}{a:Addr}{xs:List V}{ds:List D}(r:RlO K mg O H F as)(hn:as[n]?=some a)(hx:Rps K F as xs ds):RlO K mg (O.set n (.ml ds)) (upd H a (.lst xs)) F as:=by
 have ha:=zO hn;refine⟨λc u e=>?_,r.fd,r.nd,by rw[jh];exact r.len,r.fa,λm c o hc ho=>?_⟩
 ·rw[aG (λz=>by rw[z,r.fa a ha] at e;cases e)];exact r.fh c u e
 ·by_cases hm:m=n
  ·subst hm;rw[hn] at hc;cases hc
   have hlt:m<O.length:=by rw[<-r.len];exact(zl.mp hn).1
   rw[zS hlt] at ho;cases ho;exact⟨xs,bF,hx⟩
  ·rw[zm (Ne.symm hm)] at ho
   refine(r.ob m c o hc ho).keep (aG λz=>hm ?_) (Same.refl F) λ_ _ h=>h
   obtain⟨q0,q1⟩:=zl.mp hc;obtain⟨p0,p1⟩:=zl.mp hn;exact(List.getElem_inj r.nd).mp (q1.trans (z.trans p1.symm))
theorem RlO.ml{K:Frag}{mg:Str->Option Value}{O:aj}{H F:Hp}{as:List Addr}{n:Nat}{a:Addr}{ds:List D}(r:RlO K mg O H F as)(hn:as[n]?=some a)(hO:O[n]?=some (.ml ds)):∃xs,H a=some (.lst xs)/\Rps K F as xs ds:=r.ob n a _ hn hO
def kh(mo m:M D):MS:=λρ O=>match mo ρ O with
 | .ok (.ob n) O1=>match O1[n]? with
  |some (.ml _)=>match m ρ O1 with
   | .ok d O2=>match O2[n]? with
    |some (.ml ds)=>if ds.length<1000000 then .nx ρ (O2.set n (.ml (ds++[d]))) else .no
    | _=>.no
   | _=>.no
  | _=>.no
 | _=>.no
theorem yc{o e:Expr}{apos cpos pos:Pos}{mo m:M D}(ho:VE X md P o mo)(h:VE X md P e m)
  (hbase:attributeBase o "append" X.env (eval o X.env)=eval o X.env:=by rfl)
  (hfew:((backTo cpos (starEach [e] X.env)).all (λx=>!x.1)&&(backToKw cpos (keywordEach [] X.env)).all (λx=>x.1.isSome)&&decide ([e].length+([]:List Keyword).length+(if([]:List Keyword).isEmpty then 0 else 1)<30))=true:=by rfl)
  (hline:(apos.endLine == cpos.line)=true:=by rfl) (hs:starEach [e] X.env=(false,eval e X.env)::starEach [] X.env:=by exact dh rfl) (hplain:(backTo cpos (starEach [] X.env)).any (·.1)=false:=by exact dG rfl)
  (hsw:swapsWith (.Call (.Attribute o "append" apos) [e] [] cpos) none pos.line X.env=pure false:=by rfl):
  VS X md P R (.Expr (.Call (.Attribute o "append" apos) [e] [] cpos) pos) (kh mo m):=
 (qy (w6 PySem.F.plainAttrs_list PySem.F.slot_list_append PySem.F.type_list_append Fv ho (gJ h jQ hs) hbase hfew hline hs hplain) hsw).imp λD σ H q=>by
  obtain⟨ρ,O,F,as,r,s,k⟩:=q;unfold kh at k;split at k
  ·rename_i n O1 e1;split at k
   ·rename_i ds0 e2;split at k
    ·rename_i d O2 e3;split at k
     ·rename_i ds e4;split at k
      ·rename_i hz;refine⟨ρ,O,F,as,_,_,r,s,e1,λv H1 F1 as1 g1 r1 hv=>?_⟩;obtain⟨a,rfl,ha⟩:=Rp.unO hv;obtain⟨xs0,x1,x2⟩:=r1.ml ha e2;refine⟨.inl ⟨rfl,xs0,.inl (.inl x1)⟩,ρ,O1,F1,as1,d,O2,r1,s.step g1,e3,λy H2 F2 as2 g2 r2 hy=>?_⟩;have ha2:=g2.at_ n a ha;obtain⟨xs,y1,y2⟩:=r2.ml ha2 e4;have g3:Gr H2 F2 as2 (upd H2 a (.lst (xs++[y]))) F2 as2:=nG (zO ha2) y1;exact⟨a,xs,y,rfl,rfl,y1,by rw[y2.length];exact zL hz (by decide),k σ _ F2 as2 ((g1.trans g2).trans g3).toS (r2.mutO ha2 (y2.snoc hy)) (s.step ((g1.trans g2).trans g3))⟩
      ·exact False.elim k
     ·exact False.elim k
    ·exact False.elim k
   ·exact False.elim k
  ·exact False.elim k
def pH(mo:M D):MS:=λρ O=>match mo ρ O with
 | .ok (.ob n) O1=>match O1[n]? with
  |some (.ml _)=>.nx ρ (O1.set n (.ml []))
  | _=>.no
 | _=>.no
theorem Uy{o:Expr}{apos cpos pos:Pos}{mo:M D}(ho:VE X md P o mo)
  (hbase:attributeBase o "clear" X.env (eval o X.env)=eval o X.env:=by rfl) (hline:(apos.endLine == cpos.line)=true:=by rfl)
  (hsw:swapsWith (.Call (.Attribute o "clear" apos) [] [] cpos) none pos.line X.env=pure false:=by rfl):
  VS X md P R (.Expr (.Call (.Attribute o "clear" apos) [] [] cpos) pos) (pH mo):=
 (qy (Q7 PySem.F.plainAttrs_list PySem.F.slot_list_clear PySem.F.type_list_clear Ra ho hbase hline) hsw).imp λD σ H q=>by
  obtain⟨ρ,O,F,as,r,s,k⟩:=q;unfold pH at k;split at k
  ·rename_i n O1 e1;split at k
   ·rename_i ds0 e2;refine⟨ρ,O,F,as,_,_,r,s,e1,λv H1 F1 as1 g1 r1 hv=>?_⟩;obtain⟨a,rfl,ha⟩:=Rp.unO hv;obtain⟨xs,x1,x2⟩:=r1.ml ha e2;have g3:Gr H1 F1 as1 (upd H1 a (.lst [])) F1 as1:=nG (zO ha) x1;exact⟨.inl ⟨rfl,xs,.inl (.inl x1)⟩,a,xs,rfl,rfl,x1,k σ _ F1 as1 (g1.trans g3).toS (r1.mutO ha Rps.nil) (s.step (g1.trans g3))⟩
   ·exact False.elim k
  ·exact False.elim k
def dF(n:Nat)(all:List D)(g:MG)(b:MS):List D->MS
 | [],ρ,O=>match O[n]? with
  |some (.ml es)=>if es.length=all.length then .nx ρ O else .no
  | _=>.no
 |d::ds,ρ,O=>match O[n]? with
  |some (.ml es)=>match es[all.length - (ds.length+1)]? with
   |some d'=>match g d' ρ with
    |none=>.no
    |some ρ1=>match b ρ1 O with
     | .nx ρ2 O2=>dF n all g b ds ρ2 O2
     | .ct ρ2 O2=>dF n all g b ds ρ2 O2
     | .bk ρ2 O2=>.nx ρ2 O2
     |r=>r
   |none=>.no
  | _=>.no
def jF(m:M D)(g:MG)(b:MS):MS:=λρ O=>match m ρ O with
 | .ok (.ob n) O'=>match O'[n]? with
  |some (.ml ds)=>dF n ds g b ds ρ O'
  | _=>.no
 | .ok (.lst ds) O'=>bJ g b ds ρ O'
 | _=>.no
theorem Uz{K:Frag}{mg:Str->Option Value}{m:M D}{g:MG}{b:MS}{n:Nat}{ds:List D}{D:Ends}{σ:St}{H F:Hp}{as:List Addr}{ρ:aA}{O O1:aj}(r:RlO K mg O H F as)(s:SlO K md P ρ σ H F as)(e:m ρ O=.ok (.ob n) O1)(e2:O1[n]?=some (.ml ds))
  (k:gf K mg md P R D H F as (dF n ds g b ds ρ O1)):wL (Ej K (tM K mg md P (rW K P) m)) (tMG K mg md P g) (tMS K mg md P R b) D σ H:=by
 refine⟨ρ,O,F,as,_,_,r,s,e,λv H1 F1 as1 g1 r1 hv=>?_⟩
 have hv':Rp K F1 as1 v (.ob n):=by
  rcases hv with hv | ⟨a,xs,ds',_,z,_⟩
  ·exact hv
  ·cases z
 obtain⟨a,rfl,ha⟩:=Rp.unO hv';obtain⟨xs0,x1,x2⟩:=r1.ml ha e2;have k1:=gW (R:=R) g1.toS k;refine⟨a,rfl,⟨xs0,.inl (.inl x1)⟩,λi m σ' H'=>m=ds.length - i/\i<=ds.length/\∃ρ' O' F' as',GrS P H1 F1 as1 H' F' as'/\RlO K mg O' H' F' as'/\SlO K md P ρ' σ' H' F' as'/\gf K mg md P R D H' F' as' (dF n ds g b (ds.drop i) ρ' O'),⟨ds.length,by simp,Nat.zero_le _,ρ,O1,F1,as1,GrS.refl,r1,s.step g1,by rw[List.drop_zero];exact k1⟩,?_⟩;rintro i t σ' H' ⟨rfl,hi,ρ',O',F',as',g',r',s',k'⟩;have ha':=g'.at_ n a ha
 by_cases hlt:i<ds.length
 ·rw[List.drop_eq_getElem_cons hlt] at k';unfold dF at k';split at k'
  ·rename_i es ee;obtain⟨xs,y1,y2⟩:=r'.ml ha' ee
   have hidx:ds.length - ((ds.drop (i+1)).length+1)=i:=by rw[List.length_drop];omega
   rw[hidx] at k';split at k'
   ·rename_i d' ed;obtain⟨x,hx,rx⟩:=y2.get' ed;have hsq:SqL K H' a xs:=.inl (.inl y1);refine .inr ⟨⟨xs,x,hsq,hx⟩,λσ2 H2=>∃ρ2 O2 F2 as2,GrS P H1 F1 as1 H2 F2 as2/\RlO K mg O2 H2 F2 as2/\SlO K md P ρ2 σ2 H2 F2 as2/\gf K mg md P R D H2 F2 as2 (dF n ds g b (ds.drop (i+1)) ρ2 O2),λσ2 H2 h2=>⟨ds.length - (i+1),by omega,rfl,hlt,h2⟩,λx' H3 y=>?_⟩;obtain⟨rfl,hy⟩:=y;have hxx:=hy xs hsq;rw[hx] at hxx;cases hxx;split at k'
    ·exact False.elim k'
    ·rename_i ρ1 eg;refine⟨ρ',O',F',as',d',ρ1,r',s',rx,eg,λσ4 s4=>?_⟩;refine⟨ρ1,O',F',as',r',s4,?_⟩
     cases eb:b ρ1 O' with
     |nx ρ2 O2 =>
      rw[eb] at k'
      exact λσ2 H2 F2 as2 g2 r2 s2=>⟨ρ2,O2,F2,as2,g'.trans g2,r2,s2,gW g2 k'⟩
     |ct ρ2 O2 =>
      rw[eb] at k'
      exact λσ2 H2 F2 as2 g2 r2 s2=>⟨ρ2,O2,F2,as2,g'.trans g2,r2,s2,gW g2 k'⟩
     |bk ρ2 O2 =>
      rw[eb] at k'
      exact λσ2 H2 F2 as2 g2 r2 s2=>k' σ2 H2 F2 as2 g2 r2 s2
     |rt d O2 =>
      rw[eb] at k'
      exact λv H2 F2 as2 g2 r2 s2=>k' v H2 F2 as2 g2 r2 s2
     |ex _ _=>rw[eb] at k';exact False.elim k'
     |no=>rw[eb] at k';exact False.elim k'
   ·exact False.elim k'
  ·exact False.elim k'
 ·have hi':i=ds.length:=by omega
  subst hi';rw[List.drop_length] at k';unfold dF at k';split at k'
  ·rename_i es ee;split at k'
   ·rename_i hl;obtain⟨xs,y1,y2⟩:=r'.ml ha' ee;exact .inl ⟨⟨xs,.inl (.inl y1),by rw[y2.length,hl];exact zd _⟩,k' σ' H' F' as' GrS.refl r' s'⟩
   ·exact False.elim k'
  ·exact False.elim k'
theorem ye{tg iter:Expr}{body:List Stmt}{pos:Pos}{m:M D}{g:MG}{b:MS}(hc:X.calm=true)(hi:WE X md P iter m)(hg:VG X md P tg g)(hb:VSs X md P R body b)(hp:PassesOwn (model X.prog X.w) X.A X.env X.xe:=by exact PassesOwn.never)
  (hs:∀x,foldedSetIterable iter X.env x=pure x:=by intro _;rfl):VS X md P R (.For tg iter body [] pos) (jF m g b):=λpins s σ H D I q=>by
 obtain⟨ρ,O,F,as,r,sl,k⟩:=q;unfold jF at k;split at k
 ·rename_i n O1 e1;split at k
  ·rename_i ds e2;exact Ek hp hc (wK hi) hg hb hs pins s σ H D I (Uz r sl e1 e2 k)
  ·exact False.elim k
 ·rename_i ds O1 e1;refine eG hc (G9 hi) hg hb hp hs pins s σ H D I ⟨ρ,O,F,as,r,sl,?_⟩;unfold cu
  have:ph m ρ O=.ok ds O1:=by unfold ph;rw[e1];rfl
  rw[this];exact k
 ·exact False.elim k
end
theorem cF{α:Type}{p:List α->Prop}(h:p []):∀us:List α,us.length=0->p us:=λus e=>by
 cases us with
 |nil=>exact h
 |cons a as=>cases e
theorem bc{α:Type}{p:List α->Prop}{n:Nat}(h:∀a,∀us:List α,us.length=n->p (a::us)):∀us:List α,us.length=n+1->p us:=λus e=>by
 cases us with
 |nil=>cases e
 |cons a as=>exact h a as (Nat.succ.inj e)
section
variable {prog:Program}{w:World}{κ:Type}[DecidableEq κ]{knd:HeapKind prog w κ}{A:Around}{E:Value->Shared->Prop}{s:Shared}
theorem UG{d a:Addr}{xs:List (κ×Addr×Value)}{k:κ}{v:Value}{Q:Value->Shared->Prop}(hu:knd.room A)(hk:knd.is s.heap k a)(hm:s.heap.DictOfH knd d xs)(hz:xs.length<=sizeLine)
  (h1:∀p,atKey xs k=some p->Q p.2 {s with toks:=s.toks+knd.draws k})
  (h2:atKey xs k=none->∀h',h'.DictOfH knd d (storedH xs k a v)->Heap.SameBut d s.heap h'->Q v {s with heap:=h',toks:=s.toks+knd.draws k}):
  wpAny (model prog w) A (dictSetDefault d (.ref a) v) Q E s:=by
 obtain⟨ob,es,ep,g1,g2,g3,g4,g5,g6⟩:=hm;unfold dictSetDefault
 (try (with_reducible refine zQ ?_))
 refine za (knd.pyHash hu hk (za (wpAny_dictFind_heap (s:={s with toks:=s.toks+knd.draws k}) hu hk g1 g3 g4 g5 g6 (λno=>?_) λj p hj=>?_)))
 ·have e0:=atKey_none_of_get no;have hnot:=not_mem_keys_of_get no
  refine za (zR (za (wpAny_updateDictKeys (hz:=by have e:=size_of_entries g4;omega) (s:={s with toks:=s.toks+knd.draws k}) g1 g3 (zc (h2 e0 _ ⟨_,_,ep+1,Heap.get?_update_self _ g1 (Obj.isFreed_of_dict (Obj.data_mapDictKeys g3 _)),
   g2.mapDictKeys _,Obj.data_mapDictKeys g3 _,?_,?_,?_⟩ (Heap.SameBut.update ..))))))
  ·rw[storedH_new e0];simp[g4,entryOfKey]
  ·rw[storedH_new e0];intro y hy
   rcases zA.mp hy with hy | hy
   ·exact knd.keeps (g5 y hy) g1 g3 (Heap.SameBut.update ..)
   ·rw[zz.mp hy];exact knd.keeps hk g1 g3 (Heap.SameBut.update ..)
  ·rw[storedH_new e0,zN,jc];refine⟨g6,by simp,λx hx y hy e=>?_⟩;simp only[zh,jf,zz] at hy;subst hy;exact hnot (e ▸ hx)
 ·refine za (wpAny_dictEntries (s:={s with toks:=s.toks+knd.draws k}) g1 g3 ?_);rw[entry_at g4 j,hj];exact za (zR (zc (h1 p (atKey_of_get g6 hj))))
theorem UJ(d a:Addr)(hd:(d == sysModules)=false)(v:Value):
  MeetsIn prog w (Builtin.«dict.setdefault» ⟨[.ref d,.ref a,v],[]⟩) (λA R s=>knd.room A.in1/\∃k xs,knd.is s.heap k a/\s.heap.DictOfH knd d xs/\xs.length<=sizeLine /\
   (∀p,atKey xs k=some p->R (.ok (.ret p.2)) {s with toks:=s.toks+knd.draws k}) /\
   (atKey xs k=none->∀h',h'.DictOfH knd d (storedH xs k a v)->Heap.SameBut d s.heap h'->R (.ok (.ret v)) {s with heap:=h',toks:=s.toks+knd.draws k})):=
 .of_wp λA R s ⟨hu,k,xs,hk,hm,hz,h1,h2⟩=>by
  unfold Builtin.«dict.setdefault»;refine za ?_;unfold Builtin.Dict.keyAndDefault;refine za (wpAny_notOrdered_dict hm.typeIs ?_);show wpAny _ _ (pure (d,Value.ref a,some v)) _ _ s;refine zc ?_;show wpAny _ _ (if(d == sysModules)=true then _ else(dictSetDefault d (.ref a) v >>= _)) _ _ s;rw[if_neg (by rw[hd];exact zq)];exact za (UG hu hk hm hz (λp hp=>zc ⟨_,rfl,h1 p hp⟩) λhn h' m' s'=>zc ⟨v,rfl,h2 hn h' m' s'⟩)
end
section
variable {X:Cx}{pins:List (Addr×Obj)}{σ:St}{H:Hp}{s:Shared}{a b:Addr}{v:V}{r:Value}{kvs:List (List Key×V)}{k:List Key}{A:Around}{E:Value->Shared->Prop}
theorem UL{Q:Value->Shared->Prop}(hu:A.units+1<cLine)(I:Inv X pins σ H s)(e:H a=some (.dT kvs))(eb:H b=some (.tup (k.map kV)))(hl:kvs.length<sizeLine)(rv:RelV v r)
  (h1:∀v0,dB kvs k=some v0->∀w' s',Inv X pins σ H s'->RelV v0 w'->Q w' s')
  (h2:dB kvs k=none->∀s',Inv X pins σ (upd H a (.dT (putK kvs k v))) s'->Q r s'):
  wpAny (model X.prog X.w) A (call (.builtin "dict.setdefault") [.ref a,.ref b,r]) Q E s:=by
 obtain⟨z,hd,xs,rel,dd⟩:=xn I.hok e
 have hz:xs.length<=sizeLine:=by rw[<-Paired.length rel];exact z
 have hl':(putK kvs k v).length<=sizeLine:=by have:=xj kvs k v;omega
 have rk:=rel.val k;refine call_meetsIn PySem.F.slot_dict_setdefault dd.typeIs PySem.F.entry_dict_setdefault (PySem.F.args_dict_setdefault_3 _ _ _) (UJ (knd:=tupleKind (cR X.prog X.w)) a b hd r) ⟨tupleKind_room_in1 hu,k,xs,mW I.hok eb,dd,hz,λp hp=>?_,λhp h' dd' hs=>?_⟩
 ·rw[hp] at rk
  cases hv:dB kvs k with
  |none=>rw[hv] at rk;cases rk
  |some v0 =>
   rw[hv] at rk;exact h1 v0 hv _ _ (I.tok _) rk
 ·rw[hp] at rk
  cases hv:dB kvs k with
  |some v0=>rw[hv] at rk;cases rk
  |none =>
   refine h2 hv _ ?_;obtain⟨q,es,ep,hq,q2,q3,q4,_,q5⟩:=dd';refine tV I (by rw[e];exact True.intro) hs ⟨q,hq⟩ ⟨hl',hd,_,(rel.put k eb rv).keeps λc ys ec=>?_,q,es,ep,hq,q2,q3,q4,q5⟩;rw[aG (ne_of ec e (λz=>nomatch z))];exact ec
end
def UT(td ty tx:TE):TE:=λσ H Q=>td σ H λx H1=>∃a,x=.ref a/\IsD H1 a/\ty σ H1 λy H2=>tx σ H2 λz H3=>∃kvs k b,H3 a=some (.dT kvs)/\y=.ref b/\H3 b=some (.tup (k.map kV))/\kvs.length<sizeLine /\
 (∀v,dB kvs k=some v->Q v H3)/\(dB kvs k=none->Q z (upd H3 a (.dT (putK kvs k z))))
theorem UV{X:Cx}{o e f:Expr}{apos cpos:Pos}{td ty tx:TE}(hu:X.A.units+1<cLine)(ho:PE X o td)(he:PE X e ty)(hf:PE X f tx)(m:M2 X o "setdefault" apos e f cpos):
  PE X (.Call (.Attribute o "setdefault" apos) [e,f] [] cpos) (UT td ty tx):=by
 intro pins s σ H Q I h;refine wpAny_Call_method m.base m.few m.line PySem.F.plainAttrs_dict PySem.F.slot_dict_setdefault PySem.F.type_dict_setdefault (thn (ho pins s σ H _ I h) λu s1 ⟨x,H1,I1,rx,a,ex,d,q1⟩=>?_);subst ex;obtain rfl:u=Value.ref a:=rx;obtain⟨t1,t2,_⟩:=FQ I1 d;refine⟨t1,t2,?_⟩;rw[m.trees]
 refine Calls.callWith_builtin rfl (Calls.evalArgs_plain (Calls.spliced_cons (thn (he pins s1 σ H1 _ I1 q1) λiv s2 ⟨y,H2,I2,ry,q2⟩ =>
  Calls.spliced_cons (thn (hf pins s2 σ H2 _ I2 q2) λfv s3 ⟨z,H3,I3,rz,kvs,k,b,ea,ey,eb,hl,q3,q4⟩=>Calls.spliced_nil ?_))))
 subst ey;obtain rfl:iv=Value.ref b:=ry
 exact UL hu I3 ea eb hl rz (λv0 hv w' s4 I4 rw'=>⟨v0,H3,I4,rw',q3 v0 hv⟩) λhn s4 I4=>⟨z,_,I4,rz,q4 hn⟩
def uw:List D->Option (List Key)
 | []=>some []
 | .int i::ds=>(uw ds).map (Sum.inl i :: ·)
 | _=>none
def lO:D->Option (List Key)
 | .tup (d::ds)=>uw (d::ds)
 | _=>none
theorem Rps.keys{K:Frag}{F:Hp}{as:List Addr}:∀{ds:List D}{xs:List V}{ks:List Key},Rps K F as xs ds->uw ds=some ks->xs=ks.map kV/\∃is:List Int,ks=is.map Sum.inl
 | [],xs,ks,h,e=>by cases e;exact⟨h.un0,[],rfl⟩
 | .int i::ds,xs,ks,h,e=>by
  obtain⟨x,r,rfl,h1,h2⟩:=h.un;obtain⟨ks',e1,rfl⟩:=Option.map_eq_some_iff.mp (show(uw ds).map (Sum.inl i :: ·)=some ks from e);obtain⟨q1,is,rfl⟩:=Rps.keys h2 e1;exact⟨by rw[h1.unI,q1];rfl,i::is,rfl⟩
 | .non::ds,xs,ks,h,e=>by cases e
 | .bl _::ds,xs,ks,h,e=>by cases e
 | .str _::ds,xs,ks,h,e=>by cases e
 | .lst _::ds,xs,ks,h,e=>by cases e
 | .tup _::ds,xs,ks,h,e=>by cases e
 | .dic _ _::ds,xs,ks,h,e=>by cases e
 | .ob _::ds,xs,ks,h,e=>by cases e
def qX:List Value->Bool
 | []=>true
 | .int _ _::r=>qX r
 | _=>false
def bK:Frag->Bool
 | []=>true
 |p::r=>(match p.2.data with
  | .seq its _=>its.toList.isEmpty || !qX its.toList
  | _=>true)&&bK r
theorem Hk{a:Addr}{o:Obj}{its:Array Value}{n:Nat}:∀{K:Frag},bK K=true->List.lookup a K=some o->o.data=.seq its n->(its.toList.isEmpty || !qX its.toList)=true
 | [],_,h,_=>by cases h
 |p::r,hk,h,hd=>by
  unfold bK at hk;rw[zw] at hk;rw[List.lookup_cons] at h;split at h
  ·cases h
   have:=hk.1
   rw[hd] at this;exact this
  ·exact Hk hk.2 h hd
theorem Hl:∀{is:List Int}{us:List Value},aP ((is.map (Sum.inl (β:=Str))).map kV) us->qX us=true
 | [],us,h=>by cases h;rfl
 |i::is,us,h=>by
  cases h with
  | @cons _ u _ us' r1 r2 =>
   obtain⟨t,rfl⟩:∃t,u=.int i t:=r1;show qX us'=true;exact Hl (is:=is) r2
theorem Rp.tkey{K:Frag}{F:Hp}{as:List Addr}{v:V}{d:D}{ks:List Key}(hk:bK K=true)(h:Rp K F as v d)(e:lO d=some ks):∃b,v=.ref b/\F b=some (.tup (ks.map kV)):=by
 cases d with
 |tup ds =>
  cases ds with
  |nil=>cases e
  |cons d ds =>
   obtain⟨b,xs,rfl,h1,h2⟩:=h.unT';obtain⟨ex,is,rfl⟩:=h2.keys e
   rcases h1 with h1 | ⟨o,its,n,l1,_,l3,_,l5⟩
   ·exact⟨b,rfl,by rw[h1,ex]⟩
   ·exfalso
    have q:=Hk hk l1 l3;rw[ex] at l5;rw[Hl l5,Bool.not_true,Bool.or_false,List.isEmpty_iff] at q;rw[q,<-ex] at l5;obtain⟨x,r,rfl,_,_⟩:=h2.un;cases l5
 | _=>cases e
def bf(kvs:List (List Key×D))(k:List Key):Option D:=(kvs.find? λp=>decide (p.1=k)).map (·.2)
def dD(kvs:List (List Key×D))(k:List Key)(d:D):List (List Key×D):=
 if(kvs.any λp=>decide (p.1=k))=true then kvs.map (λp=>if p.1=k then(p.1,d) else p) else kvs++[(k,d)]
def DtR(K:Frag)(F:Hp)(as:List Addr)(xs:List (List Key×V))(kvs:List (List Key×D)):Prop:=xs.map (·.1)=kvs.map (·.1)/\Rps K F as (xs.map (·.2)) (kvs.map (·.2))
section
variable {K:Frag}{mg:Str->Option Value}{O:aj}{H F H' F':Hp}{as as':List Addr}
theorem DtR.len{xs:List (List Key×V)}{kvs:List (List Key×D)}(h:DtR K F as xs kvs):xs.length=kvs.length:=by
 have:=congrArg List.length h.1
 simpa using this
theorem DtR.un{xs:List (List Key×V)}{p:List Key×D}{kvs:List (List Key×D)}(h:DtR K F as xs (p::kvs)):∃v r,xs=(p.1,v)::r/\Rp K F as v p.2/\DtR K F as r kvs:=by
 obtain⟨h1,h2⟩:=h
 cases xs with
 |nil=>cases h1
 |cons x r =>
  obtain⟨v,r',e,q1,q2⟩:=h2.un;cases e;rw[zh,zh] at h1;have q3:=(List.cons.inj h1).1;refine⟨x.2,r,?_,q1,(List.cons.inj h1).2,q2⟩;rw[<-q3]
theorem DtR.val{k:List Key}:∀{kvs:List (List Key×D)}{xs:List (List Key×V)},DtR K F as xs kvs->(bf kvs k=none/\dB xs k=none)\/∃d v,bf kvs k=some d/\dB xs k=some v/\Rp K F as v d
 | [],xs,h=>by
  have:=h.len
  cases xs with
  |nil=>exact .inl ⟨rfl,rfl⟩
  |cons=>cases this
 |p::kvs,xs,h=>by
  obtain⟨v,r,rfl,h1,h2⟩:=h.un
  by_cases e:p.1=k
  ·exact .inr ⟨p.2,v,by simp[bf,List.find?_cons,e],qH e,h1⟩
  ·rw[show bf (p::kvs) k=bf kvs k by simp[bf,List.find?_cons,e],qI (p:=(p.1,v)) e];exact DtR.val h2
theorem DtR.any{k:List Key}:∀{kvs:List (List Key×D)}{xs:List (List Key×V)},DtR K F as xs kvs->(xs.any λp=>decide (p.1=k))=kvs.any λp=>decide (p.1=k)
 | [],xs,h=>by
  have:=h.len
  cases xs with
  |nil=>rfl
  |cons=>cases this
 |p::kvs,xs,h=>by
  obtain⟨v,r,rfl,h1,h2⟩:=h.un;rw[List.any_cons,List.any_cons,DtR.any h2]
theorem DtR.repl{k:List Key}{v:V}{d:D}(hv:Rp K F as v d):∀{kvs:List (List Key×D)}{xs:List (List Key×V)},DtR K F as xs kvs ->
  DtR K F as (xs.map λp=>if p.1=k then(p.1,v) else p) (kvs.map λp=>if p.1=k then(p.1,d) else p)
 | [],xs,h=>by
  have:=h.len
  cases xs with
  |nil=>exact⟨rfl,Rps.nil⟩
  |cons=>cases this
 |p::kvs,xs,h=>by
  obtain⟨u,r,rfl,h1,h2⟩:=h.un;obtain⟨i1,i2⟩:=DtR.repl (k:=k) hv h2
  by_cases e:p.1=k
  ·rw[zh,zh,if_pos e,if_pos e];exact⟨by rw[zh,zh,i1],Rps.cons hv i2⟩
  ·rw[zh,zh,if_neg e,if_neg e];exact⟨by rw[zh,zh,i1],Rps.cons h1 i2⟩
theorem DtR.put{xs:List (List Key×V)}{kvs:List (List Key×D)}(h:DtR K F as xs kvs)(k:List Key){v:V}{d:D}(hv:Rp K F as v d):DtR K F as (putK xs k v) (dD kvs k d):=by
 unfold putK dD;rw[h.any]
 split
 ·exact h.repl hv
 ·exact⟨by rw[zN,zN,h.1];rfl,by rw[zN,zN];exact Rps.snoc h.2 hv⟩
theorem DtR.mono{xs:List (List Key×V)}{kvs:List (List Key×D)}(h:DtR K F as xs kvs)(e:Same F F')(ea:∀(n:Nat) (a:Addr),as[n]?=some a->as'[n]?=some a):DtR K F' as' xs kvs:=⟨h.1,Rps.mono e ea _ h.2⟩
theorem RlO.dt{n:Nat}{a:Addr}{kvs:List (List Key×D)}(r:RlO K mg O H F as)(hn:as[n]?=some a)(hO:O[n]?=some (.dt kvs)):∃xs,H a=some (.dT xs)/\DtR K F as xs kvs:=let ⟨xs,h1,h2,h3⟩:=r.ob n a _ hn hO;⟨xs,h1,h2,h3⟩
theorem RlO.snocO{a:Addr}{o:Ob}(r:RlO K mg O H F as)(hF:F a=none)(ha:a∉as)(ho:ObR K mg H F (as++[a]) a o):RlO K mg (O++[o]) H F (as++[a]):=by
 refine⟨r.fh,r.fd,jc.mpr ⟨r.nd,by simp,λc hc d hd=>by rw[zz.mp hd];exact λz=>ha (z ▸ hc)⟩,by rw[zv,zv,r.len];rfl,λc hc=>?_,λn c u hc hu=>?_⟩
 ·rcases zA.mp hc with hc | hc
  ·exact r.fa c hc
  ·rw[zz.mp hc];exact hF
 ·by_cases hn:n<as.length
  ·rw[zK hn] at hc;rw[zK (by rw[<-r.len];exact hn)] at hu;exact(r.ob n c u hc hu).keep rfl (Same.refl F) pG
  ·have hn':n=as.length:=by
    have:=(zl.mp hc).1
    rw[zv,jo] at this;omega
   subst hn';rw[zJ (zd _),Nat.sub_self] at hc;rw[r.len,zJ (zd _),Nat.sub_self] at hu;cases hc;cases hu;exact ho
theorem RlO.mutG{n:Nat}{a:Addr}{o:Ob}{h:HO}(r:RlO K mg O H F as)(hn:as[n]?=some a)(hx:ObR K mg (upd H a h) F as a o):RlO K mg (O.set n o) (upd H a h) F as:=by
 have ha:=zO hn;refine⟨λc u e=>?_,r.fd,r.nd,by rw[jh];exact r.len,r.fa,λm c u hc hu=>?_⟩
 ·rw[aG (λz=>by rw[z,r.fa a ha] at e;cases e)];exact r.fh c u e
 ·by_cases hm:m=n
  ·subst hm;rw[hn] at hc;cases hc
   have hlt:m<O.length:=by rw[<-r.len];exact(zl.mp hn).1
   rw[zS hlt] at hu;cases hu;exact hx
  ·rw[zm (Ne.symm hm)] at hu
   refine(r.ob m c u hc hu).keep (aG λz=>hm ?_) (Same.refl F) λ_ _ h=>h
   obtain⟨q0,q1⟩:=zl.mp hc;obtain⟨p0,p1⟩:=zl.mp hn;exact(List.getElem_inj r.nd).mp (q1.trans (z.trans p1.symm))
theorem RlO.unF{p:Addr}(r:RlO K mg O H F as)(hp:H p=none):F p=none:=by
 cases e:F p with
 |none=>rfl
 |some o=>rw[r.fh p o e] at hp;cases hp
theorem Gr.snoc{p:Addr}{o:HO}(hp:H p=none):Gr H F as (upd H p o) F (as++[p]):=
 ⟨λ_ _ _ _ _=>rfl,Same.refl F,⟨[p],rfl,λa h=>by rw[zz.mp h];exact hp⟩,λa u e _ _=>by rw[aG (bV e hp)];exact e,λa e=>by
  by_cases h:a=p
  ·subst h;exact hp
  ·rwa [aG h] at e,λa o' u e=>by rw[aG (bV e hp)];exact e⟩
end
section
variable {X:Cx}{md:List Md}{P:Pt}{R:RR}
def dJ:M D:=λ_ O=>.ok (.ob O.length) (O++[.dt []])
theorem nH{pos:Pos}:VE X md P (.Dict [] [] pos) dJ:=RC.imp λσ H Q q p hp=>by
 obtain⟨ρ,O,F,as,d,O',r,s,e,k⟩:=q;cases e;refine k _ _ F (as++[p]) (Gr.snoc hp) ((r.lay hp).snocO (r.unF hp) (λz=>r.all z hp) ⟨[],bF,rfl,Rps.nil⟩) (Rp.mkO ?_);rw[<-r.len,zJ (zd _),Nat.sub_self];rfl
def cV(mo my mv:M D):MS:=λρ O=>match mv ρ O with
 | .ok d O1=>match mo ρ O1 with
  | .ok (.ob n) O2=>match my ρ O2 with
   | .ok y O3=>match lO y,O3[n]? with
    |some k,some (.dt kvs)=>if kvs.length<1000000 then .nx ρ (O3.set n (.dt (dD kvs k d))) else .no
    | _,_=>.no
   | _=>.no
  | _=>.no
 | _=>.no
theorem jG{kk:Nat}(hk:bK X.K=true)(hr:aX kk X.A){o i value:Expr}{pos pos':Pos}{mo my mv:M D}(ho:VE X md P o mo)(hi:VE X md P i my)(hv:VE X md P value mv)
  (hs:swapsWith value (some (.Subscript o i pos')) pos.line X.env=pure false:=by rfl):VS X md P R (.Assign [.Subscript o i pos'] value pos) (cV mo my mv):=
 (Ry (mU hr) ho hi hv hs).imp λD σ H q=>by
  obtain⟨ρ,O,F,as,r,s,k⟩:=q;unfold cV at k;split at k
  ·rename_i d O1 e1;split at k
   ·rename_i n O2 e2;split at k
    ·rename_i y O3 e3;split at k
     ·rename_i ks kvs e4 e5;split at k
      ·rename_i hz;refine⟨ρ,O,F,as,_,_,r,s,e1,λv H1 F1 as1 g1 r1 hv=>⟨ρ,O1,F1,as1,_,_,r1,s.step g1,e2,λx H2 F2 as2 g2 r2 hx=>⟨ρ,O2,F2,as2,_,_,r2,s.step (g1.trans g2),e3,λu H3 F3 as3 g3 r3 hu=>?_⟩⟩⟩;obtain⟨a,rfl,ha⟩:=Rp.unO hx;have ha3:=g3.at_ n a ha;obtain⟨xs,x1,x2⟩:=r3.dt ha3 e5;obtain⟨b,rfl,hb⟩:=Rp.tkey hk hu e4;have hv3:=(show Rp X.K F1 as1 v d from hv).gr (g2.trans g3)
       have hl:xs.length<sizeLine:=by rw[x2.len];exact zL hz (by decide)
       have g4:Gr H3 F3 as3 (upd H3 a (.dT (putK xs ks v))) F3 as3:=nG (zO ha3) x1;have gg:=((g1.trans g2).trans g3).trans g4;obtain⟨z1,z2⟩:=x2.put ks hv3;exact⟨a,_,rfl,mX.t x1 (r3.fh _ _ hb) hl,k σ _ F3 as3 gg.toS (r3.mutG ha3 ⟨_,bF,z1,z2⟩) (s.step gg)⟩
      ·exact False.elim k
     ·exact False.elim k
    ·exact False.elim k
   ·exact False.elim k
  ·exact False.elim k
def ig(neg:Bool)(my mo:M D):M D:=λρ O=>(my ρ O).bind λy O1=>(mo ρ O1).bind λx O2=>match x with
 | .ob n=>match lO y,O2[n]? with
  |some k,some (.dt kvs)=>.ok (.bl (neg != (bf kvs k).isSome)) O2
  | _,_=>.no
 | _=>.no
theorem Hm{kk:Nat}(hk:bK X.K=true)(hr:aX kk X.A){o i:Expr}{pos:Pos}{mo my:M D}(hi:VE X md P i my)(ho:VE X md P o mo)(hm:behindInMarks .In o=false:=by with_unfolding_all rfl):OE X md P (.Compare i [.In] [o] pos) (ig false my mo):=
 (wI (Rw (mU hr) hi ho) hm).imp λσ H Q q=>by
  obtain⟨ρ,O,F,as,d,O',r,s,e,k⟩:=q;obtain⟨y,O1,e1,e⟩:=Res.bind_ok e;obtain⟨x,O2,e2,e⟩:=Res.bind_ok e;split at e
  ·rename_i n;split at e
   ·rename_i ks kvs e3 e4;cases e;refine⟨ρ,_,F,as,_,_,r,s,e1,λu H1 F1 as1 g1 r1 hu=>⟨ρ,_,F1,as1,_,_,r1,s.step g1,e2,λx H2 F2 as2 g2 r2 hx=>?_⟩⟩;obtain⟨a,rfl,ha⟩:=Rp.unO hx;obtain⟨xs,x1,x2⟩:=r2.dt ha e4;obtain⟨b,rfl,hb⟩:=Rp.tkey hk ((show Rp X.K F1 as1 u y from hu).gr g2) e3;refine⟨a,_,rfl,eX.t x1 (r2.fh _ _ hb),?_⟩
    rcases x2.val (k:=ks) with⟨z1,z2⟩ | ⟨d',v',z1,z2,z3⟩
    ·rw[z1] at k;rw[z2];exact k _ H2 F2 as2 (g1.trans g2) r2 (.inl ⟨rfl,Rp.bl⟩)
    ·rw[z1] at k;rw[z2];exact k _ H2 F2 as2 (g1.trans g2) r2 (.inl ⟨rfl,Rp.bl⟩)
   ·cases e
  ·cases e
def iU(mo my mz:M D):M D:=λρ O=>(mo ρ O).bind λx O1=>match x with
 | .ob n=>match O1[n]? with
  |some (.dt _)=>(my ρ O1).bind λy O2=>(mz ρ O2).bind λz O3=>match lO y,O3[n]? with
   |some k,some (.dt kvs)=>.ok ((bf kvs k).getD z) O3
   | _,_=>.no
  | _=>.no
 | _=>.no
theorem yg{kk:Nat}(hk:bK X.K=true)(hr:aX kk X.A){o e f:Expr}{apos cpos:Pos}{mo my mz:M D}(ho:VE X md P o mo)(he:VE X md P e my)(hf:VE X md P f mz)(m:M2 X o "get" apos e f cpos:=by exact⟨rfl,rfl,rfl,rfl⟩):VE X md P (.Call (.Attribute o "get" apos) [e,f] [] cpos) (iU mo my mz):=
 (RJ (mU hr) ho he hf m).imp λσ H Q q=>by
  obtain⟨ρ,O,F,as,d,O',r,s,e,k⟩:=q;obtain⟨x,O1,e1,e⟩:=Res.bind_ok e;split at e
  ·rename_i n;split at e
   ·rename_i kv0 e0;obtain⟨y,O2,e2,e⟩:=Res.bind_ok e;obtain⟨z,O3,e3,e⟩:=Res.bind_ok e;split at e
    ·rename_i ks kvs e4 e5;cases e;refine⟨ρ,_,F,as,_,_,r,s,e1,λv H1 F1 as1 g1 r1 hv=>?_⟩;obtain⟨a,rfl,ha⟩:=Rp.unO hv;obtain⟨xs0,w1,w2⟩:=r1.dt ha e0;refine⟨a,rfl,.inr ⟨xs0,.inl w1⟩,ρ,_,F1,as1,_,_,r1,s.step g1,e2,λu H2 F2 as2 g2 r2 hu=>⟨ρ,_,F2,as2,_,_,r2,s.step (g1.trans g2),e3,λw H3 F3 as3 g3 r3 hw=>?_⟩⟩;obtain⟨xs,x1,x2⟩:=r3.dt ((g2.trans g3).at_ n a ha) e5;obtain⟨b,rfl,hb⟩:=Rp.tkey hk ((show Rp X.K F2 as2 u y from hu).gr g3) e4;have g13:=(g1.trans g2).trans g3;refine⟨_,eX.t x1 (r3.fh _ _ hb),?_⟩
     rcases x2.val (k:=ks) with⟨z1,z2⟩ | ⟨d',v',z1,z2,z3⟩
     ·rw[z1] at k;rw[z2];exact k _ H3 F3 as3 g13 r3 hw
     ·rw[z1] at k;rw[z2];exact k _ H3 F3 as3 g13 r3 z3
    ·cases e
   ·cases e
  ·cases e
def nJ(mo my mz:M D):M D:=λρ O=>(mo ρ O).bind λx O1=>match x with
 | .ob n=>match O1[n]? with
  |some (.dt _)=>(my ρ O1).bind λy O2=>(mz ρ O2).bind λz O3=>match lO y,O3[n]?,z with
   |some k,some (.dt kvs),.lst ds=>if kvs.length<1000000 then match bf kvs k with
     |some d=>.ok d O3
     |none=>.ok (.ob O3.length) (List.set (O3++[Ob.ml ds]) n (.dt (dD kvs k (.ob O3.length))))
    else .no
   | _,_,_=>.no
  | _=>.no
 | _=>.no
theorem UW{kk:Nat}(hk:bK X.K=true)(hr:aX kk X.A){o e f:Expr}{apos cpos:Pos}{mo my mz:M D}(ho:VE X md P o mo)(he:VE X md P e my)(hf:OE X md P f mz)(m:M2 X o "setdefault" apos e f cpos:=by exact⟨rfl,rfl,rfl,rfl⟩):VE X md P (.Call (.Attribute o "setdefault" apos) [e,f] [] cpos) (nJ mo my mz):=
 (UV (mU hr) ho he hf m).imp λσ H Q q=>by
  obtain⟨ρ,O,F,as,d,O',r,s,e,k⟩:=q;obtain⟨x,O1,e1,e⟩:=Res.bind_ok e;split at e
  ·rename_i n;split at e
   ·rename_i kv0 e0;obtain⟨y,O2,e2,e⟩:=Res.bind_ok e;obtain⟨z,O3,e3,e⟩:=Res.bind_ok e;split at e
    ·rename_i ks kvs ds e4 e5;split at e
     ·rename_i hz;refine⟨ρ,_,F,as,_,_,r,s,e1,λv H1 F1 as1 g1 r1 hv=>?_⟩;obtain⟨a,rfl,ha⟩:=Rp.unO hv;obtain⟨xs0,w1,w2⟩:=r1.dt ha e0;refine⟨a,rfl,.inr ⟨xs0,.inl w1⟩,ρ,_,F1,as1,_,_,r1,s.step g1,e2,λu H2 F2 as2 g2 r2 hu=>⟨ρ,_,F2,as2,_,_,r2,s.step (g1.trans g2),e3,λw H3 F3 as3 g3 r3 hw=>?_⟩⟩;have ha3:=(g2.trans g3).at_ n a ha;obtain⟨xs,x1,x2⟩:=r3.dt ha3 e5;obtain⟨b,rfl,hb⟩:=Rp.tkey hk ((show Rp X.K F2 as2 u y from hu).gr g3) e4;have g13:=(g1.trans g2).trans g3
      have hl:xs.length<sizeLine:=by rw[x2.len];exact zL hz (by decide)
      refine⟨xs,ks,b,x1,rfl,r3.fh _ _ hb,hl,λv' hv'=>?_,λhn=>?_⟩
      ·rcases x2.val (k:=ks) with⟨z1,z2⟩ | ⟨d',v2,z1,z2,z3⟩
       ·rw[z2] at hv';cases hv'
       ·rw[z2] at hv';cases hv';rw[z1] at e;cases e;exact k _ H3 F3 as3 g13 r3 z3
      ·rcases x2.val (k:=ks) with⟨z1,z2⟩ | ⟨d',v2,z1,z2,z3⟩
       ·rw[z1] at e;cases e
        rcases hw with⟨hw,_⟩ | ⟨p,ys,ds',rfl,q2,q3,q4,q5,q6,q7⟩
        ·cases hw
        ·cases q2;have r4:=r3.snocO q4 q5 (o:=.ml ds) ⟨ys,q3,Rps.mono (Same.refl F3) pG _ q7⟩;have ha4:=pG (a:=p) n a ha3
         have hp4:(as3++[p])[O3.length]?=some p:=by
          rw[<-r3.len,zJ (zd _),Nat.sub_self];rfl
         obtain⟨z3,z4⟩:=(x2.mono (Same.refl F3) (pG (a:=p))).put ks (Rp.mkO (K:=X.K) (F:=F3) hp4);have r5:=r4.mutG (h:=.dT (putK xs ks (.ref p))) ha4 (o:=.dt (dD kvs ks (.ob O3.length))) ⟨_,bF,z3,z4⟩;obtain⟨new,en,hnw⟩:=g13.nw
         have g14:Gr H F as H3 F3 (as3++[p]):=⟨g13.fz,g13.ff,⟨new++[p],by rw[en,zM],λc hc=>by
          rcases zA.mp hc with hc | hc
          ·exact hnw c hc
          ·rw[zz.mp hc];exact(g1.trans g2).dm p q6⟩,g13.fr,g13.dm,g13.kz⟩
         exact k _ _ F3 (as3++[p]) (g14.trans (nG (zO ha4) x1)) r5 (Rp.mkO hp4)
       ·rw[z2] at hn;cases hn
     ·cases e
    ·cases e
   ·cases e
  ·cases e
end
def gm(neg:Bool):D->D->Option D
 |x,.lst ds=>if(okE x&&ds.all okE)=true then some (.bl (neg ^^ ds.any λy=>iw y x)) else none
 | _,_=>none
theorem Hn{neg:Bool}{a b d:D}(h:gm neg a b=some d):∃ds,b=.lst ds/\okE a=true/\ds.all okE=true/\d=.bl (neg ^^ ds.any λy=>iw y a):=by
 unfold gm at h;split at h
 ·split at h
  ·rename_i hk;rw[zw] at hk;cases h;exact⟨_,rfl,hk.1,hk.2,rfl⟩
  ·cases h
 ·cases h
section
variable {X:Cx}
open Classical in
noncomputable def eqR(s:Shared)(x:PyData)(u:Value):Bool:=decide (∃d as,Reads s.heap u d as/\d.canLay0=true/\PyData.eqv d x=true)
open Classical in
theorem U0{s:Shared}{x d:PyData}{u:Value}{as:List Addr}(h:Reads s.heap u d as)(hd:d.canLay0=true):eqR s x u=PyData.eqv d x:=by
 unfold eqR
 cases e:PyData.eqv d x with
 |true=>exact zx ⟨d,as,h,hd,e⟩
 |false =>
  refine zp λ⟨d',as',h',hd',e'⟩=>?_
  rw[<-SeqAt.Reads.unique d d' u as as' hd h h',e] at e';cases e'
theorem yh{pins:List (Addr×Obj)}{σ:St}{H F:Hp}{as bs:List Addr}{s:Shared}{x:PyData}{v:Value}{k:Nat}(hr:aX k X.A)(I:Inv X pins σ H s)(fh:Same F H)(hx:Reads s.heap v x bs)(kx:okD x=true):
  ∀{ds:List D}{xs:List V}{us:List Value},Rps X.K F as xs ds->aP xs us->ds.all okE=true->(∀u∈us,SeqAt.EqAt X.A.in1 s u v (eqR s x u))/\us.any (eqR s x)=ds.any λy=>PyData.eqv (toP y) x
 | [],xs,us,h,r,_=>by
  rw[h.un0] at r;cases r;exact⟨λu hu=>(nomatch hu),rfl⟩
 |d::ds,xs,us,h,r,f=>by
  obtain⟨y,ys,rfl,h1,h2⟩:=h.un;rw[List.all_cons,zw] at f
  cases r with
  | @cons _ u _ us' r1 r2 =>
   obtain⟨i1,i2⟩:=yh hr I fh hx kx h2 r2 f.2;have f1:=f.1;unfold okE at f1;rw[zw] at f1;obtain⟨cs,rd⟩:=Rep.reads I _ (Lk.rep (Or.inl h1) fh f1.1) r1;have kd:=f1.2;unfold okD at kd kx;simp only[zw,decide_eq_true_eq] at kd kx;have e:=U0 (x:=x) rd kd.1;refine⟨λu' hu=>?_,?_⟩
   ·rcases zF.mp hu with rfl | hu
    ·rw[e];exact SeqAt.eqAt_reads _ _ _ _ _ _ _ _ rd hx kd.1 kx.1 (by have:=hr.units;show X.A.units+1+_<_;omega)
    ·exact i1 u' hu
   ·rw[List.any_cons,List.any_cons,e,i2]
theorem U3{k:Nat}(hr:aX k X.A):OpD X (compareOp .In) (gm false):=by
 intro pins s σ H x y v u Q I rx ry h';obtain⟨O,F,as,dx,dy,d,r,hx,hy,e,k⟩:=h';obtain⟨ds,rfl,h1,h2,rfl⟩:=Hn e;obtain⟨p,xs,rfl,h3,h4⟩:=hy.list r.fh;obtain⟨its,rv,pl,_⟩:=I.list h3.sq;cases ry;unfold okE at h1;rw[zw] at h1;obtain⟨bs,rd⟩:=Rep.reads I _ (hx.rep r.fh h1.1) rx;obtain⟨m1,m2⟩:=yh hr I r.fh rd h1.2 h4 rv h2;refine SeqAt.in_listAt (eqR s (toP dx)) pl.isList (λw hw=>m1 w (by simpa using hw)) ⟨.bl _,H,I,rfl,?_⟩;rw[show its.toArray.any (eqR s (toP dx))=its.any (eqR s (toP dx)) by simp,m2];rw[Bool.false_xor] at k;exact cO r k rfl Rp.bl
theorem Ho{k:Nat}(hr:aX k X.A):OpD X (compareOp .NotIn) (gm true):=by
 intro pins s σ H x y v u Q I rx ry h';obtain⟨O,F,as,dx,dy,d,r,hx,hy,e,k⟩:=h';obtain⟨ds,rfl,h1,h2,rfl⟩:=Hn e;obtain⟨p,xs,rfl,h3,h4⟩:=hy.list r.fh;obtain⟨its,rv,pl,_⟩:=I.list h3.sq;cases ry;unfold okE at h1;rw[zw] at h1;obtain⟨bs,rd⟩:=Rep.reads I _ (hx.rep r.fh h1.1) rx;obtain⟨m1,m2⟩:=yh hr I r.fh rd h1.2 h4 rv h2;refine SeqAt.notIn_listAt (eqR s (toP dx)) pl.isList (λw hw=>m1 w (by simpa using hw)) ⟨.bl _,H,I,rfl,?_⟩;rw[show its.toArray.any (eqR s (toP dx))=its.any (eqR s (toP dx)) by simp,m2];rw[Bool.true_xor] at k;exact cO r k rfl Rp.bl
end
section
variable {X:Cx}{md:List Md}{P:Pt}{R:RR}
end
section
variable {K:Frag}{mg:Str->Option Value}{O:aj}{H F:Hp}{as:List Addr}
end
section
variable {X:Cx}{md:List Md}{P:Pt}{R:RR}
end
section
variable {X:Cx}{md:List Md}{P:Pt}{R:RR}
end
end L2
namespace L2
open PySem PySem.Spec PyProof.Rows PySem.W PySem.Calls
section
variable {prog:Program}{w:World}{A:Around}{E:Value->Shared->Prop}{s:Shared}{a:Addr}{vs out:List Value}{p:Array Nat}
end
section
variable {X:Cx}
theorem Rps.getD{K:Frag}{F:Hp}{as:List Addr}{ds:List D}{xs:List V}(h:Rps K F as xs ds)(i:Nat):Rp K F as (xs.getD i V.non) (ds.getD i .non):=by
 rw[zY,zY]
 cases e:ds[i]? with
 |none =>
  have:xs[i]?=none:=by
   rw[List.getElem?_eq_none_iff] at e ⊢;rw[h.length];exact e
  rw[this];exact Rp.non
 |some d =>
  obtain⟨v,hv,r⟩:=h.get' e;rw[hv];exact r
end
structure Hq(mg:Str->Option Value):Prop extends Blt mg where
 sorted_:mg "sorted" = none
end L2
namespace L2
open PySem PySem.Spec PyProof.Rows
abbrev U4(h:Heap)(z TI TO T:Addr)(b:Bool):Prop :=
 h.get? z=some {cls:=.type "zip",dict:=none,data:=.fields #[rawInt T,.bool b,.bool false,.ref TI,.ref TO],slots:=#[]}
section
variable {prog:Program}{w:World}{A:Around}{E:Value->Shared->Prop}{s:Shared}
structure ZS(base:Nat)(h:Heap)(z TI TO i1 i2 l1 l2 S:Addr)(xs ys acc:Array Value)(c i:Nat):Prop where
 zi:(IsZip h z TI TO .none/\∃a b,IsPair h TO a b)\/∃T b o,U4 h z TI TO T b/\h.get? T=some o/\T∉[z,TO,i1,i2,S]
 ti:IsPair h TI (.ref i1) (.ref i2)
 it1:h.IsListIter i1 l1 i
 it2:h.IsListIter i2 l2 i
 a1:h.IsList l1 xs
 a2:h.IsList l2 ys
 ls:h.get? S=some {cls:=.type "list",dict:=none,data:=.seq acc c,slots:=#[]}
 sz:acc.size=i
 tl:TO<h.objs.size
 nd:acc.toList.Nodup
 ts:∀(j:Nat) (v:Value),acc[j]?=some v->∃(T:Addr) (x y:Value),v=Value.ref T/\xs[j]?=some x/\ys[j]?=some y/\IsPair h T x y/\T∉[z,TO,i1,i2,S]/\base<=T
variable {R:PySem.Result->Shared->Prop}
end
theorem Un.more{fs ex:List Addr}{H H1:Hp}{h h':Heap}{a:Addr}{o:HO}(u:Un fs ex H H1 h h')(hp:h.objs.size<=a)(hn:H1 a=none):Un fs ex H (upd H1 a o) h h' where
 keep:=u.keep
 slot:=u.slot
 free:=λb ob q n hx=>by rw[aG (zC (zL (zo q) hp))];exact u.free b ob q n hx
 there:=u.there
 tups:=λb xs q=>by have z:=u.tups b xs q;rw[aG (bV z hn)];exact z
 frzs:=λb ob v q=>by have z:=u.frzs b ob v q;rw[aG (bV z hn)];exact z
 tbls:=λb ps q=>by obtain⟨m,z⟩:=u.tbls b ps q;exact⟨m,by rw[aG (bV z hn)];exact z⟩
theorem HOk.more{P:Program}{w:World}{H:Hp}{h:Heap}{a:Addr}{o:HO}(x:HOk P w H h)(hn:H a=none)(new:bU P w (upd H a o) h a o):HOk P w (upd H a o) h:=λb u e=>by
 by_cases hb:b=a
 ·subst hb;rw[bF] at e;cases e;exact new
 ·rw[aG hb] at e
  exact(x b u e).stay (λc v _ q=>q) (λc q=>by rw[aG (bV q hn)];exact q) λc xs q=>by rw[aG (bV q hn)];exact q
section
variable {X:Cx}
end
section
variable {X:Cx}{md:List Md}{P:Pt}
end
section
end
end L2
namespace L2
open PySem PySem.Spec PyProof.Rows PySem.W
section
variable {X:Cx}{md:List Md}{P:Pt}
theorem U5:jB X (.builtin "isinstance") (λxs H Q=>∃a A C dx fs,xs=[.ref a,.ref A]/\H a=some (.ins C dx fs)/\isIn X.K (.ref C) A=true/\Q (.bl true) H):=by
 intro pins s σ H xs us Q I r h;obtain⟨a,A,C,dx,fs,rfl,ha,hi,q⟩:=h;obtain⟨u1,u2,rfl,ru1,ru2⟩:=vals2 r;cases ru1;cases ru2;obtain⟨_,_,_,ho,_⟩:=I.hok a _ ha;exact isi_call I.kIn (λM=>(Looks.ld ho).andThen .now) hi (λz=>nomatch z) ⟨.bl true,H,I,rfl,q⟩
def IsC(K:Frag)(mg:Str->Option Value)(c T:Str):Prop:=∃C A,mg c=some (.ref C)/\mg T=some (.ref A)/\isIn K (.ref C) A=true
def ux(c:Str)(m:M D):M D:=λρ O=>(m ρ O).bind λd O1=>match d with
 | .ob n=>match O1[n]? with
  |some (.ins c' _)=>if c'=c then .ok (.bl true) O1 else .no
  | _=>.no
 | _=>.no
theorem U6{c T:Str}{a:Expr}{p p' pos:Pos}{m:M D}(hk:IsC X.K X.mg c T)(hm:X.mg "isinstance" = none)(h:VE X md P a m)(hg:Gl X "isinstance":=by rfl)(hgT:Gl X T:=by rfl)
  (hTd:(T == ("__debug__":Str))=false:=by decide)
  (hs1:starEach [a,.Name T p'] X.env=(false,eval a X.env)::starEach [.Name T p'] X.env:=by exact dh rfl) (hs2:starEach [.Name T p'] X.env=(false,eval (.Name T p') X.env)::starEach [] X.env:=by rfl) (hpl:(backTo pos (starEach [.Name T p'] X.env)).any (·.1)=false:=by exact dG rfl):
  OE X md P (.Call (.Name "isinstance" p) [a,.Name T p'] [] pos) (ux c m):=by
 obtain⟨C,A,hC,hA,hi⟩:=hk
 refine(qG U5 hg hm (by decide +kernel) (gJ h (gJ (M8 (v:=.ref A) hgT hA rfl hTd) jQ hs2) hs1) (by decide) (by decide) hs1 hpl).imp λσ H Q q=>?_
 obtain⟨ρ,O,F,as,d,O',r,s,e,k⟩:=q;obtain⟨x,O1,e1,e⟩:=Res.bind_ok e
 cases x with
 |ob n =>
  dsimp only at e;split at e
  ·rename_i c' fs eo;split at e
   ·rename_i hcs;cases e;subst hcs;refine⟨ρ,_,F,as,_,_,r,s,e1,λv H1 F1 as1 g1 r1 hv=>?_⟩;obtain⟨a',rfl,ha⟩:=Rp.unO hv;obtain⟨C',dx,gs,h1,h2,h3⟩:=r1.ob n a' _ ha eo;rw[hC] at h1;cases h1;exact⟨a',A,C,dx,gs,rfl,h2,hi,k _ H1 F1 as1 g1 r1 (.inl ⟨rfl,Rp.bl⟩)⟩
   ·cases e
  ·cases e
 | _=>cases e
end
end L2
namespace L2
open PySem PySem.Spec PyProof.Rows
section
variable {X:Cx}{md:List Md}{P:Pt}{R:RR}
variable {elts:List Expr}{x1:Nat}{tpos:Pos}{a elt:Expr}{ifs:List Expr}{scope:Scope}{p pos pe:Pos}{m:M D}{g:MG}{t:M Bool}{e:M D}
end
section
variable {X:Cx}{md:List Md}{P:Pt}{R:RR}{tg:Expr}
end
structure cC(mg:Str->Option Value):Prop extends Hq mg where
 reversed_:mg "reversed" = none
end L2
namespace L2
open PySem PySem.Spec PyProof.Rows PySem.W
def mdI:Option Int->List Int->Option Int
 |b,[]=>b
 |none,n::r=>mdI (some n) r
 |some m,n::r=>mdI (some (if n<m then n else m)) r
def MdV(d v:Value):Option Int->Prop
 |none=>v=d
 |some m=>∃t,v=.int m t
def MdB(bs:Array Value):Option Int->Prop
 |none=>bs = #[]
 |some m=>∃t,bs = #[.int m t,.int m t]
section
variable {prog:Program}{w:World}{A:Around}{E:Value->Shared->Prop}
theorem U7{id:String}{b:Builtin}{as:List Value}{kw:List (Str×Value)}{s:Shared}{Q:Value->Shared->Prop}(k0:builtinKind id=none)(p0:plainId id=true)(b0:entryFor table id=some b)(a0:argsOk id ⟨as,kw⟩)
  (c0:wpAny (model prog w) A.in1 (b ⟨as,kw⟩) (λfin s'=>match fin with
   | .done f=>(match(Except.ok f:Result) with | .ok (.ret v)=>Q v s' | .ok _=>False | .error e=>E e s')
   | .again c=>c.quiet=true/\codeAny (model prog w) A c (λr s'=>match r with | .ok (.ret v)=>Q v s' | .ok _=>False | .error e=>E e s') s') E s):
  wpAny (model prog w) A (call (.builtin id) as kw) Q E s:=by
 refine wpAny_call (codeAny_call_builtin p0 b0 ?_);simp only[checkBuiltinCall,k0]
 cases g0:Manifest.signature? id with
 |none=>exact zc c0
 |some sg =>
  simp only[argsOk,g0] at a0;have z:Bind.checkArgs id sg ⟨as,kw⟩=pure ():=a0;show wpAny _ A.in1 (Bind.checkArgs id sg ⟨as,kw⟩) _ _ s;rw[z];exact zc c0
theorem U8{n m:Int}{t u:Tok}{s:Shared}{Q:Value->Shared->Prop}(q:Q (.bool (decide (n<m))) s):wpAny (model prog w) A (richCompare .Lt (.int n t) (.int m u)) Q E s :=
 CmpOf.ints_lt (A:=A) (P:=λi v=>∃t,v=.int (if i=0 then n else m) t) (λi=>if i=0 then n else m) (λ_ _ z=>z) 0 1 _ _ s Q E ⟨t,rfl⟩ ⟨u,rfl⟩ q
theorem U9{R:Result->Shared->Prop}{l i0 S:Addr}{its:List Value}{d:Value}(hh:A.in1.handled=none)(n1:l≠i0)(n2:S≠i0)(n3:S≠l):
  ∀(us:List Value) (ns:List Int) (pre:List Value) (b:Option Int) (bs:Array Value) (s:Shared) (c:Nat),its=pre++us->aP (ns.map V.int) us->s.heap.IsListIter i0 l pre.length->s.heap.IsList l its.toArray->MdB bs b ->
   s.heap.get? S=some {cls:=.type "list",dict:=none,data:=.seq bs c,slots:=#[]} ->
   (∀v h' tk,MdV d v (mdI b ns)->(∀x o,x≠i0->x≠S->s.heap.get? x=some o->h'.get? x=some o)->R (.ok (.ret v)) {s with heap:=h',toks:=tk}) ->
   codeAny (model prog w) A (.builtin "min.loop" ⟨[.ref i0,.none,.ref S],[("default",d)]⟩) R s:=by
 have W:=Walks.list (prog:=prog) (w:=w) hh i0 l n1 its.toArray
 have nm:(toString "min" ++ toString ".loop":String) = "min.loop":=by decide
 have nS:S∉[i0]:=λz=>n2 (zz.mp z)
 have ni:∀x:Addr,x≠i0->x∉[i0]:=λx z y=>z (zz.mp y)
 intro us
 induction us with
 |nil =>
  intro ns pre b bs s c e rv it hl hb hS hR
  have ens:ns=[]:=by
   cases ns with
   |nil=>rfl
   |cons=>cases rv
  subst ens
  have el:pre.length=its.toArray.size:=by rw[e];simp
  rw[el] at it;refine js PySem.F.entry_min_loop ?_;rw[Around.under_plainId PySem.F.plain_min_loop _];show wpAny _ A.in1 (seqItems? (.ref S) >>= _) _ _ s;refine za (wpAny_seqItems hS rfl ?_);show wpAny _ A.in1 (tryCatch (pyNext (.ref i0)) _ >>= _) _ _ s;refine za (wpAny_tryCatch (W.done s _ _ ⟨it,hl⟩ λh1 tk kp=>?_));have hS1:=kp S _ nS hS
  cases b with
  |none =>
   have hb':bs = #[]:=hb;subst hb';show wpAny _ A.in1 (rule _ >>= _) _ _ _;refine za (zR ?_);exact zc (hR d h1 tk rfl λx o z1 z2 q=>kp x o (ni x z1) q)
  |some m =>
   obtain⟨t,hb'⟩:=hb;subst hb';show wpAny _ A.in1 (updateSeq S (λ_=>#[]) >>= _) _ _ _;refine za ?_;refine wpAny_updateSeq hS1 rfl (za (jm (zc ?_)))
   exact hR (.int m t) _ tk ⟨t,rfl⟩ λx o z1 z2 q=>(jw _ _ (Ne.symm z2)).trans (kp x o (ni x z1) q)
 |cons u us ih =>
  intro ns pre b bs s c e rv it hl hb hS hR
  cases ns with
  |nil=>cases rv
  |cons n ns =>
   have rv':aP (V.int n::ns.map V.int) (u::us):=rv
   obtain⟨ru,rus⟩:RelV (.int n) u/\aP (ns.map V.int) us:=by
    cases rv' with
    |cons a b=>exact⟨a,b⟩
   obtain⟨tu,rfl⟩:=ru
   have el:pre.length<its.toArray.size:=by rw[e];simp
   have e':its=(pre++[Value.int n tu])++us:=by rw[e];simp
   have eg:its.toArray[pre.length]?=some (Value.int n tu):=by rw[e];simp
   refine js PySem.F.entry_min_loop ?_;rw[Around.under_plainId PySem.F.plain_min_loop _];show wpAny _ A.in1 (seqItems? (.ref S) >>= _) _ _ s;refine za (wpAny_seqItems hS rfl ?_);show wpAny _ A.in1 (tryCatch (pyNext (.ref i0)) _ >>= _) _ _ s;refine za (wpAny_tryCatch (W.item pre.length s _ _ el ⟨it,hl⟩ λv h1 tk hv st kp=>?_));rw[eg] at hv;cases hv;have hS1:=kp S _ nS hS
   have upd1:∀(h2:Heap) (y:Addr) (o:Obj),y≠S->h2.get? y=some o->∀f,(h2.update S f).get? y=some o:=λh2 y o z q f=>(jw _ _ (Ne.symm z)).trans q
   have go:∀(b2:Option Int) (bs2:Array Value) (h2:Heap) (tk2:Nat) (c2:Nat),MdB bs2 b2->mdI b2 ns=mdI b (n::ns)->h2.get? S=some {cls:=.type "list",dict:=none,data:=.seq bs2 c2,slots:=#[]} ->
     (∀x o,x≠S->h1.get? x=some o->h2.get? x=some o)->codeAny (model prog w) A (.builtin "min.loop" ⟨[.ref i0,.none,.ref S],[("default",d)]⟩) R {s with heap:=h2,toks:=tk2}:=λb2 bs2 h2 tk2 c2 q1 q2 q3 q4=>by
    have st2:=W.frame _ h1 h2 st λx hx o q=>q4 x o (λz=>by
     rcases zF.mp hx with rfl | hx
     ·exact n2 z.symm
     ·rcases zF.mp hx with rfl | hx
      ·exact n3 z.symm
      ·cases hx) q
    refine ih ns (pre++[Value.int n tu]) b2 bs2 _ c2 e' rus (by rw[zv];exact st2.1) st2.2 q1 q3 λv h3 tk3 z1 z2=>?_
    exact hR v h3 tk3 (q2 ▸ z1) λx o y1 y2 q=>z2 x o y1 y2 (q4 x o y2 (kp x o (ni x y1) q))
   cases b with
   |none =>
    have hb':bs = #[]:=hb;subst hb';show wpAny _ A.in1 (updateSeq S (λ_=>#[Value.int n tu,Value.int n tu]) >>= _) _ _ _;refine za ?_;refine wpAny_updateSeq hS1 rfl ?_;rw[nm];exact zc ⟨plainId_quiet PySem.F.plain_min_loop _,go (some n) _ _ _ _ ⟨tu,rfl⟩ rfl (Heap.get?_update_self _ hS1 rfl) λx o z q=>upd1 _ x o z q _⟩
   |some m =>
    obtain⟨t,hb'⟩:=hb;subst hb';show wpAny _ A.in1 (tryCatch (holding [Value.int n tu,Value.int n tu] (richCompare .Lt (.int n tu) (.int m t) >>= _)) _ >>= _) _ _ _;refine za (wpAny_tryCatch (zQ (za (U8 ?_))));refine za (zQ (wpAny_truthy_bool ?_));refine za (jm (zc ?_))
    by_cases hlt:n<m
    ·rw[zx hlt];simp only[if_true];refine za ?_;refine wpAny_updateSeq hS1 rfl (za (jm ?_));rw[nm];exact zc ⟨plainId_quiet PySem.F.plain_min_loop _,go (some n) _ _ _ _ ⟨tu,rfl⟩ (by show _=mdI (some (if n<m then n else m)) ns;rw[if_pos hlt]) (Heap.get?_update_self _ hS1 rfl) λx o z q=>upd1 _ x o z q _⟩
    ·rw[zp hlt];simp only[Bool.false_eq_true,if_false];refine za (jm ?_);rw[nm];exact zc ⟨plainId_quiet PySem.F.plain_min_loop _,go (some m) _ _ _ _ ⟨t,rfl⟩ (by show _=mdI (some (if n<m then n else m)) ns;rw[if_neg hlt]) hS1 λx o z q=>q⟩
end
section
variable {X:Cx}{md:List Md}{P:Pt}{R:RR}
def tsF(n:Nat)(y:D)(O:aj):Res D:=match lO y,O[n]? with
 |some k,some (.dt kvs)=>match bf kvs k with
  |some d=>.ok d O
  |none=>.no
 | _,_=>.no
def Hr(mo my:M D):M D:=λρ O=>(mo ρ O).bind λx O1=>match x with
 | .ob n=>(my ρ O1).bind λy O2=>tsF n y O2
 | _=>.no
theorem Va{kk:Nat}(hk:bK X.K=true)(hr:aX kk X.A){o i:Expr}{pos:Pos}{mo my:M D}(ho:VE X md P o mo)(hi:VE X md P i my)(hs:tQ i:=by intro _ _;rfl):VE X md P (.Subscript o i pos) (Hr mo my):=
 (FP (mU hr) ho hi hs).imp λσ H Q q=>by
  obtain⟨ρ,O,F,as,d,O',r,s,e,k⟩:=q;obtain⟨x,O1,e1,e⟩:=Res.bind_ok e
  cases x with
  |ob n =>
   obtain⟨y,O2,e2,e⟩:=Res.bind_ok e;unfold tsF at e;split at e
   ·rename_i ks kvs e3 e4;split at e
    ·rename_i d' e5;cases e;refine⟨ρ,_,F,as,_,_,r,s,e1,λx H1 F1 as1 g1 r1 hx=>⟨ρ,_,F1,as1,_,_,r1,s.step g1,e2,λu H2 F2 as2 g2 r2 hu=>?_⟩⟩;obtain⟨a,rfl,ha⟩:=Rp.unO hx;obtain⟨xs,x1,x2⟩:=r2.dt (g2.at_ n a ha) e4;obtain⟨b,rfl,hb⟩:=Rp.tkey hk hu e3
     rcases x2.val (k:=ks) with⟨z1,z2⟩ | ⟨d2,v',z1,z2,z3⟩
     ·rw[z1] at e5;cases e5
     ·rw[z1] at e5;cases e5;refine⟨a,v',rfl,?_,k _ H2 F2 as2 (g1.trans g2) r2 z3⟩;rw[<-z2];exact eX.t x1 (r2.fh _ _ hb)
    ·cases e
   ·cases e
  | _=>cases e
def uy:List D->Option D
 | [.lst ds]=>(j6 ds).map λns=>match mdI none ns with
  |some m=>.int m
  |none=>.non
 | _=>none
theorem Vb(a d:Value):argsOk "min" ⟨[a],[("default",d)]⟩:=by unfold argsOk;kernel_rfl
theorem Vc(hc:X.calm=true){pins:List (Addr×Obj)}{s:Shared}{σ:St}{H:Hp}{a:Addr}{ns:List Int}{Q:VK}(I:Inv X pins σ H s)(hq:SqL X.K H a (ns.map V.int))(q:Q (match mdI none ns with | some m=>.int m | none=>.non) H):
  wpAny (model X.prog X.w) X.A (call (.builtin "min") [.ref a] [("default",.none)]) (EP X pins σ Q) X.xe s:=by
 obtain⟨its,rv,pl,_⟩:=I.list hq;have hl:=pl.isList
 have la:a<s.heap.objs.size:=by obtain⟨_,z,_⟩:=hl;exact zo z
 refine U7 PySem.F.kind_min PySem.F.plain_min PySem.F.entry_min (Vb _ _) ?_;show wpAny _ X.A.in1 (Builtin.Builtins.bindParams "min" ["key","default"] 0 ⟨[],[("default",.none)]⟩ >>= _) _ _ s;refine za (jp (show _=pure [none,some Value.none] from rfl) ?_);refine za (zc ?_);refine za (wpAny_pyIter_list hl ?_);refine za (wpAny_newObj_type ?_);rw[show(toString "min" ++ toString ".loop":String) = "min.loop" by decide];have sz:(s.heap.push {cls:=.type "list_iterator",data:=.fields #[.ref a,.int 0 0]}).objs.size=s.heap.objs.size+1:=Heap.size_push ..
 refine zc ⟨plainId_quiet PySem.F.plain_min_loop _,U9 (its:=its) (l:=a) (i0:=s.heap.objs.size) (d:=.none) (I.ok.hd hc) (zC la) (Nat.ne_of_gt (by rw[sz];exact jr _)) (Nat.ne_of_gt (by rw[sz];exact jt la)) its ns [] none #[] _ 0 rfl rv
  ⟨_,zn _ (zB _ rfl),rfl,rfl⟩ ((hl.push _).push _) rfl (zB _ rfl) λv h1 tk hv kp=>?_⟩
 have kk:∀b o,s.heap.get? b=some o->h1.get? b=some o:=λb o z=>kp b o (zC (zo z)) (zC (by rw[sz];exact jt (zo z))) (zn _ (zn _ z))
 refine⟨_,H,I.kept (t':=tk) kk,?_,q⟩
 cases e:mdI none ns with
 |none =>
  rw[e] at hv;exact hv
 |some m =>
  rw[e] at hv;exact hv
theorem Vd{p pos p2 p3:Pos}{j:Nat}{e:Expr}{m:M D}(hc:X.calm=true)(hm:X.mg "min" = none)(ha:SE X md P e m)(hg:Gl X "min":=by rfl)(hs:starEach [e] X.env=(false,eval e X.env)::starEach [] X.env:=by exact dh rfl)(hpl:(backTo pos (starEach [e] X.env)).any (·.1)=false:=by exact dG rfl)
  (he:backTo pos (starEach [e] X.env)=(false,eval e X.env)::backTo pos (starEach [] X.env):=by rfl):
  OE X md P (.Call (.Name "min" p) [e] [⟨some "default",.Constant .none j p2,p3⟩] pos) (bB uy (ak m au)):=by
 intro pins s σ H Q I q;refine wpAny_Call_Name_kw (mH I hg hm boot_min ?_ (by decide) (by decide));have q':=xP (ms:=[.s]) q;refine callWith_kw (thn ((aC ha aM hs) pos pins s σ H _ I q') λus s1 ⟨vs,H1,I1,r1,q1⟩=>?_) he hpl;refine kws_cons (Constant_none (kws_nil ?_));obtain⟨O,F,as,ds,d,r,hvs,e,k⟩:=q1;unfold uy at e;split at e
 ·rename_i es;obtain⟨v,rfl,hv⟩:=hvs.one;obtain⟨a,xs,rfl,h1,h2⟩:=hv.list r.fh;obtain⟨u,rfl,ru⟩:=vals1 r1;cases ru
  cases hi:j6 es with
  |none=>rw[hi] at e;cases e
  |some ns =>
   rw[hi] at e;cases e;have hx:=h2.ints hi;refine Vc hc I1 (ns:=ns) (by rw[<-hx];exact h1.sq) ?_
   cases em:mdI none ns with
   |none =>
    dsimp only at k;rw[em] at k;exact cO r k rfl Rp.non
   |some m =>
    dsimp only at k;rw[em] at k;exact cO r k rfl Rp.int
 ·cases e
end
def Itd(lo:Int)(n:Nat):It:=⟨λi _=>i<n,λi H x H'=>H'=H/\x=.int (lo - i),λi _=>n<=i⟩
def iV(lo:Int)(n:Nat):List D:=(List.range n).map λi:Nat=>.int (lo - i)
theorem Ve{P:Program}{w:World}{K:PySem.W.Frag}{tg:Expr}(it:Addr)(lo:Int)(n:Nat):Turn P w K tg (Itd lo n) [it] it (λi h=>IsRangeIter h it (lo+(i:Nat) * (-1)) ((n:Int) - (i:Nat)) (-1)) where
 mem:=by simp
 obj:=λi h st b hb=>by
  have e:b=it:=by simpa using hb
  subst e
  exact⟨_,st,λv z=>by
   have z':Data.fields _=Data.cell v:=z
   cases z'⟩
 keep:=λi h h' st k=>k it (by simp) _ st
 item:=by
  intro X hP hw hK hc i pins s σ H E I hf st hg;subst hP hw hK;obtain⟨f0,f1,f2,f3,f4,f5⟩:=hf it (by simp);have W:=Walks.range (prog:=X.prog) (w:=X.w) (I.ok.hd hc) it lo (-1) n
  refine W.item i s _ _ hg st λv h' tk hv st' kk=>?_
  obtain⟨t,rfl⟩:=hv;have I1:Inv X pins σ H {s with heap:=h',toks:=tk}:=I.turned (λb o hb e=>kk b o (by simpa using hb) e) f0 f1 f3 f4 f5;refine⟨_,rfl,mJ (s:={s with heap:=h',toks:=tk}) (n:="range_iterator") st' rfl rfl (by decide) ⟨.int (lo - i),H,I1,⟨t,?_⟩,⟨rfl,rfl⟩,st',λb hb=>(hf b hb).1⟩⟩;rw[show lo+(i:Int) * (-1)=lo - i by omega]
 done:=by
  intro X hP hw hK hc i pins s σ H E I hf st hg;subst hP hw hK;obtain⟨f0,f1,f2,f3,f4,f5⟩:=hf it (by simp)
  exact wpAny_pyNext_range_end (I.ok.hd hc) st (by have:n<=i:=hg;omega) λh' eb=>⟨rfl,I.turned (t':=s.toks) (λb o hb e=>eb b o hb e) f0 f1 f3 f4 f5⟩
 self:=λ_ _ _ _ _ st h=>wpAny_pyIter_rangeiter st h
section
variable {X:Cx}{tg:Expr}{md:List Md}{P:Pt}
theorem Hs(a b:Int):Builtin.Range.rangeSize a b (-1)=if a>b then a - b else 0:=by
 unfold Builtin.Range.rangeSize;rw[if_neg (by decide)]
 split
 ·rw[show(-(-1:Int))=1 by decide,Int.ediv_one];omega
 ·rfl
theorem small_down{a b:Int}(ha:-(2 ^ 62)<=a)(ha':a<2 ^ 62)(hb:-(2 ^ 62)<=b)(hb':b<2 ^ 62):Builtin.Range.small a b (-1)=true:=by
 unfold Builtin.Range.small;rw[Hs];simp only[Builtin.Range.rangeFitsLong,zw,Bool.or_eq_true,decide_eq_true_eq,beq_iff_eq,show ¬((-1:Int)>0) by decide,if_false]
 split<;>omega
def Vf(ta:TA):TI:=λσ H R=>ta σ H λvs H1=>∃i j:Int,vs=[.int i,.int j,.int (-1)]/\(-(2 ^ 62)<=i/\i<2 ^ 62/\-(2 ^ 62)<=j/\j<2 ^ 62)/\R (Itd i (i - j).toNat) H1
theorem Vg{a b c:Expr}{ta:TA}{p pos:Pos}(hg:Gl X "range")(hm:X.mg "range" = none)(ha:PA X [a,b,c] ta)(hs:starEach [a,b,c] X.env=[(false,eval a X.env),(false,eval b X.env),(false,eval c X.env)]:=by rfl)(hs2:starEach [b,c] X.env=[(false,eval b X.env),(false,eval c X.env)]:=by rfl):
  PI X tg (.Call (.Name "range" p) [a,b,c] [] pos) (Vf ta):=by
 intro pins s σ H R I h;refine Call_ (mH I hg hm boot_range (PyProof.Rows.callWith_type1 (thn (ha pos pins s σ H _ I h) λus s1 ⟨vs,H1,I1,r1,q1⟩=>?_) (by rw[hs,hs2]) (by rw[hs2];rfl)));obtain⟨lo,hi,e,⟨h1,h2,h3,h4⟩,q⟩:=q1;subst e
 cases r1 with
 |cons r rr =>
  cases rr with
  |cons r' rr =>
   cases rr with
   |cons r'' rr =>
    cases rr;obtain⟨t,rfl⟩:=r;obtain⟨u,rfl⟩:=r';obtain⟨v,rfl⟩:=r'';refine call_range_3 (by decide) ?_ (Or.inl (PyProof.noPylong_small (by omega)));refine wpAny_pyIter_range (IsRange.new ..) (small_down h1 h2 h3 h4) ?_
    have J:Inv X pins σ H1 {s1 with heap:=s1.heap.push {cls:=.type "range",data:=.fields #[.int lo t,.int hi u,.int (-1) v]},toks:=s1.toks}:=I1.kept λb o e=>zn _ e
    refine⟨(s1.heap.push {cls:=.type "range",data:=.fields #[.int lo t,.int hi u,.int (-1) v]}).objs.size,[(s1.heap.push {cls:=.type "range",data:=.fields #[.int lo t,.int hi u,.int (-1) v]}).objs.size],_,_,H1,rfl,
     J.kept (t':=s1.toks) λb o e=>zn _ e,Ve _ lo (lo - hi).toNat,?_,λb hb=>?_,q⟩
    ·have e1:lo+((0:Nat):Int) * (-1)=lo:=by simp
     have e2:(((lo - hi).toNat:Nat):Int) - ((0:Nat):Int)=Builtin.Range.rangeSize lo hi (-1):=by rw[Hs];split<;>omega
     show IsRangeIter _ _ (lo+((0:Nat):Int) * (-1)) ((((lo - hi).toNat:Nat):Int) - ((0:Nat):Int)) (-1);rw[e1,e2];exact zB _ rfl
    ·have e:b=(s1.heap.push {cls:=.type "range",data:=.fields #[.int lo t,.int hi u,.int (-1) v]}).objs.size:=by simpa using hb
     subst e;exact J.fpOk (zd _) (J.hok.fresh (zd _))
theorem Vh{K:Frag}{mg:Str->Option Value}{lo:Int}{n:Nat}{H F:Hp}{as:List Addr}:m8 K mg P (Itd lo n) (iV lo n) H F as:=xX (λi d H2 e=>by
 unfold iV at e;rw[zy] at e
 by_cases hi:i<n
 ·rw[List.getElem?_range hi] at e;cases e;refine⟨hi,λx H3 y=>?_⟩;obtain⟨e1,rfl⟩:=y;exact⟨e1,λ_ _ _=>Rp.int⟩
 ·rw[jy (by simpa using hi)] at e
  cases e) λH2=>by simp[iV,Itd]
def uz(m:M (List D)):M (List D):=λρ O=>(m ρ O).bind λds O1=>match ds with
 | [.int i,.int j,.int c]=>if c = -1/\i<=1000000000/\-1000000000<=i/\j<=1000000000/\-1000000000<=j then .ok (iV i (i - j).toNat) O1 else .no
 | _=>.no
theorem cQ.three{K:Frag}{H F:Hp}{as:List Addr}{m1 m2 m3:Md}{vs:List V}{d e f:D}(h:cQ K H F as [m1,m2,m3] vs [d,e,f]):∃v u z,vs=[v,u,z]/\rA K m1 (λ_=>True) H F as v d/\rA K m2 (λ_=>True) H F as u e/\rA K m3 (λ_=>True) H F as z f:=by
 cases vs with
 |nil=>exact h.elim
 |cons v vs =>
  obtain⟨h1,h2⟩:=h;obtain⟨u,z,rfl,h3,h4⟩:=cQ.two h2;exact⟨v,u,z,rfl,h1,h3,h4⟩
theorem Vi{a b c:Expr}{p pos:Pos}{m:M (List D)}(hm:X.mg "range" = none)(ha:AE X md P [.s,.s,.s] [a,b,c] m)(hg:Gl X "range":=by rfl)(hs:starEach [a,b,c] X.env=[(false,eval a X.env),(false,eval b X.env),(false,eval c X.env)]:=by rfl)(hs2:starEach [b,c] X.env=[(false,eval b X.env),(false,eval c X.env)]:=by rfl):
  VI X md P tg (.Call (.Name "range" p) [a,b,c] [] pos) (uz m):=(Vg hg hm ha hs hs2).imp λσ H Q q=>by
 obtain⟨ρ,O,F,as,ds,O',r,s,e,k⟩:=q;obtain⟨es,O1,e1,e⟩:=Res.bind_ok e;split at e
 ·rename_i i j c;split at e
  ·rename_i hj;cases e;obtain⟨rfl,hj⟩:=hj;refine⟨ρ,_,F,as,_,_,r,s,e1,λvs H1 F1 as1 g1 r1 hv=>?_⟩;obtain⟨v,u,z,rfl,hv1,hu,hz⟩:=hv.three;have e3:=(Sv.rp hv1 rfl).unI;have e4:=(Sv.rp hu rfl).unI;have e5:=(Sv.rp hz rfl).unI;subst e3 e4 e5;exact⟨i,j,rfl,⟨by omega,by omega,by omega,by omega⟩,k _ H1 F1 as1 g1 r1 Vh⟩
  ·cases e
 ·cases e
end
section
variable {X:Cx}{pins:List (Addr×Obj)}{σ:List (Option V)}{H:Hp}{s:Shared}{a:Addr}{xs:List (List Key×V)}{o:Obj}
theorem Inv.reword{u:HO}(I:Inv X pins σ H s)(ha:H a≠none)(hn:∀ys,H a≠some (.tup ys))(ho:∀y,H a≠some (.own y))(hb:∀ps,H a≠some (.tbl ps))(hf:∀o u,X.H₀ a≠some (.frz o u))(new:bU X.prog X.w (upd H a u) s.heap a u):Inv X pins σ (upd H a u) s where
 ok:=I.ok
 os:=I.os
 bare:=I.bare
 base:={
  keep:=I.base.keep
  slot:=I.base.slot
  free:=λb o' q n hx=>by
   have z:=I.base.free b o' q n hx;rw[aG (by intro e;have w:=z;rw[e] at w;exact ha w)];exact z
  there:=I.base.there
  tups:=λb ys q=>by
   have z:=I.base.tups b ys q;rw[aG (by intro e;have w:=z;rw[e] at w;exact hn ys w)];exact z
  frzs:=λb o' u' q=>by
   have z:=I.base.frzs b o' u' q;rw[aG (by intro e;have w:=q;rw[e] at w;exact hf o' u' w)];exact z
  tbls:=λb ps q=>by
   obtain⟨m,z⟩:=I.base.tbls b ps q
   exact⟨m,by rw[aG (by intro e;have w:=z;rw[e] at w;exact hb _ w)];exact z⟩}
 loc:=I.loc
 cell:=I.cell
 free:=by rw[aG (by intro e;have w:=I.free;rw[e] at w;exact ha w)];exact I.free
 freeC:=λx c q=>by rw[aG (by intro e;have w:=I.freeC x c q;rw[e] at w;exact ha w)];exact I.freeC x c q
 pin:=λp hp=>by
  obtain⟨h1,h2,h3,h4,h5⟩:=I.pin p hp;exact⟨h1,by rw[aG (by intro e;have w:=h2;rw[e] at w;exact ha w)];exact h2,h3,h4,h5⟩
 hok:=λb u' q=>by
  by_cases e:b=a
  ·subst e;rw[bF] at q;cases q;exact new
  ·rw[aG e] at q
   exact(I.hok b u' q).stay (λ_ _ _ z=>z) (λc z=>by rw[aG (by intro e;have w:=z;rw[e] at w;exact ho b w)];exact z) λc ys z=>by rw[aG (by intro e;have w:=z;rw[e] at w;exact hn ys w)];exact z
 len:=I.len
theorem Inv.base0(I:Inv X pins σ H s)(e:H a=some (.dT xs)):∀o u,X.H₀ a≠some (.frz o u):=λo u z=>by
 have:=I.base.frzs a o u z
 rw[e] at this;cases this
theorem Inv.freeze(I:Inv X pins σ H s)(e:H a=some (.dT xs)):∃o,s.heap.get? a=some o/\Inv X pins σ (upd H a (.frz o (.dT xs))) s:=by
 have hx:=I.hok a _ e
 obtain⟨o,ho⟩:∃u,s.heap.get? a=some u:=by
  obtain⟨_,_,_,_,_,_,_,z,_⟩:=hx;exact⟨_,z⟩
 refine⟨o,ho,I.reword (by rw[e];exact λz=>nomatch z) (by rw[e];exact λ_ z=>nomatch z) (by rw[e];exact λ_ z=>nomatch z) (by rw[e];exact λ_ z=>nomatch z) (I.base0 e) ⟨ho,?_⟩⟩
 exact bU.stay hx (λ_ _ _ z=>z) (λc z=>by rw[aG (λq=>by rw[q,e] at z;cases z)];exact z) λc ys z=>by rw[aG (λq=>by rw[q,e] at z;cases z)];exact z
theorem Inv.thaw(I:Inv X pins σ H s)(e:H a=some (.frz o (.dT xs)))(hf:∀o u,X.H₀ a≠some (.frz o u)):Inv X pins σ (upd H a (.dT xs)) s:=by
 obtain⟨ho,hx⟩:=(show bU X.prog X.w H s.heap a (.frz o (.dT xs)) from I.hok a _ e);refine I.reword (by rw[e];exact λz=>nomatch z) (by rw[e];exact λ_ z=>nomatch z) (by rw[e];exact λ_ z=>nomatch z) (by rw[e];exact λ_ z=>nomatch z) hf ?_
 exact bU.stay hx (λ_ _ _ z=>z) (λc z=>by rw[aG (λq=>by rw[q,e] at z;cases z)];exact z) λc ys z=>by rw[aG (λq=>by rw[q,e] at z;cases z)];exact z
end
section
variable {prog:Program}{w:World}{A:Around}{E:Value->Shared->Prop}{s:Shared}
theorem Vj{d:Addr}{o:Obj}{es:Array DictEntry}{ep:Nat}{Q:Value->Shared->Prop}(hd:(d == sysModules)=false)(ho:s.heap.get? d=some o)(hx:o.ExactDict)(hdat:o.data=.dict es ep)
  (hQ:Q (.ref s.heap.objs.size) {s with heap:=s.heap.push {cls:=.type "dict_keyiterator",data:=.fields #[.ref d,.int 0 0,.int es.size 0,.int ep 0]}}):
  wpAny (model prog w) A (pyIter (.ref d)) Q E s:=by
 have hT:s.TypeIs (.ref d) "dict":=⟨o,ho,hx.1⟩;refine wpAny_pyIter_slot hT PySem.F.slot_dict_iter (wpAny_call_entry PySem.F.slot_dict_iter hT PySem.F.entry_dict_iter ?_ (PySem.F.args_dict_iter_1 _));unfold Builtin.«dict.__iter__»;refine za ?_;unfold Builtin.Dict.dictSlotNone;refine za (wpAny_notOrdered_dict hT ?_);show wpAny _ _ (pure (Value.ref d)) _ _ s;refine zc ?_;show wpAny _ _ (Builtin.Dict.showsAll d >>= _) _ _ s;unfold Builtin.Dict.showsAll;rw[if_neg (by rw[hd];exact zq)];refine za (zc ?_);refine za (wpAny_dictEntries ho hdat ?_);refine za (wpAny_dictEpoch ho hdat ?_);refine za (wpAny_newObj_type (zc ⟨_,rfl,"dict_keyiterator",_,⟨_,zB _ rfl,rfl⟩,PySem.F.slot_dict_keyiterator_next.lookup,?_⟩))
 simpa [rawInt] using hQ
theorem Vk{it d:Addr}{i n ep:Nat}{od:Obj}{es:Array DictEntry}{Q:Option Value->Shared->Prop}(hit:s.heap.IsKeyIter it d i n ep)(hod:s.heap.get? d=some od)(hdd:od.data=.dict es ep)(hsz:es.size=n)(hlt:i<n)
  (hQ:∀h',h'.IsKeyIter it d (i+1) n ep->Heap.SameBut it s.heap h'->Q (some (es[i]'(by omega)).key) {s with heap:=h'}):
  wpAny (model prog w) A (pyNext (.ref it)) Q E s:=by
 obtain⟨o,ho,hc,hd⟩:=id hit;unfold pyNext
 refine za (wpAny_attempt (wpAny_callSpecial?_slot (name:=Str.ofString "__next__") hit.typeIs PySem.F.slot_dict_keyiterator_next
  (wpAny_call_entry PySem.F.slot_dict_keyiterator_next hit.typeIs PySem.F.entry_dict_keyiterator_next ?_ (PySem.F.args_dict_keyiterator_next_1 _))))
 refine za (zc ?_);refine za ?_;refine za ?_
 first | refine za (wpAny_typeNameOfWhole_keyiter hit.typeIs (zc ?_)) | refine za (wpAny_typeNameOf_keyiter hit.typeIs (zc ?_))
 refine za (wpAny_fieldsOf ho hd ?_)
 have hown:Builtin.Dict_items.ownsTuple "dict_keyiterator" = false:=by decide
 simp only[hown,Bool.false_eq_true,if_false];show wpAny _ _ (if(Value.ref d == Value.none)=true then _ else _) _ _ s;rw[if_neg (show ¬((Value.ref d == Value.none)=true) from zq)];refine za (zc ?_);refine za (wpAny_dictEntries hod hdd ?_);rw[if_neg (by rw[hsz];simp)];refine za (zc ?_);refine za (wpAny_dictEpoch hod hdd ?_);rw[if_neg (by simp)];refine zc ?_
 have hlt':i<es.size:=by rw[hsz];exact hlt
 simp only[show ¬((i:Int)<0) from by omega,if_false,Int.toNat_natCast,Array.getElem?_eq_getElem hlt'];refine za ?_
 first | refine za (wpAny_typeNameOfWhole_keyiter hit.typeIs (zc ?_)) | refine za (wpAny_typeNameOf_keyiter hit.typeIs (zc ?_))
 refine za (wpAny_isOneOf_keyiter hit.typeIs ?_);show wpAny _ _ (setField (.ref it) 1 (rawInt ((i:Int)+1)) >>= _) _ _ s;refine za (wpAny_setField ho hd (by simp) ?_);have hit':(s.heap.update it (Obj.mapFields (·.setIfInBounds 1 (rawInt ((i:Int)+1))))).IsKeyIter it d (i+1) n ep :=
  ⟨_,Heap.get?_update_self _ ho (Obj.isFreed_of_fields (Obj.data_mapFields hd _)),(Obj.cls_mapFields ..).trans hc,by rw[Obj.data_mapFields hd];simp[rawInt]⟩
 refine za (zQ ?_);refine za (wpAny_isOneOf_keyiter (s:={s with heap:=s.heap.update it (Obj.mapFields (·.setIfInBounds 1 (rawInt ((i:Int)+1))))}) hit'.typeIs ?_);show wpAny _ _ (pure es[i].key) _ _ _;exact zc (zc ⟨_,rfl,zc (hQ _ hit' (Heap.SameBut.update ..))⟩)
theorem Vl{it d:Addr}{i n ep:Nat}{od:Obj}{es:Array DictEntry}{Q:Option Value->Shared->Prop}(hh:A.handled=none)(hit:s.heap.IsKeyIter it d i n ep)(hod:s.heap.get? d=some od)(hdd:od.data=.dict es ep)(hsz:es.size=n)(hge:n<=i)
  (hQ:∀h',Heap.ExtBut it s.heap h'->Q none {s with heap:=h'}):wpAny (model prog w) A (pyNext (.ref it)) Q E s:=by
 obtain⟨o,ho,hc,hd⟩:=id hit;unfold pyNext
 refine za (wpAny_attempt (wpAny_callSpecial?_slot (name:=Str.ofString "__next__") hit.typeIs PySem.F.slot_dict_keyiterator_next
  (wpAny_call_entry PySem.F.slot_dict_keyiterator_next hit.typeIs PySem.F.entry_dict_keyiterator_next ?_ (PySem.F.args_dict_keyiterator_next_1 _))))
 refine za (zc ?_);refine za ?_;refine za ?_
 first | refine za (wpAny_typeNameOfWhole_keyiter hit.typeIs (zc ?_)) | refine za (wpAny_typeNameOf_keyiter hit.typeIs (zc ?_))
 refine za (wpAny_fieldsOf ho hd ?_)
 have hown:Builtin.Dict_items.ownsTuple "dict_keyiterator" = false:=by decide
 simp only[hown,Bool.false_eq_true,if_false];show wpAny _ _ (if(Value.ref d == Value.none)=true then _ else _) _ _ s;rw[if_neg (show ¬((Value.ref d == Value.none)=true) from zq)];refine za (zc ?_);refine za (wpAny_dictEntries hod hdd ?_);rw[if_neg (by rw[hsz];simp)];refine za (zc ?_);refine za (wpAny_dictEpoch hod hdd ?_);rw[if_neg (by simp)];refine zc ?_
 have hge':es.size<=i:=by rw[hsz];exact hge
 simp only[show ¬((i:Int)<0) from by omega,if_false,Int.toNat_natCast,Array.getElem?_eq_none hge'];refine za ?_
 first | refine za (wpAny_typeNameOfWhole_keyiter hit.typeIs (zc ?_)) | refine za (wpAny_typeNameOf_keyiter hit.typeIs (zc ?_))
 show wpAny _ _ (setField (.ref it) 0 .none >>= _) _ _ s;refine za (wpAny_setField ho hd (by simp) ?_);show wpAny _ _ (newExc (.type "StopIteration") [] >>= _) _ _ _;refine za ?_;simp only[newExc,newTuple];refine za (wpAny_newObj_type ?_ (by size_fits));refine za (m:=firstArgMember _ _) (jp (a:=Value.none) (by first | rfl | (simp only[firstArgMember];rfl)) ?_);refine wpAny_newObj_type ?_ (by size_fits);simp only[raiseNew];refine za (wpAny_handled ?_);rw[show A.in1.handled=none from hh];refine za (zc (wpAny_throw ?_));refine za (wpAny_isInstance (T:="StopIteration") (b:=true) ⟨_,zB _ rfl,rfl⟩ isSubtype_stop ?_)
 exact zc (hQ _ (((Heap.SameBut.update ..).extBut.push _).push _))
end
def Itq(a:Addr)(o:Obj):It :=
 ⟨λi H=>∃ys:List (List Key×V),H a=some (.frz o (.dT ys))/\i<ys.length,
  λi H x H'=>H'=H/\∀ys:List (List Key×V),H a=some (.frz o (.dT ys))->∃b p,x=.ref b/\ys[i]?=some p/\H b=some (.tup (p.1.map kV)),
  λi H=>∃ys:List (List Key×V),H a=some (.frz o (.dT ys))/\ys.length<=i⟩
theorem yj{α β:Type}{R:α->β->Prop}{l:List α}{m:List β}(h:Paired R l m):∀{i:Nat}{x:α}{y:β},l[i]?=some x->m[i]?=some y->R x y:=by
 induction h with
 |nil=>intro i x y h;cases h
 |cons a b ih =>
  intro i x y h1 h2
  cases i with
  |zero=>cases h1;cases h2;exact a
  |succ i=>exact ih h1 h2
theorem ym{X:Cx}{pins:List (Addr×Obj)}{σ:St}{H:Hp}{s:Shared}{a:Addr}{o:Obj}{ys:List (List Key×V)}(I:Inv X pins σ H s)(e:H a=some (.frz o (.dT ys))):
  s.heap.get? a=some o/\(a == sysModules)=false/\o.ExactDict/\∃es ep,o.data=.dict es ep/\es.size=ys.length/\∀(i:Nat) (h:i<es.size),∃b p,es[i].key=.ref b/\ys[i]?=some p/\H b=some (.tup (p.1.map kV)):=by
 obtain⟨h1,z,y,xs,r,o',es,ep,h2,h3,h4,h5,h6⟩:=(show bU X.prog X.w H s.heap a (.frz o (.dT ys)) from I.hok a _ e);rw[h1] at h2;cases h2
 have hl:es.size=xs.length:=by rw[<-Array.length_toList,h5,zj]
 have hr:ys.length=xs.length:=r.length;refine⟨h1,y,h3,es,ep,h4,by omega,λi hi=>?_⟩
 have hx:i<xs.length:=by omega
 have hy:i<ys.length:=by omega
 have ek:es.toList[i]?=some (entryOfKey (tupleKind (cR X.prog X.w)) xs[i]):=by rw[h5,zy,zu hx];rfl
 rw[Array.getElem?_toList,Array.getElem?_eq_getElem hi] at ek;have hh:=yj r (zu hy) (zu hx);refine⟨xs[i].2.1,ys[i],?_,zu hy,hh.2.1⟩
 injection ek with ek
 rw[ek];rfl
theorem Vm{P:Program}{w:World}{K:Frag}{tg:Expr}(a it:Addr)(o:Obj)(es:Array DictEntry)(ep:Nat)(hd:o.data=.dict es ep):Turn P w K tg (Itq a o) [it] it (λi h=>h.IsKeyIter it a i es.size ep) where
 mem:=by simp
 obj:=λi h st b hb=>by
  have e:b=it:=by simpa using hb
  subst e;obtain⟨o,e,c,d⟩:=st;exact⟨o,e,λv z=>by rw[d] at z;cases z⟩
 keep:=λi h h' st k=>st.at λo e=>k it (by simp) o e
 item:=by
  intro X hP hw hK hc i pins s σ H E I hf st hg;subst hP hw hK;obtain⟨ys,hq,hlt⟩:=hg;obtain⟨q1,q2,q3,es',ep',q4,q5,q6⟩:=ym I hq;rw[hd] at q4;cases q4;obtain⟨f0,f1,f2,f3,f4,f5⟩:=hf it (by simp)
  have hi:i<es.size:=by omega
  refine Vk st q1 hd rfl hi λh' st' sb=>?_
  have I1:Inv X pins σ H {s with heap:=h'}:=I.turned (t':=s.toks) (λb o hb e=>(sb.2 b hb).trans e) f0 f1 f3 f4 f5;obtain⟨b,p,k1,k2,k3⟩:=q6 i hi;rw[k1];obtain⟨o2,e,c,d⟩:=id st';refine⟨_,rfl,mJ (s:={s with heap:=h'}) e c d (by decide) ⟨.ref b,H,I1,rfl,⟨rfl,λzs hz=>?_⟩,st',λb hb=>(hf b hb).1⟩⟩;rw[hq] at hz;cases hz;exact⟨b,p,rfl,k2,k3⟩
 done:=by
  intro X hP hw hK hc i pins s σ H E I hf st hg;subst hP hw hK;obtain⟨ys,hq,hge⟩:=hg;obtain⟨q1,q2,q3,es',ep',q4,q5,q6⟩:=ym I hq;rw[hd] at q4;cases q4;obtain⟨f0,f1,f2,f3,f4,f5⟩:=hf it (by simp)
  exact Vl (I.ok.hd hc) st q1 hd rfl (by omega) λh' eb=>⟨rfl,I.turned (t':=s.toks) (λb o hb e=>eb b o hb e) f0 f1 f3 f4 f5⟩
 self:=λ_ _ _ _ _ st h=>wpAny_pyIter_keyiter st h
def Vn(tl:TE):TI:=λσ H R=>tl σ H λx H1=>∃a xs,x=.ref a/\H1 a=some (.dT xs)/\∀o,R (Itq a o) (upd H1 a (.frz o (.dT xs)))
theorem Vo{X:Cx}{tg l:Expr}{tl:TE}(hl:PE X l tl):PI X tg l (Vn tl):=by
 intro pins s σ H R I h
 refine thn (hl pins s σ H _ I h) λv s1 ⟨x,H1,I1,r1,q1⟩=>?_
 obtain⟨a,xs,e,hq,q⟩:=q1;subst e;cases r1;obtain⟨o,ho,I2⟩:=I1.freeze hq;obtain⟨q1,q2,q3,es,ep,q4,q5,q6⟩:=ym I2 bF;refine Vj q2 q1 q3 q4 ?_;refine⟨s1.heap.objs.size,[s1.heap.objs.size],_,_,upd H1 a (.frz o (.dT xs)),rfl,I2.kept (t':=s1.toks) λb o e=>zn _ e,Vm a _ o es ep q4,⟨_,zB _ rfl,rfl,rfl⟩,λb hb=>?_,q o⟩
 have e:b=s1.heap.objs.size:=by simpa using hb
 subst e;exact I2.fpOk (zd _) (I2.hok.fresh (zd _))
section
variable {K:Frag}{mg:Str->Option Value}{O:aj}{H F:Hp}{as:List Addr}
theorem Gr.tupF{b:Addr}{xs:List V}(hb:H b=some (.tup xs))(hf:F b=none):Gr H F as H (upd F b (.tup xs)) as :=
 ⟨λa o e _ hd=>aG (λz=>by rw[z,hb] at e;cases e;cases hd),λa u e=>by rw[aG (bV e hf)];exact e,⟨[],by simp,λ_ h=>nomatch h⟩,λ_ _ h _ _=>h,λ_ h=>h,λ_ _ _ h=>h⟩
theorem RlO.noT{b:Addr}{xs:List V}(r:RlO K mg O H F as)(hb:H b=some (.tup xs)):b∉as:=λhm=>by
 obtain⟨n,hn,e⟩:=List.mem_iff_getElem.mp hm
 have hO:n<O.length:=by rw[<-r.len];exact hn
 have q:=r.ob n b O[n] (by rw[zu hn,e]) (zu hO)
 revert q
 cases O[n] with
 |ins c fs=>rintro⟨C,dx,gs,_,h2,_⟩;rw[hb] at h2;cases h2
 |ml ds=>rintro⟨xs,h1,_⟩;rw[hb] at h1;cases h1
 |dt kvs=>rintro⟨xs,h1,_⟩;rw[hb] at h1;cases h1
 |df kvs=>rintro⟨o,xs,h1,_⟩;rw[hb] at h1;cases h1
 |dk kvs=>rintro⟨xs,h1,_⟩;rw[hb] at h1;cases h1
 |kf kvs=>rintro⟨o,xs,h1,_⟩;rw[hb] at h1;cases h1
 |xc c fs=>rintro⟨C,oe,u,_,h1,_⟩;rw[hb] at h1;cases h1
 |gone=>rintro⟨φ,h1⟩;rw[hb] at h1;cases h1
theorem yo:∀ks:List Key,Rps K F as (ks.map kV) (ks.map oN)
 | []=>Rps.nil
 | .inl i::ks=>Rps.cons (show Rp K F as (.int i) (.int i) from rfl) (yo ks)
 | .inr x::ks=>Rps.cons (show Rp K F as (.str x) (.str x.cps.toList) from by
   show V.str x=V.str (S x.cps.toList)
   rw[show S x.cps.toList=x by cases x;simp[S]]) (yo ks)
theorem RlO.df{n:Nat}{a:Addr}{kvs:List (List Key×D)}(r:RlO K mg O H F as)(hn:as[n]?=some a)(hO:O[n]?=some (.df kvs)):∃o xs,H a=some (.frz o (.dT xs))/\DtR K F as xs kvs:=let ⟨o,xs,h1,h2,h3⟩:=r.ob n a _ hn hO;⟨o,xs,h1,h2,h3⟩
end
section
variable {X:Cx}{md:List Md}{P:Pt}{R:RR}
def uA(p:List Key×D):D:=.tup (p.1.map oN)
def iC(m:M D):M (List D):=λρ O=>(m ρ O).bind λd O1=>match d with
 | .ob n=>match O1[n]? with
  |some (.dt kvs)=>.ok (kvs.map uA) (O1.set n (.df kvs))
  | _=>.no
 | _=>.no
theorem yp{tg e:Expr}{m:M D}(h:VE X md P e m):VI X md P tg e (iC m):=(Vo h).imp λσ H Q q=>by
 obtain⟨ρ,O,F,as,ds,O',r,s,e,k⟩:=q;obtain⟨d,O1,e1,e⟩:=Res.bind_ok e;split at e
 ·rename_i n;split at e
  ·rename_i kvs e2;cases e;refine⟨ρ,_,F,as,_,_,r,s,e1,λv H1 F1 as1 g1 r1 hv=>?_⟩;obtain⟨a,rfl,ha⟩:=Rp.unO hv;obtain⟨xs,x1,x2⟩:=r1.dt ha e2;refine⟨a,xs,rfl,x1,λo=>k (Itq a o) (upd H1 a (.frz o (.dT xs))) F1 as1 (g1.trans (nG (zO ha) x1)) (r1.mutG ha ⟨o,xs,bF,x2.1,x2.2⟩) ⟨λi d H2 F2 as2 g2 r2 hd=>?_,λH2 F2 as2 g2 r2=>?_⟩⟩
   ·have hz:=g2.kz a o _ bF
    have hi:i<kvs.length:=by have:=(zl.mp hd).1;rwa [zj] at this
    have hi':i<xs.length:=by rw[x2.len];exact hi
    refine⟨⟨xs,hz,hi'⟩,λx H3 y=>?_⟩;obtain⟨rfl,hy⟩:=y;obtain⟨b,p,rfl,hp,hb⟩:=hy xs hz
    have hk:p.1=kvs[i].1:=by
     have h1:(xs.map (·.1))[i]?=some p.1:=by rw[zy,hp];rfl
     rw[x2.1,zy,zu hi] at h1
     injection h1 with h1
     exact h1.symm
    rw[zy,zu hi] at hd
    injection hd with hd
    subst hd
    have fin:∀F3:Hp,F3 b=some (.tup (p.1.map kV))->Rp X.K F3 as2 (.ref b) (uA kvs[i]):=λF3 h3=>⟨b,_,rfl,.inl h3,by rw[<-hk];exact yo p.1⟩
    cases hF:F2 b with
    |some u =>
     obtain⟨O2,r2'⟩:=r2
     have:=r2'.fh b u hF
     rw[hb] at this;cases this;exact⟨F2,Gr.refl,λ_ r=>r,fin F2 hF⟩
    |none=>exact⟨upd F2 b (.tup (p.1.map kV)),Gr.tupF hb hF,λ_ r=>r.frz hb hF (r.noT hb) rfl,fin _ bF⟩
   ·exact⟨xs,g2.kz a o _ bF,by rw[zj,x2.len];exact zd _⟩
  ·cases e
 ·cases e
end
def iW(i:Nat)(ms:MS):MS:=λρ O=>match ρ[i]? with
 |some (some (.ob n))=>match O[n]? with
  |some (.dt _)=>match ms ρ O with
   | .nx ρ2 O2=>match O2[n]? with
    |some (.df kvs)=>.nx ρ2 (O2.set n (.dt kvs))
    | _=>.no
   | _=>.no
  | _=>.no
 | _=>.no
section
variable {K:Frag}{mg:Str->Option Value}{md:List Md}{P:Pt}{ρ:aA}{σ:St}{O:aj}{H F H' F':Hp}{as as':List Addr}
theorem gO.reH{m:Md}{v:V}{d:D}{a:Addr}{h:HO}(q:gO P K H F as m v d)(ha:a∈as):gO P K (upd H a h) F as m v d:=by
 cases m with
 |v=>exact q
 |s =>
  rcases q with q | ⟨c,xs,ds,e1,e2,e3,e4,e5,e6⟩
  ·exact .inl q
  ·exact .inr ⟨c,xs,ds,e1,e2,by rw[aG (λz=>e4 (by rw[z];exact ha))];exact e3,e4,e5,e6⟩
 |o =>
  rcases q with⟨h1,q⟩ | ⟨c,xs,ds,e1,e2,e3,e0,e4,e5,e6⟩
  ·exact .inl ⟨h1,q⟩
  ·exact .inr ⟨c,xs,ds,e1,e2,by rw[aG (λz=>e4 (by rw[z];exact ha))];exact e3,e0,e4,e5,e6⟩
theorem SlO.reH{a:Addr}{h:HO}(s:SlO K md P ρ σ H F as)(ha:a∈as):SlO K md P ρ σ (upd H a h) F as :=
 ⟨s.len,s.len',λc p z=>s.pd c p (by
  by_cases e:c=a
  ·rw[e,bF] at z;cases z
  ·rwa [aG e] at z),λi m d e1 e2=>let ⟨v,q,r⟩:=s.sl i m d e1 e2;⟨v,q,r.reH ha⟩,s.inj,s.pin⟩
theorem SlO.obAt{i n:Nat}(s:SlO K md P ρ σ H F as)(e:ρ[i]?=some (some (.ob n))):∃a,as[n]?=some a:=by
 have hi:i<md.length:=by rw[<-s.len'];exact(zl.mp e).1
 obtain⟨v,_,q⟩:=s.sl i _ _ (zu hi) e
 have hr:Rp K F as v (.ob n):=by
  revert q
  cases md[i] with
  |v=>exact λq=>q
  |s =>
   rintro(q | ⟨a,xs,ds,_,z,_⟩)
   ·exact q
   ·cases z
  |o =>
   rintro(⟨_,q⟩ | ⟨a,xs,ds,_,z,_⟩)
   ·exact q
   ·cases z
 obtain⟨a,_,ha⟩:=Rp.unO hr;exact⟨a,ha⟩
theorem GrS.reH{a:Addr}{h:HO}{xs:List (List Key×V)}(g:GrS P H F as H' F' as')(ha:a∈as)(hx:H a=some (.dT xs)):GrS P H F as (upd H' a h) F' as' :=
 ⟨g.fz,g.ff,g.nw,λc o p e hn hd=>by rw[aG (λz=>hn (by rw[z];exact ha))];exact g.fr c o p e hn hd,λc e=>by
  by_cases z:c=a
  ·rw[z,bF] at e;cases e
  ·rw[aG z] at e;exact g.dm c e,λc o u e=>by rw[aG (λz=>by rw[z,hx] at e;cases e)];exact g.kz c o u e⟩
end
section
variable {X:Cx}{md:List Md}{P:Pt}{R:RR}
theorem uB(i:Nat){st:Stmt}{ms:MS}(h:VS X md P R st ms):VS X md P R st (iW i ms):=λpins s σ H D I q=>by
 obtain⟨ρ,O,F,as,r,sl,k⟩:=q;unfold iW at k;split at k
 ·rename_i n e1;split at k
  ·rename_i kv0 e2;split at k
   ·rename_i ρ2 O2 e3;split at k
    ·rename_i kvs e4;obtain⟨a,ha⟩:=sl.obAt e1;obtain⟨xs0,x1,_⟩:=r.dt ha e2;have hf:=I.base0 x1
     refine thn (h pins s σ H {nx:=λσ' H'=>∃F' as',GrS P H F as H' F' as'/\RlO X.K X.mg O2 H' F' as'/\SlO X.K md P ρ2 σ' H' F' as',rt:=λ_ _=>False} I ⟨ρ,O,F,as,r,sl,by rw[e3];exact λσ' H' F' as' g r s=>⟨F',as',g,r,s⟩⟩) λf s' z=>?_
     cases f with
     |next =>
      obtain⟨σ',H',I',F',as',g,r',s2⟩:=z;have ha':=g.at_ n a ha;have hm':=zO ha';obtain⟨o,xs,y1,y2⟩:=r'.df ha' e4;exact⟨σ',_,I'.thaw y1 hf,k σ' _ F' as' (g.reH (zO ha) x1) (r'.mutG ha' ⟨xs,bF,y2.1,y2.2⟩) (s2.reH hm')⟩
     |brk=>obtain⟨σ',H',_,z⟩:=z;exact z.elim
     |cont=>obtain⟨σ',H',_,z⟩:=z;exact z.elim
     |ret u=>obtain⟨v,σ',H',_,_,z⟩:=z;exact z.elim
    ·exact False.elim k
   ·exact False.elim k
  ·exact False.elim k
 ·exact False.elim k
def tsG(n:Nat)(y:D)(O:aj):Res D:=match lO y,O[n]? with
 |some k,some (.df kvs)=>match bf kvs k with
  |some d=>.ok d O
  |none=>.no
 | _,_=>tsF n y O
def aZ(mo my:M D):M D:=λρ O=>(mo ρ O).bind λx O1=>match x with
 | .ob n=>(my ρ O1).bind λy O2=>tsG n y O2
 | _=>.no
theorem eQ{kk:Nat}(hk:bK X.K=true)(hr:aX kk X.A){o i:Expr}{pos:Pos}{mo my:M D}(ho:VE X md P o mo)(hi:VE X md P i my)(hs:tQ i:=by intro _ _;rfl):VE X md P (.Subscript o i pos) (aZ mo my):=λpins s σ H Q I q=>by
 obtain⟨ρ,O,F,as,d,O',r,sl,e,k⟩:=q;obtain⟨x,O1,e1,e⟩:=Res.bind_ok e
 cases x with
 |ob n =>
  obtain⟨y,O2,e2,e⟩:=Res.bind_ok e;unfold tsG at e;split at e
  ·rename_i ks kvs e3 e4;split at e
   ·rename_i d' e5;cases e;refine FP (mU hr) ho hi hs pins s σ H Q I ⟨ρ,_,F,as,_,_,r,sl,e1,λx H1 F1 as1 g1 r1 hx=>⟨ρ,_,F1,as1,_,_,r1,sl.step g1,e2,λu H2 F2 as2 g2 r2 hu=>?_⟩⟩;obtain⟨a,rfl,ha⟩:=Rp.unO hx;obtain⟨o,xs,x1,x2⟩:=r2.df (g2.at_ n a ha) e4;obtain⟨b,rfl,hb⟩:=Rp.tkey hk hu e3
    rcases x2.val (k:=ks) with⟨z1,z2⟩ | ⟨d2,v',z1,z2,z3⟩
    ·rw[z1] at e5;cases e5
    ·rw[z1] at e5;cases e5;refine⟨a,v',rfl,?_,k _ H2 F2 as2 (g1.trans g2) r2 z3⟩;rw[<-z2];exact .inr ⟨xs,ks,b,.inr ⟨o,x1⟩,rfl,r2.fh _ _ hb,rfl⟩
   ·cases e
  ·refine Va hk hr ho hi hs pins s σ H Q I ⟨ρ,O,F,as,d,O',r,sl,?_,k⟩;unfold Hr;rw[e1];show Res.bind (my ρ O1) _=_;rw[e2];exact e
 | _=>cases e
end
section
variable {X:Cx}{md:List Md}{P:Pt}{R:RR}
theorem Vp(hk:bK X.K=true){mo my:M D}{σ:St}{H:Hp}{Q:VK}(q:tM X.K X.mg md P (rO X.K) (ig true my mo) σ H Q):FN (tM X.K X.mg md P (rV X.K) my) (tM X.K X.mg md P (rV X.K) mo) σ H Q:=by
 obtain⟨ρ,O,F,as,d,O',r,s,e,k⟩:=q;obtain⟨y,O1,e1,e⟩:=Res.bind_ok e;obtain⟨x,O2,e2,e⟩:=Res.bind_ok e;split at e
 ·rename_i n;split at e
  ·rename_i ks kvs e3 e4;cases e;refine⟨ρ,_,F,as,_,_,r,s,e1,λu H1 F1 as1 g1 r1 hu=>⟨ρ,_,F1,as1,_,_,r1,s.step g1,e2,λx H2 F2 as2 g2 r2 hx=>?_⟩⟩;obtain⟨a,rfl,ha⟩:=Rp.unO hx;obtain⟨xs,x1,x2⟩:=r2.dt ha e4;obtain⟨b,rfl,hb⟩:=Rp.tkey hk ((show Rp X.K F1 as1 u y from hu).gr g2) e3;refine⟨a,_,rfl,eX.t x1 (r2.fh _ _ hb),?_⟩
   rcases x2.val (k:=ks) with⟨z1,z2⟩ | ⟨d',v',z1,z2,z3⟩
   ·rw[z1] at k;rw[z2];exact k _ H2 F2 as2 (g1.trans g2) r2 (.inl ⟨rfl,Rp.bl⟩)
   ·rw[z1] at k;rw[z2];exact k _ H2 F2 as2 (g1.trans g2) r2 (.inl ⟨rfl,Rp.bl⟩)
  ·cases e
 ·cases e
theorem Vq{kk:Nat}(hk:bK X.K=true)(hr:aX kk X.A){o i:Expr}{pos:Pos}{mo my:M D}(hi:VE X md P i my)(ho:VE X md P o mo)(hm:behindInMarks .NotIn o=false:=by with_unfolding_all rfl):TsE X md P (.Compare i [.NotIn] [o] pos) (aJ (ig true my mo)):=
 (wJ (Rx (mU hr) hi ho) hm).imp λσ H Q h=>by
  have q:=tZ h;exact Vp hk q
end
section
variable {prog:Program}{w:World}
theorem Vr(a:Addr)(hsy:(a == sysModules)=false)(n:Nat):MeetsIn prog w (Builtin.«dict.__len__» ⟨[.ref a],[]⟩) (λ_ R s=>(∃ob es ep,s.heap.get? a=some ob/\ob.data=.dict es ep/\es.size=n)/\R (.ok (.ret (.int n s.toks))) {s with toks:=s.toks+1}):=
 .of_wp λA R s ⟨⟨ob,es,ep,hob,hda,hz⟩,hR⟩=>by
  show wpAny _ _ (dictSize a >>= _) _ _ s;unfold dictSize;refine za (za (wpAny_dictEntries hob hda (zc ?_)));show wpAny _ _ (Builtin.Dict.pendingCount a >>= _) _ _ s;refine za (wpAny_pendingCount_other hsy (wpAny_ret_mkInt ?_));rw[Nat.add_zero,hz];exact hR
end
section
variable {X:Cx}{md:List Md}{P:Pt}{R:RR}
theorem Vs{H:Hp}{kvs:List (List Key×V)}{xs:List (List Key×Addr×Value)}(h:KT H kvs xs):kvs.length=xs.length:=by
 induction h with
 |nil=>rfl
 |cons _ _ ih=>rw[zI,zI,ih]
theorem Vt:jB X (.builtin "len") (λxs H Q=>∃a kvs,xs=[V.ref a]/\H a=some (.dT kvs)/\Q (.int kvs.length) H):=by
 intro pins s σ H xs us Q I r h;obtain⟨a,kvs,rfl,ha,q⟩:=h;obtain⟨u,rfl,ru⟩:=vals1 r;cases ru;obtain⟨z,hsy,ys,rel,dd⟩:=jT I.hok (.inl ha);have ty:=dd.typeIs;obtain⟨ob,es,ep,hob,hx,hda,hes,_⟩:=dd
 have hz:es.size=kvs.length:=by rw[size_of_entries hes,<-Vs rel]
 rw[sizeLine_eq] at z
 generalize kvs.length=n at z hz q
 refine Calls.call_function_entry kind_len plain_len entry_len (args_len1 _) ?_;unfold Builtin.«len»;refine za (m:=oneArg "len" _) (zc (za (m:=callSpecial? (.ref a) (Str.ofString "__len__")) (wpAny_callSpecial?_slot (name:=Str.ofString "__len__") ty PySem.F.slot_dict_len (call_meetsIn PySem.F.slot_dict_len ty PySem.F.entry_dict_len (PySem.F.args_dict_len_1 _) (Vr a hsy n) ⟨⟨ob,es,ep,hob,hda,hz⟩,?_⟩))));show wpAny _ _ _ _ _ {s with toks:=s.toks+1};refine za (zQ (zc (za (jm ?_))));show wpAny _ _ (if(n:Int)<0 then _ else _) _ _ _;rw[if_neg (by omega)];show wpAny _ _ (if(n:Int)>=2 ^ 63 then _ else _) _ _ _
 rw[if_neg (by omega)];exact za (wpAny_mkInt (zc ⟨_,rfl,⟨.int n,H,I.tok _,⟨_,rfl⟩,q⟩⟩))
def kj(mo:M D):M D:=λρ O=>(mo ρ O).bind λx O1=>match x with
 | .ob n=>match O1[n]? with
  |some (.dt kvs)=>.ok (.int kvs.length) O1
  | _=>.no
 | _=>.no
theorem yq{a:Expr}{p pos:Pos}{m:M D}(hm:X.mg "len" = none)(h:VE X md P a m)(hg:Gl X "len":=by rfl)(hs1:starEach [a] X.env=(false,eval a X.env)::starEach [] X.env:=by exact dh rfl)(hpl:(backTo pos (starEach [] X.env)).any (·.1)=false:=by exact dG rfl):OE X md P (.Call (.Name "len" p) [a] [] pos) (kj m):=
 (qG Vt hg hm (by decide +kernel) (gJ h jQ hs1) (by decide) (by decide) hs1 hpl).imp λσ H Q q=>by
  obtain⟨ρ,O,F,as,d,O',r,s,e,k⟩:=q;obtain⟨x,O1,e1,e⟩:=Res.bind_ok e;split at e
  ·rename_i n;split at e
   ·rename_i kvs e4;cases e;refine⟨ρ,_,F,as,_,_,r,s,e1,λv H1 F1 as1 g1 r1 hv=>?_⟩;obtain⟨a,rfl,ha⟩:=Rp.unO hv;obtain⟨xs,x1,x2⟩:=r1.dt ha e4
    have hl:xs.length=kvs.length:=by
     have:=congrArg List.length x2.1
     rw[zj,zj] at this;exact this
    refine⟨a,xs,rfl,x1,?_⟩;rw[hl];exact k _ H1 F1 as1 g1 r1 (.inl ⟨rfl,Rp.int⟩)
   ·cases e
  ·cases e
theorem Vu:jB X (.builtin "isinstance") (λxs H Q=>∃a kvs,xs=[V.ref a,.ty "dict"]/\H a=some (.dT kvs)/\Q (.bl true) H):=by
 intro pins s σ H xs us Q I r h;obtain⟨a,kvs,rfl,ha,q⟩:=h;obtain⟨u,c,rfl,ru,rc⟩:=vals2 r;cases(show c=.type "dict" from rc);cases(show u=Value.ref a from ru);obtain⟨z,hsy,ys,rel,dd⟩:=jT I.hok (.inl ha);obtain⟨ob,es,ep,hob,hx,hda,hes,_⟩:=dd
 exact PySem.W.kia_one PySem.W.kitx_dict I.kIn ⟨ob,hob,hx.1⟩ (Gf X.K "dict") (λz=>nomatch z) λtk=>⟨.bl true,H,I.tok tk,rfl,q⟩
def nM(mo:M D):M D:=λρ O=>(mo ρ O).bind λx O1=>match x with
 | .ob n=>match O1[n]? with
  |some (.dt _)=>.ok (.bl true) O1
  | _=>.no
 | _=>.no
theorem Ht{a:Expr}{p p' pos:Pos}{m:M D}(hm:X.mg "isinstance" = none)(hT:X.mg "dict" = none)(h:VE X md P a m)(hg:Gl X "isinstance":=by rfl)(hgT:Gl X "dict":=by rfl)
  (hs1:starEach [a,.Name "dict" p'] X.env=(false,eval a X.env)::starEach [.Name "dict" p'] X.env:=by exact dh rfl) (hs2:starEach [.Name "dict" p'] X.env=(false,eval (.Name "dict" p') X.env)::starEach [] X.env:=by rfl) (hpl:(backTo pos (starEach [.Name "dict" p'] X.env)).any (·.1)=false:=by exact dG rfl):
  OE X md P (.Call (.Name "isinstance" p) [a,.Name "dict" p'] [] pos) (nM m):=
 (qG Vu hg hm (by decide +kernel) (gJ h (gJ (DW (v:=.ty "dict") hgT hT (by decide +kernel) rfl) jQ hs2) hs1) (by decide) (by decide) hs1 hpl).imp λσ H Q q=>by
  obtain⟨ρ,O,F,as,d,O',r,s,e,k⟩:=q;obtain⟨x,O1,e1,e⟩:=Res.bind_ok e;split at e
  ·rename_i n;split at e
   ·rename_i kvs e4;cases e;refine⟨ρ,_,F,as,_,_,r,s,e1,λv H1 F1 as1 g1 r1 hv=>?_⟩;obtain⟨a,rfl,ha⟩:=Rp.unO hv;obtain⟨xs,x1,x2⟩:=r1.dt ha e4;exact⟨a,xs,rfl,x1,k _ H1 F1 as1 g1 r1 (.inl ⟨rfl,Rp.bl⟩)⟩
   ·cases e
  ·cases e
end
def pI(kvs:List (Key×D))(k:Key):Option D:=(kvs.find? λp=>decide (p.1=k)).map (·.2)
def Hu(kvs:List (Key×D))(k:Key)(d:D):List (Key×D):=
 if(kvs.any λp=>decide (p.1=k))=true then kvs.map (λp=>if p.1=k then(p.1,d) else p) else kvs++[(k,d)]
def DkR(K:Frag)(F:Hp)(as:List Addr)(xs:List (Key×V))(kvs:List (Key×D)):Prop:=xs.map (·.1)=kvs.map (·.1)/\Rps K F as (xs.map (·.2)) (kvs.map (·.2))
section
variable {K:Frag}{mg:Str->Option Value}{O:aj}{H F H' F':Hp}{as as':List Addr}
theorem DkR.len{xs:List (Key×V)}{kvs:List (Key×D)}(h:DkR K F as xs kvs):xs.length=kvs.length:=by
 have:=congrArg List.length h.1
 simpa using this
theorem DkR.un{xs:List (Key×V)}{p:Key×D}{kvs:List (Key×D)}(h:DkR K F as xs (p::kvs)):∃v r,xs=(p.1,v)::r/\Rp K F as v p.2/\DkR K F as r kvs:=by
 obtain⟨h1,h2⟩:=h
 cases xs with
 |nil=>cases h1
 |cons x r =>
  obtain⟨v,r',e,q1,q2⟩:=h2.un;cases e;rw[zh,zh] at h1;have q3:=(List.cons.inj h1).1;refine⟨x.2,r,?_,q1,(List.cons.inj h1).2,q2⟩;rw[<-q3]
theorem DkR.val{k:Key}:∀{kvs:List (Key×D)}{xs:List (Key×V)},DkR K F as xs kvs->(pI kvs k=none/\dB xs k=none)\/∃d v,pI kvs k=some d/\dB xs k=some v/\Rp K F as v d
 | [],xs,h=>by
  have:=h.len
  cases xs with
  |nil=>exact .inl ⟨rfl,rfl⟩
  |cons=>cases this
 |p::kvs,xs,h=>by
  obtain⟨v,r,rfl,h1,h2⟩:=h.un
  by_cases e:p.1=k
  ·exact .inr ⟨p.2,v,by simp[pI,List.find?_cons,e],qH e,h1⟩
  ·rw[show pI (p::kvs) k=pI kvs k by simp[pI,List.find?_cons,e],qI (p:=(p.1,v)) e];exact DkR.val h2
theorem DkR.any{k:Key}:∀{kvs:List (Key×D)}{xs:List (Key×V)},DkR K F as xs kvs->(xs.any λp=>decide (p.1=k))=kvs.any λp=>decide (p.1=k)
 | [],xs,h=>by
  have:=h.len
  cases xs with
  |nil=>rfl
  |cons=>cases this
 |p::kvs,xs,h=>by
  obtain⟨v,r,rfl,h1,h2⟩:=h.un;rw[List.any_cons,List.any_cons,DkR.any h2]
theorem DkR.repl{k:Key}{v:V}{d:D}(hv:Rp K F as v d):∀{kvs:List (Key×D)}{xs:List (Key×V)},DkR K F as xs kvs ->
  DkR K F as (xs.map λp=>if p.1=k then(p.1,v) else p) (kvs.map λp=>if p.1=k then(p.1,d) else p)
 | [],xs,h=>by
  have:=h.len
  cases xs with
  |nil=>exact⟨rfl,Rps.nil⟩
  |cons=>cases this
 |p::kvs,xs,h=>by
  obtain⟨u,r,rfl,h1,h2⟩:=h.un;obtain⟨i1,i2⟩:=DkR.repl (k:=k) hv h2
  by_cases e:p.1=k
  ·rw[zh,zh,if_pos e,if_pos e];exact⟨by rw[zh,zh,i1],Rps.cons hv i2⟩
  ·rw[zh,zh,if_neg e,if_neg e];exact⟨by rw[zh,zh,i1],Rps.cons h1 i2⟩
theorem DkR.put{xs:List (Key×V)}{kvs:List (Key×D)}(h:DkR K F as xs kvs)(k:Key){v:V}{d:D}(hv:Rp K F as v d):DkR K F as (putK xs k v) (Hu kvs k d):=by
 unfold putK Hu;rw[h.any]
 split
 ·exact h.repl hv
 ·exact⟨by rw[zN,zN,h.1];rfl,by rw[zN,zN];exact Rps.snoc h.2 hv⟩
theorem RlO.dk{n:Nat}{a:Addr}{kvs:List (Key×D)}(r:RlO K mg O H F as)(hn:as[n]?=some a)(hO:O[n]?=some (.dk kvs)):∃xs,H a=some (.dK xs)/\DkR K F as xs kvs:=let ⟨xs,h1,h2,h3⟩:=r.ob n a _ hn hO;⟨xs,h1,h2,h3⟩
end
section
variable {X:Cx}{md:List Md}{P:Pt}{R:RR}
end
section
variable {X:Cx}{md:List Md}{P:Pt}{R:RR}
end
section
variable {X:Cx}{md:List Md}{P:Pt}{R:RR}
theorem gO.int{K:Frag}{H F:Hp}{as:List Addr}{m:Md}{v:V}{a:Int}(h:gO P K H F as m v (.int a)):v=.int a:=by
 cases m with
 |v=>exact(show Rp K F as v (.int a) from h).unI
 |s =>
  rcases h with h | ⟨_,_,_,_,h,_⟩
  ·exact h.unI
  ·cases h
 |o =>
  rcases h with⟨_,h⟩ | ⟨_,_,_,_,h,_⟩
  ·exact h.unI
  ·cases h
end
end L2
namespace L2
open PySem PySem.Spec PyProof.Rows PySem.W PySem.Calls
def kE(ss:List Str)(x:Str):List Str:=if x∈ss then ss else ss++[x]
def pJ(es:Array (Int×Value)):List Str:=es.toList.map λe=>strOf e.2
def uC(prog:Program)(w:World)(h:Heap)(a:Addr)(ss:List Str)(o:Obj)(es:Array (Int×Value))(ep:Nat)(t:SetTable):Prop :=
 h.get? a=some o/\o.ExactSet/\o.data=.set es ep t/\ElemsOf (PySem.strKind prog w) es.toList/\(pJ es).Perm ss/\es.size<scanBound/\t.fits es.size=true/\(es.size=0\/t.plain=false)/\t.led = !w.params.followText "set-order"
def fJ(prog:Program)(w:World)(h:Heap)(a:Addr)(ss:List Str):Prop:=∃o es ep t,uC prog w h a ss o es ep t
section
variable {prog:Program}{w:World}{A:Around}{E:Value->Shared->Prop}{s:Shared}{a:Addr}{ss:List Str}
theorem fJ.at{h h':Heap}(x:fJ prog w h a ss)(k:∀o,h.get? a=some o->h'.get? a=some o):fJ prog w h' a ss :=
 let ⟨o,es,ep,t,h1,r⟩:=x;⟨o,es,ep,t,k o h1,r⟩
theorem fJ.len{h:Heap}(x:fJ prog w h a ss):ss.length<scanBound:=by
 obtain⟨o,es,ep,t,h1,h2,h3,h4,h5,h6,_⟩:=x;rw[<-h5.length_eq];unfold pJ;rw[zj];exact h6
theorem Vv(t:SetTable)(es:Array (Int×Value))(n:Nat)(h:t.plain=false):(relayAll t es n).2.1.plain=false:=by
 unfold relayAll
 split
 ·rename_i t' order e;dsimp only
  split
  ·unfold SetTable.relaid SetTable.laid at e
   cases q:SetTable.layClean (SetTable.sizeAbove n - 1) (Array.map (λx=>x.fst) es) with
   |none=>rw[q] at e;cases e
   |some ow =>
    rw[q] at e;cases e;exact h
  ·rfl
 ·rfl
theorem Vw(t:SetTable)(es:Array (Int×Value))(n:Nat):(relayAll t es n).2.1.led=t.led:=by
 unfold relayAll
 split
 ·rename_i t' order e;dsimp only
  split
  ·unfold SetTable.relaid SetTable.laid at e
   cases q:SetTable.layClean (SetTable.sizeAbove n - 1) (Array.map (λx=>x.fst) es) with
   |none=>rw[q] at e;cases e
   |some ow =>
    rw[q] at e;cases e;rfl
  ·rfl
 ·rfl
theorem Vx(t:SetTable)(n:Nat):(t.orStandIn n).led=t.led:=by
 unfold SetTable.orStandIn
 split<;>rfl
theorem Vy(t:SetTable)(es:Array (Int×Value))(h:Int)(x:Value):(layNew t es h x).2.1.led=t.led:=by
 unfold layNew
 split
 ·exact Vx _ _
 ·rfl
theorem Hv{h:Heap}{o:Obj}{es:Array (Int×Value)}{ep:Nat}{t:SetTable}(ho:h.get? a=some o)(hex:o.ExactSet)(hd:o.data=.set es ep t)
  {es':Array (Int×Value)}{t':SetTable} (hel:ElemsOf (PySem.strKind prog w) es'.toList) (hp:(pJ es').Perm ss) (hb:es'.size<scanBound) (hf:t'.fits es'.size=true) (hpl:t'.plain=false) (hled:t'.led = !w.params.followText "set-order"):
  (h.update a (Obj.putSet es' t')).get? a=some {o with data:=.set es' (ep+1) t'}/\fJ prog w (h.update a (Obj.putSet es' t')) a ss:=by
 have hg:(h.update a (Obj.putSet es' t')).get? a=some {o with data:=.set es' (ep+1) t'}:=by
  have:=Heap.get?_update_self (Obj.putSet es' t') ho (by rw[putSet_of es' t' hd];rfl)
  rw[putSet_of es' t' hd] at this;exact this
 exact⟨hg,_,es',ep+1,t',hg,hex,rfl,hel,hp,hb,hf,.inr hpl,hled⟩
theorem Hw{g:Bool->Sem Unit}(hg:∀(b:Bool) (s₁:Shared) (Q':Unit->Shared->Prop),Q' () s₁->wpAny (model prog w) A (g b) Q' E s₁)
  {o:Obj}{es:Array (Int×Value)}{ep:Nat}{t:SetTable} (ho:s.heap.get? a=some o) (hex:o.ExactSet) (hd:o.data=.set es ep t)
  {es1:Array (Int×Value)}{t2:SetTable} (hel1:ElemsOf (PySem.strKind prog w) es1.toList) (hp1:(pJ es1).Perm ss) (hb1:es1.size<scanBound) (hf2:t2.fits es1.size=true) (hpl:t2.plain=false) (hled:t2.led = !w.params.followText "set-order") {wasDummy:Bool}{R:Option Bool->Shared->Prop}
  (h:∀h',Heap.SameBut a s.heap h'->fJ prog w h' a ss->R (some true) {s with heap:=h'}):
  wpAny (model prog w) A (do
    storeSet a es1 t2
    if(!wasDummy&&t2.tooFull)=true then do
      g (relayAll t2 es1 (SetTable.grown es1.size)).2.2
      storeSet a (relayAll t2 es1 (SetTable.grown es1.size)).1 (relayAll t2 es1 (SetTable.grown es1.size)).2.1
      pure (some true)
     else pure (some true)) R E s:=by
 refine za (wpAny_storeSet_of ho hd ?_ (fits_of_scanBound hb1));obtain⟨ho1,hS1⟩:=Hv (prog:=prog) (w:=w) ho hex hd hel1 hp1 hb1 hf2 hpl hled;have hsb1:=Heap.SameBut.update s.heap a (Obj.putSet es1 t2)
 split
 ·have hp:=relayAll_perm t2 es1 (SetTable.grown es1.size);have hfr:=relayAll_fits t2 es1 (SetTable.grown es1.size);have hpr:=Vv t2 es1 (SetTable.grown es1.size) hpl;have hlr:=Vw t2 es1 (SetTable.grown es1.size)
  generalize hRl:relayAll t2 es1 (SetTable.grown es1.size)=Rl at hp hfr hpr hlr ⊢
  obtain⟨es2,t3,gave2⟩:=Rl;dsimp only at hp hfr hpr hlr ⊢;have hel2:ElemsOf (PySem.strKind prog w) es2.toList:=hel1.perm hp
  have hsz:es2.size=es1.size:=by rw[<-Array.length_toList,hp.length_eq,Array.length_toList]
  have hb2:es2.size<scanBound:=by rw[hsz];exact hb1
  refine za (hg _ _ _ ?_);refine za (wpAny_storeSet_of ho1 rfl ?_ (fits_of_scanBound hb2));obtain⟨_,hS2⟩:=Hv (prog:=prog) (w:=w) ho1 hex rfl hel2 ((hp.map _).trans hp1) hb2 hfr hpr (hlr.trans hled);exact zc (h _ (hsb1.trans (Heap.SameBut.update _ a _)) hS2)
 ·exact zc (h _ hsb1 hS1)
theorem Vz{x:Str}{tk:Tok}{Q:Bool->Shared->Prop}(hS:fJ prog w s.heap a ss)(hroom:ss.length+1<scanBound)
  (h:∀h' b,Heap.SameBut a s.heap h'->fJ prog w h' a (kE ss x)->Q b {s with heap:=h'}):
  wpAny (model prog w) A (setAddHashed a (.str x tk) ((PySem.strKind prog w).hash x)) Q E s:=by
 obtain⟨o,es,ep,t,ho,hex,hd,hel,hp,hb,hf,hpl,hled⟩:=hS
 have hkey:(PySem.strKind prog w).is x (.str x tk)=true:=by
  show Value.isStrOf x (.str x tk)=true;simp[Value.isStrOf]
 have hlen:es.size=ss.length:=by rw[<-hp.length_eq];unfold pJ;rw[zj,Array.length_toList]
 have hb1:es.size+1<scanBound:=by rw[hlen];exact hroom
 have hsc:(Value.str x tk).scannable=true:=rfl
 have key:∀e∈es.toList,∀y,(PySem.strKind prog w).is y e.2=true↔strOf e.2=y:=λe he y=>by
  obtain⟨⟨k,hk,_⟩,_⟩:=hel e he;obtain⟨t',ht⟩:=Value.isStrOf_shape hk;rw[ht];show Value.isStrOf y (.str k t')=true↔k=y;simp[Value.isStrOf]
 unfold setAddHashed setAddHashedIn;refine zQ (za (wpAny_setState_of ho hd hf ?_));dsimp only;rw[byScan_of hsc hb hel];simp only[↓reduceIte];unfold setAddByScan;refine za ?_;refine za (zR ?_);refine za (wpAny_setScan_of hkey ho hd hf hel ?_)
 cases hr:List.findIdx? (λe=>(PySem.strKind prog w).is x e.2) es.toList with
 |some j =>
  dsimp only;obtain⟨hj,hpj,_⟩:=List.findIdx?_eq_some_iff_getElem.mp hr;have hx:x∈ss:=hp.mem_iff.mp (zX.mpr ⟨es.toList[j],jk hj,(key _ (jk hj) x).mp hpj⟩);refine zc (zc ?_)
  have e:s = {s with heap:=s.heap}:=by cases s;rfl
  rw[e];exact h s.heap _ (Heap.SameBut.refl a s.heap) ⟨o,es,ep,t,ho,hex,hd,hel,by rw[kE,if_pos hx];exact hp,hb,hf,hpl,hled⟩
 |none =>
  dsimp only
  have hx:x∉ss:=λhx=>by
   obtain⟨e,he,q⟩:=zX.mp (hp.mem_iff.mpr hx)
   have:=List.findIdx?_eq_none_iff.mp hr e he
   rw[(key e he x).mpr q] at this;exact Bool.noConfusion this
  have hgw:∀(b:Bool) {s₁:Shared}{Q':Unit->Shared->Prop},Q' () s₁->wpAny (model prog w) A (match b with | true=>rule "set.scan.the-table-gave-way" | false=>pure ()) Q' E s₁ :=
   λb s₁ Q' hq=>by cases b<;>first | exact zc hq | exact zR hq
  have hperm:=layNew_perm t es ((PySem.strKind prog w).hash x) (.str x tk);have hfits:=layNew_fits t es ((PySem.strKind prog w).hash x) (.str x tk);have hll:=Vy t es ((PySem.strKind prog w).hash x) (.str x tk)
  generalize hL:layNew t es ((PySem.strKind prog w).hash x) (.str x tk)=L at hperm hfits hll ⊢
  obtain⟨es1,t1,wasDummy,gave⟩:=L;dsimp only at hperm hfits hll ⊢;rw[Array.toList_push] at hperm;have hel1:ElemsOf (PySem.strKind prog w) es1.toList:=(hel.push hkey hsc).perm hperm
  have hp1:(pJ es1).Perm (kE ss x):=by
   rw[kE,if_neg hx];refine(hperm.map λe=>strOf e.2).trans ?_;rw[zN];exact hp.append_right _
  have hb1':es1.size<scanBound:=by rw[<-Array.length_toList,hperm.length_eq,zv,Array.length_toList];simpa using hb1
  refine za (hgw _ ?_)
  split
  ·refine za ?_;refine za (m:=hashByValue 8 (.str x tk)) (zc ?_);refine zc ?_;simp only[Bool.false_eq_true,↓reduceIte];refine Hw (t2:={t1 with plain:=false}) ?_ ho hex hd hel1 hp1 hb1' (SetTable.fits_plain_off hfits) rfl (hll.trans hled) ?_
   ·intro b s₁ Q' hq;cases b<;>first | exact zc hq | exact zR hq
   ·intro h' hsb hS';dsimp only;exact zc (h h' _ hsb hS')
  ·rename_i hnp;refine za (zc ?_);simp only[↓reduceIte];refine Hw ?_ ho hex hd hel1 hp1 hb1' hfits (by simpa using hnp) (hll.trans hled) ?_
   ·intro b s₁ Q' hq;cases b<;>first | exact zc hq | exact zR hq
   ·intro h' hsb hS';dsimp only;exact zc (h h' _ hsb hS')
theorem isS(x:Str)(t:Tok):(PySem.strKind prog w).is x (.str x t)=true:=by
 show Value.isStrOf x (.str x t)=true;simp[Value.isStrOf]
theorem map_getD(ns:List Str):(List.range' 0 ns.length).map (λi=>ns.getD i ⟨#[]⟩)=ns:=by
 apply List.ext_getElem
 ·simp
 ·intro i h1 h2;simp[zY,h2]
theorem VB{R:Result->Shared->Prop}{I:Addr}{fp wr:List Addr}{G:Array GenState->Array GenState->Prop}{n:Nat}{P:Nat->Value->Prop}{St:Nat->Shared->Prop}(W:WalksS prog w A.in1 I fp wr G n P St)(S:Addr)(hSf:S∉fp)
  (val:Nat->Str) (hval:∀i v,P i v->∃t,v=.str (val i) t) (hb:n+1<scanBound):
  ∀(k i:Nat) (s:Shared) (ss:List Str),n - i=k->i<=n->St i s->ss.length<=i->fJ prog w s.heap S ss ->
   (∀s',Moved (S::wr) G s s'->fJ prog w s'.heap S (((List.range' i (n - i)).map val).foldl kE ss)->R (.ok (.ret .none)) s') ->
   codeAny (model prog w) A (.builtin "set.update.loop" ⟨[.ref S,.ref I],[]⟩) R s:=by
 have hSw:S∉wr:=λh=>hSf (W.sub _ h)
 have hsub:∀b∈wr,b∈S::wr:=λb hb=>zD _ hb
 intro k
 induction k with
 |zero =>
  intro i s ss hk hi hst hle hS hR
  have hin:i=n:=by omega
  subst hin;refine js PyProof.Rows.F.entry_set_update_loop ?_;rw[Around.under_plainId PyProof.Rows.F.plain_set_update_loop _];show wpAny _ A.in1 (pyNext (.ref I) >>= _) _ _ s;refine za (W.done s _ _ hst λs' hm=>?_);show wpAny _ A.in1 (ret Value.none) _ _ s';refine zc (hR s' (hm.mono hsub) ?_);rw[Nat.sub_self]
  exact hS.at λo e=>hm.heap S _ hSw e
 |succ k ih =>
  intro i s ss hk hi hst hle hS hR
  have hlt:i<n:=by omega
  refine js PyProof.Rows.F.entry_set_update_loop ?_;rw[Around.under_plainId PyProof.Rows.F.plain_set_update_loop _];show wpAny _ A.in1 (pyNext (.ref I) >>= _) _ _ s;refine za (W.item i s _ _ hlt hst λv s' hP hst' hm=>?_);obtain⟨t,rfl⟩:=hval i v hP
  have hS':fJ prog w s'.heap S ss:=hS.at λo e=>hm.heap S _ hSw e
  show wpAny _ A.in1 (holding [Value.str (val i) t] (setAdd S (.str (val i) t)) >>= _) _ _ s';refine za (zQ ?_);unfold setAdd;refine zQ ?_;refine za ((PySem.strKind prog w).pyHash (k:=val i) (isS _ _) ?_)
  refine Vz (s:={s' with toks:=s'.toks+1}) hS' (by omega) λh' b hsb hS2=>?_
  refine zc ⟨plainId_quiet PyProof.Rows.F.plain_set_update_loop _,ih (i+1) _ (kE ss (val i)) (by omega) hlt (W.frame _ s' _ _ hst' (Nat.le_succ _) λb hb o e=>?_) ?_ hS2 λs'' hm'' hS''=>?_⟩
  ·rw[hsb.2 b (λh:b=S=>hSf (by rw[<-h];exact hb))];exact e
  ·unfold kE
   split
   ·omega
   ·rw[zv,jo];omega
  ·refine hR s'' (Moved.trans W.gtrans ((hm.mono hsub).then_heap (Nat.le_succ _) λb o hb e=>?_) hm'') ?_
   ·rw[hsb.2 b (λh:b=S=>hb (by rw[h];exact zr))];exact e
   ·rw[show n - i=(n - (i+1))+1 by omega,List.range'_succ,zh,List.foldl_cons];exact hS''
theorem VD(x:Value){Q₁:Value->Shared->Prop}
  (h:Q₁ (.ref s.heap.objs.size) {s with heap:=s.heap.push {cls:=.type "set",dict:=none,data:=.set #[] 0 (.fresh 0 0 (!w.params.followText "set-order"))}}):
  codeAny (model prog w) A (.call (.builtin "set.__new__") ⟨[.type "set",x],[]⟩) (wants Q₁ E) s:=by
 refine codeAny_of_tree ?_;show wpAny _ A.in1 (do checkBuiltinCall "set.__new__" ⟨[.type "set",x],[]⟩;again (.builtin "set.__new__" ⟨[.type "set",x],[]⟩)) _ _ s;refine za (jp (PySem.F.newCall_set_1 x) (zc ⟨plainId_quiet PySem.F.plain_set_new _,js PySem.F.entry_set_new ?_⟩));rw[Around.under_plainId PySem.F.plain_set_new _];unfold Builtin.«set.__new__» Builtin.Frozenset.newClass;have hsub:=sub_set_self;obtain⟨hp,g,d,tk,os⟩:=s;dsimp only
 wp_walk
 refine wpAny_askSetting (zc ?_);dsimp only;simp only[newObj];refine za (wpAny_alloc (zc ?_));exact zc h
theorem Hx{h:Heap}:fJ prog w (h.push {cls:=.type "set",dict:=none,data:=.set #[] 0 (.fresh 0 0 (!w.params.followText "set-order"))}) h.objs.size []:=
 ⟨_,#[],0,_,zB _ rfl,⟨rfl,rfl,rfl⟩,rfl,λe he=>by simp at he,.nil,by decide,by rfl,.inl rfl,rfl⟩
set_option maxHeartbeats 8000000 in
theorem Qsx{l:Addr}{items:Array Value}{ns:List Str}{Q:Value->Shared->Prop}
  (hh:A.handled=none) (hl:s.heap.IsList l items) (hi:StrsAre items.toList ns) (hb:items.size+1<scanBound)
  (h:∀(h':Heap) (tk:Nat),fJ prog w h' s.heap.objs.size (ns.foldl kE []) ->
   (∀b o,s.heap.get? b=some o->h'.get? b=some o)->Q (.ref s.heap.objs.size) {s with heap:=h',toks:=tk}):
  wpAny (model prog w) A (call (.type "set") [.ref l]) Q E s:=by
 obtain⟨c,tl,hmro⟩:=PySem.F.called_set.mro;have hmade:=PySem.F.called_set.made;have hsub:=PySem.F.called_set.sub;refine wpAny_call (codeAny_of_tree ?_);show wpAny _ _ (callAny (.type "set") _) _ _ _;refine zc ⟨Code.quiet_builtin _ (by decide +kernel),js PySem.F.entry_type_call ?_⟩;rw[Around.under_plain (weight_type_call_type "set" [.ref l] []) rfl];have h1:=PySem.F.called_set.notType;have h2:=PySem.F.called_set.canCreate;have hct:=PySem.F.typeCall_set_1 (.ref l)
 repeat (any_goals (first | assumption | wp_step))
 generalize hO:({cls:=.type "set",dict:=none,data:=.set #[] 0 (.fresh 0 0 (!w.params.followText "set-order"))}:Obj)=O0
 refine codeAny_mono (VD (.ref l) (E:=E) (Q₁:=λobj s₁=>obj=.ref s.heap.objs.size/\s₁ = {s with heap:=s.heap.push O0}) (by rw[hO];exact⟨rfl,rfl⟩)) λr s₁ hr=>?_
 cases r with
 |error e=>exact hr
 |ok fl =>
  cases fl with
  |ret obj =>
   obtain⟨rfl,rfl⟩:=hr
   have hfr:fJ prog w (s.heap.push O0) s.heap.objs.size []:=by rw[<-hO];exact Hx
   have hS:(s.heap.push O0).get? s.heap.objs.size=some O0:=by rw[<-hO];exact zB _ rfl
   have hcls:O0.cls=.type "set":=by rw[<-hO]
   have hdat:O0.data=.set #[] 0 (.fresh 0 0 (!w.params.followText "set-order")):=by rw[<-hO]
   have hT:Shared.TypeIs {s with heap:=s.heap.push O0} (.ref s.heap.objs.size) "set":=⟨_,hS,hcls⟩;have hli:=PySem.F.called_set.init.lookup;have hbi:=PySem.F.called_set.init.bind (.ref s.heap.objs.size)
   repeat (any_goals (first | assumption | wp_step))
   refine codeAny_mono (codeAny_call_builtin (R:=wants (λr s₂=>r=.none/\∃h' tk,s₂ = {s with heap:=h',toks:=tk} /\
     fJ prog w h' s.heap.objs.size (ns.foldl kE []) /\
     (∀b o,s.heap.get? b=some o->h'.get? b=some o)) E) PySem.F.called_set.init.plain PySem.F.entry_set_init (check_set_init_1 hT ?_)) λr₂ s₂ hr₂=>?_
   ·subst hO;obtain⟨ol,hol,hcl,nl,hdl⟩:=hl;obtain⟨ocls,odict,odata,oslots⟩:=ol;simp only at hcl hdl;subst hcl;subst hdl;have hol':(s.heap.push {cls:=.type "set",dict:=none,data:=.set #[] 0 (.fresh 0 0 (!w.params.followText "set-order"))}).get? l=some {cls:=.type "list",dict:=odict,data:=.seq items nl,slots:=oslots}:=zn _ hol;have hsls:=PySem.F.sub_list_set;have hslf:=PySem.F.sub_list_frozenset
    have hne:(Value.type "list" == Value.type "dict")=false:=by decide
    have hl1:(s.heap.push {cls:=.type "set",dict:=none,data:=.set #[] 0 (.fresh 0 0 (!w.params.followText "set-order"))}).IsList l items:=⟨_,hol',rfl,nl,rfl⟩;unfold Builtin.«set.__init__» noKeywords Builtin.Frozenset.updateFrom
    generalize hPI:pyIter=PI
    wp_walk
    subst hPI;refine wpAny_pyIter_list hl1 ?_;refine za (wpAny_runValue ?_);have hlS:l<s.heap.objs.size:=zo hol
    have hh3:A.in1.in1.in1.handled=none:=by simp[hh]
    have hneI:l≠(s.heap.push {cls:=.type "set",dict:=none,data:=.set #[] 0 (.fresh 0 0 (!w.params.followText "set-order"))}).objs.size:=by
     rw[Heap.size_push];exact zC (jt hlS)
    have hSf:s.heap.objs.size∉[(s.heap.push {cls:=.type "set",dict:=none,data:=.set #[] 0 (.fresh 0 0 (!w.params.followText "set-order"))}).objs.size,l]:=by
     rw[Heap.size_push];simp only[zF,zz,List.not_mem_nil,or_false,not_or];exact⟨zC (jr _),Nat.ne_of_gt hlS⟩
    have hnl:ns.length=items.size:=by rw[<-hi.strs,zj,Array.length_toList]
    have hval:∀(i:Nat) (v:Value),items[i]?=some v->∃t,v=.str ((λi=>ns.getD i ⟨#[]⟩) i) t:=λi v hv=>by
     have hv':items.toList[i]?=some v:=by rw[Array.getElem?_toList];exact hv
     obtain⟨x,t,rfl⟩:=hi.all v (zO hv');refine⟨t,?_⟩
     have hm:(items.toList.map strOf)[i]?=some x:=by rw[zy,hv'];rfl
     rw[hi.strs] at hm;show Value.str x t=Value.str (ns.getD i ⟨#[]⟩) t;rw[zY,hm];rfl
    refine VB ((Walks.list hh3 _ l hneI items).toS) s.heap.objs.size
     hSf (λi=>ns.getD i ⟨#[]⟩) hval hb (items.size - 0) 0 _ [] (by omega) (Nat.zero_le _)
     ⟨⟨_,zB _ rfl,rfl,rfl⟩,(hl1.push _)⟩ (zd _) (Hx.at λo e=>zn _ e) ?hR
    intro s' hm hS';rw[Nat.sub_zero,<-hnl] at hS';rw[map_getD] at hS';obtain⟨h',g',d',tk',os'⟩:=s';have eg:g'=s.gens:=hm.gens;have ed:d'=s.drawn:=hm.drawn;have eo:os'=s.os:=hm.os;subst eg;subst ed;subst eo;show wpAny _ _ _ _ _ _;refine zc ?_;show wpAny _ _ (ret Value.none) _ _ _;refine zc ⟨rfl,h',tk',rfl,hS',λb o e=>?_⟩;have hb':=zo e;have hb1:b≠s.heap.objs.size:=zC hb'
    have hb2:b≠(s.heap.push {cls:=.type "set",dict:=none,data:=.set #[] 0 (.fresh 0 0 (!w.params.followText "set-order"))}).objs.size:=by
     rw[Heap.size_push];exact zC (jt hb')
    exact hm.heap b o (by simp only[zF,zz,List.not_mem_nil,or_false,not_or];exact⟨hb1,hb2⟩) (zn _ (zn _ e))
   ·cases r₂ with
    |error e=>exact hr₂
    |ok fl₂ =>
     cases fl₂ with
     |ret r =>
      obtain⟨rfl,h',tk,rfl,hS',hk'⟩:=hr₂
      repeat (any_goals (first | assumption | wp_step))
      exact h _ _ hS' hk'
     | _=>exact hr₂.elim
  | _=>exact hr.elim
end
def ItS(h:Heap)(I a:Addr)(first:Value)(i n ep:Nat):Prop:=∃o,h.get? I=some o/\o.cls=.type "set_iterator"/\o.data=.fields #[first,.int i 0,.ref a,.int n 0,.int ep 0]
section
variable {prog:Program}{w:World}{A:Around}{E:Value->Shared->Prop}{s:Shared}{a:Addr}{ss:List Str}{o:Obj}{es:Array (Int×Value)}{ep:Nat}{t:SetTable}
theorem ItS.typeIs{I:Addr}{first:Value}{i n:Nat}(h:ItS s.heap I a first i n ep):s.TypeIs (.ref I) "set_iterator":=let ⟨o,h1,h2,_⟩:=h;⟨o,h1,h2⟩
end
section
variable {prog:Program}{w:World}{A:Around}{E:Value->Shared->Prop}{s:Shared}{a:Addr}{ss:List Str}{o:Obj}{es:Array (Int×Value)}{ep:Nat}{t:SetTable}
theorem ItS.at{h h':Heap}{I:Addr}{first:Value}{i n:Nat}(x:ItS h I a first i n ep)(e:∀o,h.get? I=some o->h'.get? I=some o):ItS h' I a first i n ep:=let ⟨o,ho,r⟩:=x;⟨o,e _ ho,r⟩
theorem uC.at{h h':Heap}(x:uC prog w h a ss o es ep t)(e:∀o,h.get? a=some o->h'.get? a=some o):uC prog w h' a ss o es ep t:=⟨e _ x.1,x.2⟩
end
section
variable {X:Cx}
variable {md:List Md}{P:Pt}
end
structure Qzb(mg:Str->Option Value):Prop extends Hq mg where
 set_:mg "set" = none
section
variable {prog:Program}{w:World}{A:Around}{E:Value->Shared->Prop}{s:Shared}{K:Frag}{H F:Hp}{as:List Addr}
end
section
variable {X:Cx}
end
end L2
namespace L2
open PySem PySem.Spec PyProof.Rows
section
variable {X:Cx}{md:List Md}{P:Pt}{R:RR}
end
section
variable {X:Cx}{md:List Md}{P:Pt}
variable {tg iter elt:Expr}{ifs:List Expr}{scope:Scope}{pos:Pos}{mi:M D}{g:MG}{t:M Bool}{e:M D}
end
end L2
namespace L2
open PySem PySem.Spec PyProof.Rows PySem.W
def CXE(Pr:Program)(w:World):CXT:=λouter H s E e s'=>∃(ea C:Addr) (H':Hp) (B:Heap) (a0:Value),e=.ref ea/\s'.os=s.os/\AllBare s'.gens/\Un (frs outer) [] H H' s.heap s'.heap/\HOk Pr w H' s'.heap /\
 Heap.FlyingW B outer ea (.ref C) a0 s'.heap/\(∀b u,H' b=some u->∃o,B.get? b=some o)/\(∀b o,s.heap.get? b=some o->b∉frs outer->∃o',B.get? b=some o')/\E (.ref C) none H'
section
variable {X:Cx}{md:List Md}{P:Pt}{R:RR}
def yr(K:Frag)(mg:Str->Option Value)(md:List Md)(P:Pt)(R:RR)(W:Xc->Hp->Prop)(D:Ends)(H F:Hp)(as:List Addr):Fl->Prop
 | .ex x O'=>∀H' F' as',GrS P H F as H' F' as'->RlO K mg O' H' F' as'->W x H'
 |f=>gf K mg md P R D H F as f
theorem yr.gr{K:Frag}{mg:Str->Option Value}{W:Xc->Hp->Prop}{D:Ends}{H F H' F':Hp}{as as':List Addr}{f:Fl}(g:GrS P H F as H' F' as')(h:yr K mg md P R W D H F as f):yr K mg md P R W D H' F' as' f:=by
 cases f with
 |ex x O'=>exact λH2 F2 as2 g2 r2=>h H2 F2 as2 (g.trans g2) r2
 |nx ρ' O'=>exact λσ' H2 F2 as2 g2 r2 s2=>h σ' H2 F2 as2 (g.trans g2) r2 s2
 |bk ρ' O'=>exact λσ' H2 F2 as2 g2 r2 s2=>h σ' H2 F2 as2 (g.trans g2) r2 s2
 |ct ρ' O'=>exact λσ' H2 F2 as2 g2 r2 s2=>h σ' H2 F2 as2 (g.trans g2) r2 s2
 |rt d O'=>exact λv H2 F2 as2 g2 r2 s2=>h v H2 F2 as2 (g.trans g2) r2 s2
 |no=>exact h
end
def bmV:List Value:=[.type "ValueError",.type "Exception",.type "BaseException",.type "object"]
section
variable {X:Cx}{md:List Md}{P:Pt}{R:RR}
end
theorem bU.has{P:Program}{w:World}{H:Hp}{h:Heap}{a:Addr}{o:HO}(x:bU P w H h a o):∃u,h.get? a=some u:=by
 cases o with
 |lst xs=>exact let ⟨_,_,_,_,e⟩:=x;⟨_,e⟩
 |tup xs=>exact let ⟨_,_,_,_,e,_⟩:=x;⟨_,e⟩
 |dK kvs=>exact let ⟨_,_,_,_,_,_,_,e,_⟩:=x;⟨_,e⟩
 |dT kvs=>exact let ⟨_,_,_,_,_,_,_,e,_⟩:=x;⟨_,e⟩
 |set S n=>exact let ⟨_,_,_,_,e,_⟩:=x;⟨_,e⟩
 |ins C dx fs=>exact let ⟨_,_,_,e,_⟩:=x;⟨_,e⟩
 |own y=>exact let ⟨_,e⟩:=x;⟨_,e⟩
 |xd fs=>exact let ⟨_,⟨_,_,_,e,_⟩,_⟩:=x;⟨_,e⟩
 |rng lo hi=>exact let ⟨_,_,_,e⟩:=x;⟨_,e⟩
 |frz ob u=>exact⟨_,x.1⟩
 |tbl ps=>exact⟨_,x⟩
 |met f y=>exact⟨_,x⟩
 |ext φ=>exact x.2.1
theorem HOk.only{P:Program}{w:World}{H:Hp}{h h':Heap}(x:HOk P w H h)(k:∀b v u,H b=some v->h.get? b=some u->h'.get? b=some u):HOk P w H h':=λa o e =>
 (x a o e).stay (λb u hb q=>by
  rcases hb with rfl | hb
  ·exact k _ _ u e q
  ·exact k b _ u hb q) (λ_ q=>q) λ_ _ q=>q
theorem Un.then{fs:List Addr}{H0 H:Hp}{h0 h1 h2:Heap}(u:Un fs [] H0 H h0 h1)(st:∀b o,h1.get? b=some o->b∉fs->(∃o',h0.get? b=some o')->h2.get? b=some o)
  (fr:∀b o,h1.get? b=some o->b∈fs->∃sl,h2.get? b=some {o with slots:=sl}):Un fs [] H0 H h0 h2 where
 keep:=λb o q n nf nx=>st b o (u.keep b o q n nf nx) nf ⟨o,q⟩
 slot:=λb o q n hb nx=>by
  obtain⟨sl,e⟩:=u.slot b o q n hb nx;obtain⟨sl2,e2⟩:=fr b _ e hb;exact⟨sl2,e2⟩
 free:=u.free
 there:=λb o q nx=>by
  obtain⟨o',e⟩:=u.there b o q nx
  by_cases hb:b∈fs
  ·obtain⟨sl,e2⟩:=fr b o' e hb;exact⟨_,e2⟩
  ·exact⟨o',st b o' e hb ⟨o,q⟩⟩
 tups:=u.tups
 frzs:=u.frzs
 tbls:=u.tbls
def Hy(P:Program)(w:World)(K:Frag)(mg:Str->Option Value)(base:Heap)(x:Str)(ps:List Str)(k:Nat)(sp:Sp):Prop :=
 ∃f fd,mg x=some (.ref f)/\keepIn K (.ref f)=true/\Binds K fd ps []/\cA P w K mg base (CXE P w) k f fd ps sp/\∃oc od osl,K.lookup f=some ⟨oc,od,.func fd,osl⟩
def VF(K:Frag)(mg:Str->Option Value)(R:RR)(H F:Hp)(as:List Addr)(Q:VK)(E:XK):Res D->Prop
 | .ok d O'=>∀v H' F' as',Gr H F as H' F' as'->RlO K mg O' H' F' as'->R (λa=>H a=none) H' F' as' v d->Q v H'
 | .ex x O'=>∀C H' F' as',mg x.cls=some (.ref C)->Gr H F as H' F' as'->RlO K mg O' H' F' as'->E (.ref C) none H'
 | .no=>False
def uD(K:Frag)(mg:Str->Option Value)(pm:List Md)(R:RR)(c:List D->aj->Res D):Sp:=λvs H Q E =>
 ∃ds O F as,RlO K mg O H F as/\cQ K H F as pm vs ds/\VF K mg R H F as Q E (c ds O)
section
variable {Pr:Program}{w:World}{K:Frag}{mg:Str->Option Value}{base:Heap}
theorem Hy.can{x:Str}{ps:List Str}{k:Nat}{pm:List Md}{R:RR}{c:List D->aj->Res D}(C:Hy Pr w K mg base x ps k (uD K mg pm R c))(hl:pm.length=ps.length:=by rfl):Can Pr w K mg base x ps k (vSp K mg pm R c):=by
 obtain⟨f,fd,hm,hk,hb,Fn,lk⟩:=C;refine⟨f,fd,hm,hk,hb,⟨λvs H Q E h=>?_,λA outer s H args us vs Q E hr e0 hbi r h=>?_⟩,lk⟩
 ·obtain⟨ds,O,F,as,d,O',r,a,_⟩:=h;rw[a.len.1,hl]
 ·obtain⟨ds,O,F,as,d,O',ro,a,e,q⟩:=h
  have z:uD K mg pm R c vs H Q λ_ _ _=>False:=⟨ds,O,F,as,ro,a,by rw[e];exact q⟩
  refine codeAny_mono (Fn.run A outer s H args us vs Q _ hr e0 hbi r z) λres s' hq=>?_
  cases res with
  |error ev =>
   obtain⟨_,_,_,_,_,_,_,_,_,_,_,_,_,f0⟩:=hq;exact f0.elim
  |ok fl=>cases fl<;>exact hq
end
section
variable {X:Cx}{pins:List (Addr×Obj)}{σ:St}{H:Hp}{s:Shared}{ea:Addr}{oe:Obj}
theorem Inv.gone{h':Heap}{m':Str->Option Value}{t':Nat}(I:Inv X pins σ H s)(hn:h'.Ns X.env.locals m')(hs:Heap.SameBut X.env.locals s.heap h'):Inv X pins (List.replicate X.N.length none) H {s with heap:=h',toks:=t'}:=by
 have ne:∀b o,X.s₀.heap.get? b=some o->b≠X.env.locals:=λb o e=>zC (zL (zo e) I.ok.above)
 refine⟨I.ok,I.os,I.bare,⟨λb o e n hb hx=>(hs.2 b (ne b o e)).trans (I.base.keep b o e n hb hx),λb o e n hb hx=>?_,I.base.free,λb o e hx=>?_,I.base.tups,I.base.frzs,I.base.tbls⟩,⟨m',hn,λi x v _ e2 _=>?_⟩,λy c e=>?_,I.free,I.freeC,λp hp=>?_,I.hok.only λb v u e q=>(hs.2 b λz=>?_).trans q,List.length_replicate⟩
 ·obtain⟨sl,e1⟩:=I.base.slot b o e n hb hx;exact⟨sl,(hs.2 b (ne b o e)).trans e1⟩
 ·obtain⟨o',e1⟩:=I.base.there b o e hx;exact⟨o',(hs.2 b (ne b o e)).trans e1⟩
 ·rw[List.getElem?_replicate] at e2
  split at e2<;>cases e2
 ·obtain⟨v,z⟩:=I.cell y c e;exact⟨v,z.sameBut hs (I.cne y c e)⟩
 ·obtain⟨e,n,nl,nf,d⟩:=I.pin p hp;exact⟨(hs.2 p.1 nl).trans e,n,nl,nf,d⟩
 ·rw[z,I.free] at e;cases e
end
end L2
namespace L2
open PySem PySem.Spec PyProof.Rows PySem.W PySem.Calls PySem.Builtin PySem.Builtin.ObjectAttr PySem.Builtin.Getset_descriptor
section
variable {prog:Program}{w:World}{A:Around}{E:Value->Shared->Prop}{K:Frag}{a C:Addr}{o:Obj}{h:Heap}{g:Array GenState}{d:Drawn}{t:Nat}{os:OsState}
structure yt(K:Frag)(C:Addr):Prop where
 ga:findIn K (.ref C) "__getattribute__" = some (some (.builtin "BaseException.__getattribute__"))
 na:findIn K (.ref C) "__getattr__" = some none
 ca:findIn K (.ref C) "__class__" = some (some (.builtin "object.__class__"))
 sp:specialIn K (.builtin "object.__class__") "__get__" = some (some (.builtin "getset_descriptor.__get__"))
 tk:takesIn K (.builtin "object.__class__")=some true
 ob:mroIn K C (.type "object")=some true
 be:mroIn K C (.type "BaseException")=some true
 cl:(clsIn K C).isSome=true
end
end L2
namespace L2
open PySem PySem.Spec PyProof.Rows PySem.W
section
variable {X:Cx}{ea C:Addr}{oe:Obj}
end
section
variable {X:Cx}{md:List Md}{P:Pt}{R:RR}
end
section
variable {X:Cx}{ea C:Addr}{oe:Obj}{i:Nat}{b:Bool}{n:Str}{p p1 pos:Pos}
end
end L2
namespace L2
open PySem PySem.Spec PyProof.Rows
section
variable {X:Cx}
variable {md:List Md}{P:Pt}
end
end L2
namespace L2
open PySem PySem.Spec PyProof.Rows PySem.W
section
variable {prog:Program}{w:World}{A:Around}{E:Value->Shared->Prop}
end
section
variable {X:Cx}{md:List Md}{P:Pt}{R:RR}
end
def qY(mg:Str->Option Value):List Str->List Addr->Prop
 | [],as=>as=[]
 |n::ns,as=>∃a r,as=a::r/\mg n=some (.ref a)/\qY mg ns r
theorem qY.len{mg:Str->Option Value}:∀{ns:List Str}{as:List Addr},qY mg ns as->as.length=ns.length
 | [],as,h=>by
  have h':as=[]:=h;rw[h'];rfl
 |n::ns,as,h=>by
  obtain⟨a,r,rfl,_,h2⟩:=h;rw[zI,h2.len,zI]
section
variable {X:Cx}{md:List Md}{P:Pt}{R:RR}
end
section
variable {X:Cx}{pins:List (Addr×Obj)}{σ:St}{H:Hp}{s:Shared}{ea:Addr}{oe:Obj}
end
section
variable {X:Cx}{md:List Md}{P:Pt}{R:RR}
theorem SlO.drop{K:Frag}{ρ:aA}{σ:St}{H F:Hp}{as:List Addr}{i:Nat}{x:Option V}(s:SlO K md P ρ σ H F as)(hm:md[i]?=some .v):SlO K md P (ρ.set i none) (σ.set i x) H F as:=by
 have hi:i<ρ.length:=by rw[s.len'];exact(zl.mp hm).1
 have ne:∀(j:Nat) (d:D),(ρ.set i none)[j]?=some (some d)->j≠i/\ρ[j]?=some (some d):=λj d e=>by
  by_cases hj:j=i
  ·subst hj;rw[zS hi] at e;cases e
  ·rw[zm (Ne.symm hj)] at e;exact⟨hj,e⟩
 refine⟨by rw[jh];exact s.len,by rw[jh];exact s.len',s.pd,λj m d e1 e2=>?_,λj k a ds es h1 h2 h3 h4 h5 h6=>?_,λy hy=>?_⟩
 ·obtain⟨hj,e2⟩:=ne j d e2;rw[zm (Ne.symm hj)];exact s.sl j m d e1 e2
 ·obtain⟨hj,h3⟩:=ne j _ h3;obtain⟨hk,h4⟩:=ne k _ h4;rw[zm (Ne.symm hj)] at h5;rw[zm (Ne.symm hk)] at h6;exact s.inj j k a ds es h1 h2 h3 h4 h5 h6
 ·obtain⟨p1,p2,p3⟩:=s.pin y hy
  have hne:i≠y.1:=λz=>by rw[<-z,hm] at p1;cases p1
  rw[zm hne,zm hne];exact⟨p1,p2,p3⟩
end
section
variable {X:Cx}{ea C:Addr}{oe:Obj}{i ja jb:Nat}{b:Bool}{n na nb w1 w2:Str}{p p1 pos:Pos}
end
section
variable {X:Cx}{md:List Md}{P:Pt}{R:RR}
end
def DK(h h':Heap):Prop:=∀b o,h.get? b=some o->∃o',h'.get? b=some o'/\o'.dict=o.dict
theorem DK.refl(h:Heap):DK h h:=λ_ o e=>⟨o,e,rfl⟩
theorem DK.trans{h h' h2:Heap}(x:DK h h')(y:DK h' h2):DK h h2:=λb o e=>by
 obtain⟨o1,e1,q1⟩:=x b o e;obtain⟨o2,e2,q2⟩:=y b o1 e1;exact⟨o2,e2,q2.trans q1⟩
theorem DK.upd{h:Heap}{a:Addr}{f:Obj->Obj}(hf:∀o,o.isFreed=false->(f o).isFreed=false/\(f o).dict=o.dict):DK h (h.update a f):=λb o e=>by
 by_cases z:a=b
 ·subst z;have hz:=(Heap.get?_some_iff.mp e).2;exact⟨f o,Heap.get?_update_self f e (hf o hz).1,(hf o hz).2⟩
 ·exact⟨o,(jw h f z).trans e,rfl⟩
section
variable {X:Cx}{md:List Md}{P:Pt}{R:RR}
end
section
variable {X:Cx}{md:List Md}{P:Pt}{R:RR}
end
section
variable {Pr:Program}{w:World}{K:Frag}{mg:Str->Option Value}{base:Heap}
def Hz(P:Program)(w:World)(K:Frag)(mg:Str->Option Value)(base:Heap)(c m:Str)(ps:List Str)(k:Nat)(sp:Sp):Prop :=
 ∃C f fd,mg c=some (.ref C)/\Cls K C/\mO K C m f/\Binds K fd ps []/\cA P w K mg base (CXE P w) k f fd ps sp
theorem Hz.can{c x:Str}{ps:List Str}{k:Nat}{pm:List Md}{R:RR}{cf:List D->aj->Res D}(C:Hz Pr w K mg base c x ps k (uD K mg pm R cf))(hl:pm.length=ps.length:=by rfl):ie Pr w K mg base c x ps k (vSp K mg pm R cf):=by
 obtain⟨C,f,fd,h1,h2,h3,hb,Fn⟩:=C;refine⟨C,f,fd,h1,h2,h3,hb,⟨λvs H Q E h=>?_,λA outer s H args us vs Q E hr e0 hbi r h=>?_⟩⟩
 ·obtain⟨ds,O,F,as,d,O',r,a,_⟩:=h;rw[a.len.1,hl]
 ·obtain⟨ds,O,F,as,d,O',ro,a,e,q⟩:=h
  have z:uD K mg pm R cf vs H Q λ_ _ _=>False:=⟨ds,O,F,as,ro,a,by rw[e];exact q⟩
  refine codeAny_mono (Fn.run A outer s H args us vs Q _ hr e0 hbi r z) λres s' hq=>?_
  cases res with
  |error ev =>
   obtain⟨_,_,_,_,_,_,_,_,_,_,_,_,_,f0⟩:=hq;exact f0.elim
  |ok fl=>cases fl<;>exact hq
end
section
variable {X:Cx}{md:List Md}{P:Pt}{R:RR}
end
section
variable {X:Cx}{md:List Md}{P:Pt}{R:RR}{k:Nat}{c m:Str}{ps:List Str}{p pos apos:Pos}{o e:Expr}{es:List Expr}{pm:List Md}{cf:List D->aj->Res D}{mo:M D}{ma:M (List D)}
end
def CXF(Pr:Program)(w:World):CXT:=λouter H s E e s'=>∃(ea C:Addr) (H':Hp) (B:Heap) (a0:Value) (dxo:Option Addr),e=.ref ea/\s'.os=s.os/\AllBare s'.gens/\Un (frs outer) [] H H' s.heap s'.heap/\HOk Pr w H' s'.heap /\
 Heap.FlyingW B outer ea (.ref C) a0 s'.heap/\(∀b u,H' b=some u->∃o,B.get? b=some o)/\(∀b o,s.heap.get? b=some o->b∉frs outer->∃o',B.get? b=some o')/\(∃oe,s'.heap.get? ea=some oe/\oe.dict=dxo)/\E (.ref C) dxo H'
section
variable {X:Cx}{md:List Md}{P:Pt}{R:RR}
abbrev WX:=Xc->Option Addr->Hp->Prop
def yu(K:Frag)(mg:Str->Option Value)(md:List Md)(P:Pt)(R:RR)(W:WX)(D:Ends)(H F:Hp)(as:List Addr):Fl->Prop
 | .ex x O'=>∀dxo H' F' as',GrS P H F as H' F' as'->RlO K mg O' H' F' as'->XF K F' as' dxo x.fs->W x dxo H'
 |f=>gf K mg md P R D H F as f
theorem yu.gr{K:Frag}{mg:Str->Option Value}{W:WX}{D:Ends}{H F H' F':Hp}{as as':List Addr}{f:Fl}(g:GrS P H F as H' F' as')(h:yu K mg md P R W D H F as f):yu K mg md P R W D H' F' as' f:=by
 cases f with
 |ex x O'=>exact λd H2 F2 as2 g2 r2=>h d H2 F2 as2 (g.trans g2) r2
 |nx ρ' O'=>exact λσ' H2 F2 as2 g2 r2 s2=>h σ' H2 F2 as2 (g.trans g2) r2 s2
 |bk ρ' O'=>exact λσ' H2 F2 as2 g2 r2 s2=>h σ' H2 F2 as2 (g.trans g2) r2 s2
 |ct ρ' O'=>exact λσ' H2 F2 as2 g2 r2 s2=>h σ' H2 F2 as2 (g.trans g2) r2 s2
 |rt d O'=>exact λv H2 F2 as2 g2 r2 s2=>h v H2 F2 as2 (g.trans g2) r2 s2
 |no=>exact h
end
section
variable {Pr:Program}{w:World}{K:Frag}{mg:Str->Option Value}{base:Heap}{N:List Str}{qual:Str}{scope:Scope}{f:Addr}{cd:Value}{A:Around}{outer:List Env}{s0:Shared}{H0:Hp}{E E':XK}{pins:List (Addr×Obj)}{σ:St}{H:Hp}{s s':Shared}
end
def HB(P:Program)(w:World)(K:Frag)(mg:Str->Option Value)(base:Heap)(x:Str)(ps:List Str)(k:Nat)(sp:Sp):Prop :=
 ∃f fd,mg x=some (.ref f)/\keepIn K (.ref f)=true/\Binds K fd ps []/\cA P w K mg base (CXF P w) k f fd ps sp/\∃oc od osl,K.lookup f=some ⟨oc,od,.func fd,osl⟩
def HD(P:Program)(w:World)(K:Frag)(mg:Str->Option Value)(base:Heap)(c m:Str)(ps:List Str)(k:Nat)(sp:Sp):Prop :=
 ∃C f fd,mg c=some (.ref C)/\Cls K C/\mO K C m f/\Binds K fd ps []/\cA P w K mg base (CXF P w) k f fd ps sp
def VH(K:Frag)(mg:Str->Option Value)(R:RR)(H F:Hp)(as:List Addr)(Q:VK)(E:XK):Res D->Prop
 | .ok d O'=>∀v H' F' as',Gr H F as H' F' as'->RlO K mg O' H' F' as'->R (λa=>H a=none) H' F' as' v d->Q v H'
 | .ex x O'=>∀C dxo H' F' as',mg x.cls=some (.ref C)->Gr H F as H' F' as'->RlO K mg O' H' F' as'->XF K F' as' dxo x.fs->E (.ref C) dxo H'
 | .no=>False
def qZ(K:Frag)(mg:Str->Option Value)(pm:List Md)(R:RR)(c:List D->aj->Res D):Sp:=λvs H Q E =>
 ∃ds O F as,RlO K mg O H F as/\cQ K H F as pm vs ds/\VH K mg R H F as Q E (c ds O)
section
variable {Pr:Program}{w:World}{K:Frag}{mg:Str->Option Value}{base:Heap}
theorem yw{f:Addr}{fd:FuncData}{ps:List Str}{k:Nat}{pm:List Md}{R:RR}{c:List D->aj->Res D}(Fn:cA Pr w K mg base (CXF Pr w) k f fd ps (qZ K mg pm R c))(hl:pm.length=ps.length){CX:CXT}:cA Pr w K mg base CX k f fd ps (vSp K mg pm R c):=by
 refine⟨λvs H Q E h=>?_,λA outer s H args us vs Q E hr e0 hbi r h=>?_⟩
 ·obtain⟨ds,O,F,as,d,O',r,a,_⟩:=h;rw[a.len.1,hl]
 ·obtain⟨ds,O,F,as,d,O',ro,a,e,q⟩:=h
  have z:qZ K mg pm R c vs H Q λ_ _ _=>False:=⟨ds,O,F,as,ro,a,by rw[e];exact q⟩
  refine codeAny_mono (Fn.run A outer s H args us vs Q _ hr e0 hbi r z) λres s' hq=>?_
  cases res with
  |error ev =>
   obtain⟨_,_,_,_,_,_,_,_,_,_,_,_,_,_,_,f0⟩:=hq;exact f0.elim
  |ok fl=>cases fl<;>exact hq
theorem HB.can{x:Str}{ps:List Str}{k:Nat}{pm:List Md}{R:RR}{c:List D->aj->Res D}(C:HB Pr w K mg base x ps k (qZ K mg pm R c))(hl:pm.length=ps.length:=by rfl):Can Pr w K mg base x ps k (vSp K mg pm R c):=by
 obtain⟨f,fd,hm,hk,hb,Fn,lk⟩:=C;exact⟨f,fd,hm,hk,hb,yw Fn hl,lk⟩
theorem HD.can{c x:Str}{ps:List Str}{k:Nat}{pm:List Md}{R:RR}{cf:List D->aj->Res D}(C:HD Pr w K mg base c x ps k (qZ K mg pm R cf))(hl:pm.length=ps.length:=by rfl):ie Pr w K mg base c x ps k (vSp K mg pm R cf):=by
 obtain⟨C,f,fd,h1,h2,h3,hb,Fn⟩:=C;exact⟨C,f,fd,h1,h2,h3,hb,yw Fn hl⟩
end
section
variable {X:Cx}{md:List Md}{P:Pt}{R:RR}
end
section
variable {X:Cx}{md:List Md}{P:Pt}{R:RR}{k:Nat}{c m:Str}{ps:List Str}{p pos apos:Pos}{o e:Expr}{es:List Expr}{pm:List Md}{cf:List D->aj->Res D}{mo:M D}{ma:M (List D)}
end
section
variable {X:Cx}{md:List Md}{P:Pt}{R:RR}
end
end L2
namespace L2
open PySem PySem.Spec PyProof.Rows PySem.W PySem.Builtin PySem.Builtin.ObjectAttr
def yx(K:Frag)(C:Addr)(bmB:List Value)(newId:String)(fI:Addr):Bool:=match K.lookup C with
 |some ⟨.type "type",_,.cls cd,sl⟩=>(match cd.mro,sl.toList with
  | .ref C'::bm,[_,_,_,_,some (.builtin n),_]=>C' == C&&n == newId && !cd.hasDel&&tailIn K bmB bm&&nsOkIn K cd.ns&&nsIn K cd.ns "__init__" == some (some (.ref fI))&&cd.hasDict
  | _,_=>false)
 | _=>false
theorem VJ{K:Frag}{C fI:Addr}{id:String}(hq:yx K C bmV id fI=true):
  ∃bm N nm qn bs sn sub ab col dd k0 k1 k2 k3 k5,K.lookup C=some (excClassObj nm qn C N bs bm true sn sub ab col dd k0 k1 k2 k3 k5 id)/\tailIn K bmV bm=true/\nsOkIn K N=true/\nsIn K N "__init__" = some (some (.ref fI)):=by
 unfold yx at hq;split at hq
 case h_2=>cases hq
 case h_1 dd cd sl lk =>
  split at hq
  case h_2=>cases hq
  case h_1 C1 bm k0 k1 k2 k3 nn k5 e1 e2 =>
   rw[zw,zw,zw,zw,zw,zw] at hq;obtain⟨⟨⟨⟨⟨⟨p1,p2⟩,p3⟩,p4⟩,p5⟩,p6⟩,p7⟩:=hq;have q1:C1=C:=beq_iff_eq.mp p1;have q2:nn=id:=beq_iff_eq.mp p2;subst q1;subst q2
   rcases cd with⟨nm,bs,mro,ns,qn,hd,sn,sub,ab,col,del⟩
   have e1':mro=.ref C1::bm:=e1
   have p3':del=false:=by
    have z:(!del)=true:=p3
    cases del with
    |false=>rfl
    |true=>cases z
   have p7':hd=true:=p7;subst e1';subst p3';subst p7'
   rcases sl with⟨ls⟩
   have e2':ls=[k0,k1,k2,k3,some (.builtin nn),k5]:=e2;subst e2';exact⟨bm,ns,nm,qn,bs,sn,sub,ab,col,dd,k0,k1,k2,k3,k5,lk,p4,p5,beq_iff_eq.mp p6⟩
theorem HF{K:Frag}(self:Value):∀{l:List Value},tailIn K bmV l=true->refuseLoop self "__setattr__" l=pure ()
 | [],e=>by rw[show([]:List Value)=bmV from(beq_iff_eq.mp e).symm];exact PySem.F.store_ValueError.passes self
 |v::r,e=>by
  unfold tailIn at e
  rcases Bool.or_eq_true_iff.mp e with q | q
  ·rw[beq_iff_eq.mp q];exact PySem.F.store_ValueError.passes self
  ·split at q
   ·split at q
    ·rw[zw,zw] at q;rw[refuseLoop_ref];exact HF self q.2
    ·cases q
   ·cases q
def yz(C t:Addr)(dxo:Option Addr):Obj:={cls:=.ref C,dict:=dxo,data:=.fields #[.ref t,.none,.none,.none,.bool false,.none]}
section
variable {prog:Program}{w:World}{A:Around}{E:Value->Shared->Prop}{h:Heap}{g:Array GenState}{d:Drawn}{t:Nat}{os:OsState}
variable {nm q:Str}{C N:Addr}{bs bm bmB:List Value}{hdct:Bool}{sn:List Str}{sub:List Value}{ab:Bool}{col:Option Bool}{dd:Option Addr}{k0 k1 k2 k3 k5:Option Value}{B newId initId:String}
theorem VL{K:Frag}{x:Addr}{ox:Obj}{name:Str}{tk:Tok}{v:Value}{cd:ClassData}{Q:Fin->Shared->Prop}(X:K.In h)(hx:h.get? x=some ox)(hc:ox.cls=.ref C)(hnd:ox.dict=none)(hda:∃ws,ox.data=.fields ws)
  (hcd:clsIn K C=some cd) (hhd:cd.hasDict=true) (hrf:refuseLoop (.ref x) "__setattr__" cd.mro=pure ()) (hna:findIn K (.ref C) name=some none)
  (hq:∀h' tk',h'.Ns1 h.objs.size (λy=>if y=name then some v else none)->h'.get? x=some {ox with dict:=some h.objs.size}->(∀b o,b≠x->h.get? b=some o->h'.get? b=some o)->Q (.done (.ret .none)) ⟨h',g,d,tk',os⟩):
  wpAny (model prog w) A (Builtin.«object.__setattr__» ⟨[.ref x,.str name tk,v],[]⟩) Q E ⟨h,g,d,t,os⟩:=by
 obtain⟨ws,hda⟩:=hda;have L0:Looks (model prog w) h (typeOf (.ref x)) (.ref C):=hc ▸ (Looks.ld hx).andThen .now;have hm:Looks (model prog w) h (mroOf (.ref C)) cd.mro:=(looks_clsIn X hcd).andThen .now;have L2:=looks_findIn (M:=model prog w) X hna;rw[osa_eq,refuse_eq];refine za (za (L0.at (za (hm.at ?_))));rw[hrf];refine zc (za (L0.at (za (L2.at (za (zc ?_))))));show wpAny _ _ (storeInOwnDict _ _ _ _ _ _) _ _ _;unfold storeInOwnDict;refine za (zc (za ?_));unfold ownDictForStores instanceDict;dsimp only;refine za (wpAny_loadPart hx ?_);obtain⟨oc,odi,oda,osl⟩:=ox;dsimp only at hc hnd hda
 subst hc hnd hda;refine za ((looks_clsIn X hcd).at ?_);rw[hhd];rw[if_neg (by decide),if_neg (by simp[typeHasDict])];have hx₁:=zn {cls:=.type "dict",data:=.dict #[]} hx;have hxs:x≠h.objs.size:=zC (zo hx);refine za (wpAny_alloc' ?_);refine za (wpAny_update' hx₁ ?_);refine zc ?_;have hgd:((h.push {cls:=.type "dict",data:=.dict #[]}).update x λo=>{cls:=o.cls,dict:=some h.objs.size,data:=o.data,slots:=o.slots}).get? h.objs.size=some {cls:=.type "dict",data:=.dict #[]}:=
  (Heap.get?_update_ne _ _ _ _ hxs.symm).trans (Heap.get?_push_at rfl rfl)
 have hnd:((h.push {cls:=.type "dict",data:=.dict #[]}).update x λo=>{cls:=o.cls,dict:=some h.objs.size,data:=o.data,slots:=o.slots}).Ns h.objs.size (λ_=>none):=
  ⟨_,#[],_,hgd,rfl,λe he=>absurd he (by simp),λ_=>rfl⟩
 show wpAny _ _ (storeInDict h.objs.size (.str name tk) name v) _ _ _;unfold storeInDict newKeyGuard;refine za (zc (za (wpAny_nsSet1 (Heap.Ns1.of_empty hnd) λh' hn' hs=>?_)));obtain⟨oD,esD,epD,hoD,hdD,hcD⟩:=hn'.count (Within.cons name v Within.nil);refine za (wpAny_lookBehind hoD (by rw[hdD];exact pastItsLine_dict (zH hcD (by rw[zI,jg,sizeLine_eq];omega))) ?_)
 wp_walk
 refine hq h' _ hn' ((hs.2 x hxs).trans (Heap.get?_update_self _ hx₁ rfl)) λb ob hbx hb=>?_
 exact(hs.2 b (zC (zo hb))).trans ((Heap.get?_update_ne _ _ _ _ hbx).trans (zn _ hb))
end
def xoK(C t ea:Addr)(dxo:Option Addr):HO:=.ext λh=>h.get? ea=some (yz C t dxo)
theorem VM{P:Program}{w:World}{H:Hp}{h:Heap}{C t ea:Addr}{dxo:Option Addr}(e:h.get? ea=some (yz C t dxo)):bU P w H h ea (xoK C t ea dxo):=⟨e,⟨_,e⟩,λ_ _ z k=>k _ z⟩
theorem VN{P:Program}{w:World}{H:Hp}{h:Heap}{C t ea:Addr}{dxo:Option Addr}(q:bU P w H h ea (xoK C t ea dxo)):h.get? ea=some (yz C t dxo):=q.1
def spI(C:Addr)(name:Str):Sp:=λvs H Q _=>∃ea t v,vs=[.ref ea,v]/\H ea=some (xoK C t ea none)/\∀dx od,H dx=none->dx≠ea->Q .non (upd (upd H dx (.frz od (.xd [(name,v)]))) ea (xoK C t ea (some dx)))
structure q9(K:Frag)(C fI:Addr)(name:Str):Prop where
 cl:yx K C bmV "ValueError.__new__" fI=true
 sa:findIn K (.ref C) "__setattr__" = some (some (.builtin "object.__setattr__"))
 na:findIn K (.ref C) name=some none
 ob:mroIn K C (.type "object")=some true
section
variable {X:Cx}{pins:List (Addr×Obj)}{σ:St}{H:Hp}{s:Shared}{ea C fI t:Addr}{name:Str}{v:V}{u:Value}
theorem VP{A:Around}{E:Value->Shared->Prop}{Q:Unit->Shared->Prop}(I:Inv X pins σ H s)(Z:q9 X.K C fI name)(e:H ea=some (xoK C t ea none))(rv:RelV v u)
  (hq:∀dx od s',H dx=none->dx≠ea->Inv X pins σ (upd (upd H dx (.frz od (.xd [(name,v)]))) ea (xoK C t ea (some dx))) s'->Q () s'):wpAny (model X.prog X.w) A (setAttr (.ref ea) name u) Q E s:=by
 have hx:=VN (I.hok ea _ e);obtain⟨bm,N,nm,qn,bs,sn,sub,ab,col,dd,k0,k1,k2,k3,k5,lk,ht,_,_⟩:=VJ Z.cl;have SF:=PySem.F.store_object
 obtain⟨cd,hcl,hm,hhd⟩:∃cd,clsIn X.K C=some cd/\cd.mro=.ref C::bm/\cd.hasDict=true:=by
  refine⟨_,by unfold clsIn;rw[show X.K.lookup C=_ from lk],rfl,rfl⟩
 refine set_plain (od:=none) I.kIn ⟨hx,rfl,rfl,trivial⟩ Z.sa ?_;have L0:Looks (model X.prog X.w) s.heap (isInstance (.ref ea) (.type "object")) true:=(show Looks (model X.prog X.w) s.heap (typeOf (.ref ea)) (.ref C) from(Looks.ld hx).andThen .now).andThen (looks_mroIn I.kIn Z.ob);refine codeAny_call_builtin SF.slot.plain SF.entry (@check_slot (model X.prog X.w) _ _ {s with toks:=s.toks+1} "object.__setattr__" "object" "__setattr__" (.ref ea) [.str name s.toks,u] [] _ SF.kind SF.split L0 (SF.args (.ref ea) (.str name s.toks) u) ?_)
 refine VL I.kIn hx rfl rfl ⟨_,rfl⟩ hcl hhd (by rw[hm,refuseLoop_ref];exact HF _ ht) Z.na λh' tk' hns hex hk=>?_
 show Q () _;have hfr:H s.heap.objs.size=none:=I.hok.fresh (zd _);have hne:s.heap.objs.size≠ea:=(zC (zo hx)).symm;obtain⟨od,es,ep,hod,hr⟩:=id hns;refine hq s.heap.objs.size od _ hfr hne (I.un ⟨λb o q n _ _=>?_,λb o q n _ _=>?_,λb o q n _=>?_,λb o q _=>?_,λb xs q=>?_,λb o u' q=>?_,λb ps q=>?_⟩ λb o q=>?_)
 ·exact hk b o (λz=>by rw[z,e] at n;cases n) q
 ·exact⟨o.slots,hk b o (λz=>by rw[z,e] at n;cases n) q⟩
 ·rw[aG (λz=>by rw[z,e] at n;cases n),aG (zC (zo q))];exact n
 ·by_cases z:b=ea
  ·exact⟨_,z ▸ hex⟩
  ·exact⟨o,hk b o z q⟩
 ·rw[aG (λz=>by rw[z,e] at q;cases q),aG (λz=>by rw[z,hfr] at q;cases q)];exact q
 ·rw[aG (λz=>by rw[z,e] at q;cases q),aG (λz=>by rw[z,hfr] at q;cases q)];exact q
 ·refine⟨#[],?_⟩;rw[aG (λz=>by rw[z,e] at q;cases q),aG (λz=>by rw[z,hfr] at q;cases q),Array.append_empty];exact q
 ·by_cases z:b=ea
  ·subst z;rw[bF] at q;cases q;exact VM hex
  ·rw[aG z] at q
   by_cases y:b=s.heap.objs.size
   ·subst y;rw[bF] at q;cases q;refine⟨hod,_,hns,λf=>?_⟩
    by_cases hf:f=name
    ·rw[if_pos hf,hf];show dU (List.lookup name [(name,v)]) _;rw[show List.lookup name [(name,v)]=some v by simp[List.lookup]];exact rv
    ·have hb:(f == name)=false:=beq_eq_false_iff_ne.mpr hf;rw[if_neg hf,show List.lookup f [(name,v)]=none by simp only[List.lookup,hb]];exact True.intro
   ·rw[aG y] at q
    refine(I.hok b o q).stay (λb' u' hb' q'=>hk b' u' (λx=>?_) q') (λb' q'=>?_) λb' xs q'=>?_
    ·rcases hb' with rfl | hb'
     ·exact z x
     ·rw[x,e] at hb';cases hb'
    ·rw[aG (λx=>by rw[x,e] at q';cases q'),aG (λx=>by rw[x,hfr] at q';cases q')];exact q'
    ·rw[aG (λx=>by rw[x,e] at q';cases q'),aG (λx=>by rw[x,hfr] at q';cases q')];exact q'
def VR(C:Addr)(name:Str):TS:=λD σ H=>∃ea t v,σ[0]?=some (some (.ref ea))/\σ[1]?=some (some v)/\H ea=some (xoK C t ea none)/\∀dx od,H dx=none->dx≠ea->D.nx σ (upd (upd H dx (.frz od (.xd [(name,v)]))) ea (xoK C t ea (some dx)))
theorem V0{sf pn:Str}{p1 p2 p3 p4:Pos}(Z:q9 X.K C fI name)(h0:X.N[0]?=some sf)(h1:X.N[1]?=some pn)(v0:Vis X.env.scope sf)(v1:Vis X.env.scope pn)(d0:(sf == ("__debug__":Str))=false)(d1:(pn == ("__debug__":Str))=false)(c0:(sf == ("__classdict__":Str))=false)(c1:(pn == ("__classdict__":Str))=false)
  (hs:swapsWith (.Name pn p3) (some (.Attribute (.Name sf p1) name p2)) p4.line X.env=pure false):PS X (.Assign [.Attribute (.Name sf p1) name p2] (.Name pn p3) p4) (VR C name):=by
 intro pins s σ H D I q;obtain⟨ea,t,v,e0,e1,eh,k⟩:=q;refine plainObj_wpAny_Assign_Attribute (thn (lC (i:=1) h1 v1 d1 c1 pins s σ H (λv' H1=>v'=v/\H1=H) I ⟨v,e1,rfl,rfl⟩) λu s1 z=>?_) hs;obtain⟨_,_,I1,ru,rfl,rfl⟩:=z
 refine thn (lC (i:=0) h0 v0 d0 c0 pins s1 σ _ (λv' H1=>v'=.ref ea/\H1=_) I1 ⟨.ref ea,e0,rfl,rfl⟩) λov s2 z=>?_
 obtain⟨_,_,I2,ro,rfl,rfl⟩:=z;obtain rfl:ov=Value.ref ea:=ro
 exact VP I2 Z eh ru λdx od s3 n1 n2 I3=>⟨σ,_,I3,k dx od n1 n2⟩
end
def HH(P:Program)(w:World)(K:Frag)(mg:Str->Option Value)(base:Heap)(c name:Str)(k:Nat):Prop :=
 ∃(C fI:Addr) (fd:FuncData) (ps:List Str),mg c=some (.ref C)/\q9 K C fI name/\isFn K (.ref fI)=true/\Binds K fd ps []/\cA P w K mg base CX0 k fI fd ps (spI C name)
section
variable {Pr:Program}{w:World}{K:Frag}{mg:Str->Option Value}{base:Heap}
theorem V1{c name qual sf pn:Str}{st:Stmt}{C fI:Addr}{fd:FuncData}{p1 p2 p3 p4:Pos}(hC:mg c=some (.ref C))(Z:q9 K C fI name)(hf:isFn K (.ref fI)=true)(Fn:Fun K "__init__" qual st fI fd)(S:bN [sf,pn] [sf,pn] (aR st))
  (hb:∀(kV doc pm:Value) (an:Option Addr) (cdv ct:Value) (us:List Value),us.length=[sf,pn].length->bindArgs (PySem.W.fnOf "__init__" qual (gb st) (dz st) (aR st) .none kV doc pm an cdv ct) ⟨us,[]⟩=pure ([sf,pn].zip us))
  (hbo:dz st=[.Assign [.Attribute (.Name sf p1) name p2] (.Name pn p3) p4]) (v0:Vis (aR st) sf) (v1:Vis (aR st) pn) (d0:(sf == ("__debug__":Str))=false) (d1:(pn == ("__debug__":Str))=false) (c0:(sf == ("__classdict__":Str))=false) (c1:(pn == ("__classdict__":Str))=false)
  (hs:∀L f cdv,swapsWith (.Name pn p3) (some (.Attribute (.Name sf p1) name p2)) p4.line (envOfC qual (aR st) L f cdv)=pure false):HH Pr w K mg base c name 1:=by
 have hbi:=Fn.binds hb;obtain⟨oc,od,kV,doc,pmv,an,cdv,ct,osl,rfl,lk,hcd⟩:=Fn.ex;refine⟨C,fI,_,_,hC,Z,hf,hbi,Ff lk hcd S (λvs H Q E h=>?_) λA outer s H vs Q E hr h=>?_⟩
 ·obtain⟨ea,t,v,rfl,_⟩:=h;rfl
 ·obtain⟨ea,t,v,rfl,e,k⟩:=h;rw[hbo];exact⟨_,Ef (V0 (X:=il CX0 Pr w K mg base [sf,pn] qual (aR st) fI cdv A outer s H E) Z rfl rfl v0 v1 d0 d1 c0 c1 (hs _ _ _)),ea,t,v,rfl,rfl,e,k⟩
end
section
variable {prog:Program}{w:World}{A:Around}{E:Value->Shared->Prop}{s:Shared}{env:Env}
variable {nm q:Str}{C N:Addr}{bs bm:List Value}{hdct:Bool}{sn:List Str}{sub:List Value}{ab:Bool}{col:Option Bool}{dd:Option Addr}{k0 k1 k2 k3 k5:Option Value}{newId:String}
end
section
variable {X:Cx}{md:List Md}{P:Pt}{R:RR}
end
end L2
namespace L2
open PySem PySem.Spec PyProof.Rows PySem.W
def xcO(oe:Obj):HO:=.frz oe (.ext λ_=>True)
section
variable {X:Cx}{md:List Md}{P:Pt}{R:RR}{pins:List (Addr×Obj)}{σ:St}{H:Hp}{s:Shared}{ea:Addr}{oe:Obj}
end
end L2
namespace L2
open PySem PySem.Spec PyProof.Rows PySem.W PySem.Calls PySem.Builtin PySem.Builtin.ObjectAttr
section
variable {X:Cx}{md:List Md}{P:Pt}{R:RR}
theorem RlO.xc{K:Frag}{mg:Str->Option Value}{O:aj}{H F:Hp}{as:List Addr}{ea C:Addr}{oe:Obj}{c:Str}{fs:List (Str×D)}(r:RlO K mg O H F as)(hn:H ea=none)(hC:mg c=some (.ref C))(hc:oe.cls=.ref C)(hd:∃ws,oe.data=.fields ws)(hx:XF K F as oe.dict fs):
  RlO K mg (O++[.xc c fs]) (upd H ea (xcO oe)) F (as++[ea])/\Gr H F as (upd H ea (xcO oe)) F (as++[ea]):=by
 have at_:∀(n:Nat) (a:Addr),as[n]?=some a->(as++[ea])[n]?=some a:=λn a h=>by
  rw[zK (zl.mp h).1];exact h
 have g0:Gr H F as (upd H ea (xcO oe)) F as:=Gr.lay hn;have rB:RlO K mg O (upd H ea (xcO oe)) F as:=r.lay hn;refine⟨⟨rB.fh,rB.fd,?_,by simp[r.len],λa ha=>?_,λn a o ha ho=>?_⟩,⟨g0.fz,g0.ff,⟨[ea],rfl,λa ha=>by rw[zz.mp ha];exact hn⟩,λa o e ha hd=>g0.fr a o e ha hd,g0.dm,g0.kz⟩⟩
 ·rw[jc];refine⟨r.nd,by simp,λa ha b hb=>?_⟩;rw[zz.mp hb];intro z;subst z;exact r.all ha hn
 ·rcases zA.mp ha with z | z
  ·exact r.fa a z
  ·rw[zz.mp z];exact r.frF hn
 ·by_cases hn':n<O.length
  ·rw[zK (by rw[r.len];exact hn')] at ha;rw[zK hn'] at ho;exact(rB.ob n a o ha ho).keep rfl (Same.refl _) at_
  ·have hn2:n=O.length:=by
    have:=(zl.mp ho).1
    simp at this
    omega
   subst hn2;rw[zJ (zd _),Nat.sub_self] at ho;rw[<-r.len,zJ (zd _),Nat.sub_self] at ha;cases ho;cases ha;exact⟨C,oe,_,hC,bF,hc,hd,hx.mono (Same.refl _) at_⟩
end
section
variable {prog:Program}{w:World}{A:Around}{E:Value->Shared->Prop}{K:Frag}{a C:Addr}{o od:Obj}{h:Heap}{g:Array GenState}{d:Drawn}{t:Nat}{os:OsState}{name:Str}{v:Value}
end
section
variable {X:Cx}{md:List Md}{P:Pt}{R:RR}
def ISN(K:Frag)(mg:Str->Option Value)(T c:Str)(b:Bool):Prop:=∃C A,mg c=some (.ref C)/\yt K C/\mg T=some (.ref A)/\kitOne K (.ref C) (.ref A)=some b
def ISV(K:Frag)(mg:Str->Option Value)(c:Str):Prop:=∃C,mg c=some (.ref C)/\yt K C/\kitOne K (.ref C) (.type "ValueError")=some true
def HJ(K:Frag)(mg:Str->Option Value)(ns:List Str)(c:Str)(b:Bool):Prop:=∃C as,mg c=some (.ref C)/\yt K C/\qY mg ns as/\kitAny K (.ref C) (as.map Value.ref)=some b
theorem FsR.at{K:Frag}{F:Hp}{as:List Addr}{f:Str}{d:D}:∀{fs:List (Str×D)}{gs:List (Str×V)},FsR K F as gs fs->fs.lookup f=some d->∃v,gs.lookup f=some v/\Rp K F as v d
 | [],gs,h,e=>by cases e
 | (g,y)::fs,gs,h,e=>by
  obtain⟨h1,h2⟩:=h
  cases gs with
  |nil=>cases h1
  |cons p gs =>
   obtain⟨g',x⟩:=p;have hg:g'=g:=(List.cons.inj h1).1;subst hg;obtain⟨x',r,ex,hx,hr⟩:=Rps.un h2;cases ex
   by_cases hf:(f == g')=true
   ·have e':some y=some d:=by
     simp only[List.lookup,hf] at e;exact e
    cases e';exact⟨x,by simp only[List.lookup,hf],hx⟩
   ·have hf':(f == g')=false:=by simpa using hf
    have e':fs.lookup f=some d:=by
     simp only[List.lookup,hf'] at e;exact e
    obtain⟨v,q1,q2⟩:=FsR.at (fs:=fs) (gs:=gs) ⟨(List.cons.inj h1).2,hr⟩ e';exact⟨v,by simp only[List.lookup,hf'];exact q1,q2⟩
end
end L2
namespace L2
open PySem PySem.Spec PyProof.Rows PySem.W
def uE(A:Around):Around:={A with handled:=none}
theorem RoomH.deeper{k:Nat}{A:Around}(r:aX (k+1) (uE A))(env:Env):aX k (uE (A.deeper env)):=⟨rfl,(r.deeper env).dp,(r.deeper env).un⟩
theorem aX.h{k:Nat}{A:Around}(r:aX k A):aX k (uE A):=⟨rfl,r.dp,r.un⟩
structure yC(P:Program)(w:World)(K:Frag)(mg:Str->Option Value)(base:Heap)(k:Nat)(f:Addr)(fd:FuncData)(ps:List Str)(sp:Sp):Prop where
 len:∀vs H Q E,sp vs H Q E->vs.length=ps.length
 run:∀(A:Around) (outer:List Env) (s:Shared) (H:Hp) (args:Args) (us:List Value) (vs:List V) (Q:VK) (E:XK),aX k (uE A)->gK P w K mg base A outer s H->BindsTo s fd args (ps.zip us)->aP vs us->sp vs H Q E ->
  codeAny (model P w) A (.call (.ref f) args) (CR CX0 outer P w H s Q E) s
theorem yC.fn{P:Program}{w:World}{K:Frag}{mg:Str->Option Value}{base:Heap}{k:Nat}{f:Addr}{fd:FuncData}{ps:List Str}{sp:Sp}(F:yC P w K mg base k f fd ps sp):cA P w K mg base CX0 k f fd ps sp:=⟨F.len,λA outer s H args us vs Q E hr=>F.run A outer s H args us vs Q E hr.h⟩
def HN(P:Program)(w:World)(K:Frag)(mg:Str->Option Value)(base:Heap)(x:Str)(ps:List Str)(k:Nat)(sp:Sp):Prop :=
 ∃f fd,mg x=some (.ref f)/\keepIn K (.ref f)=true/\Binds K fd ps []/\yC P w K mg base k f fd ps sp/\∃oc od osl,K.lookup f=some ⟨oc,od,.func fd,osl⟩
section
variable {Pr:Program}{w:World}{K:Frag}{mg:Str->Option Value}{base:Heap}
theorem HN.can{x:Str}{ps:List Str}{k:Nat}{sp:Sp}(C:HN Pr w K mg base x ps k sp):Can Pr w K mg base x ps k sp:=by
 obtain⟨f,fd,h1,h2,h3,h4,h5⟩:=C;exact⟨f,fd,h1,h2,h3,h4.fn,h5⟩
end
section
variable {X:Cx}{md:List Md}{P:Pt}{R:RR}
end
section
variable {X:Cx}{md:List Md}{P:Pt}{R:RR}
end
theorem ISN.nm{K:Frag}{mg:Str->Option Value}{T c:Str}{b:Bool}(h:ISN K mg T c b):∃A,mg T=some (.ref A):=let ⟨_,A,_,_,e,_⟩:=h;⟨A,e⟩
theorem HJ.nm{K:Frag}{mg:Str->Option Value}{ns:List Str}{c:Str}{b:Bool}(h:HJ K mg ns c b):∃as,qY mg ns as:=let ⟨_,as,_,_,e,_⟩:=h;⟨as,e⟩
theorem ISV.tb{K:Frag}{mg:Str->Option Value}{c:Str}(h:ISV K mg c):true=true/\ISV K mg c:=⟨rfl,h⟩
def HQ(K:Frag)(mg:Str->Option Value)(c name qual:Str)(st:Stmt):Prop:=∃C fI fd,mg c=some (.ref C)/\q9 K C fI name/\isFn K (.ref fI)=true/\Fun K "__init__" qual st fI fd
theorem HQ.can{Pr:Program}{w:World}{K:Frag}{mg:Str->Option Value}{base:Heap}{c name qual sf pn:Str}{st:Stmt}{p1 p2 p3 p4:Pos}(h:HQ K mg c name qual st)(S:bN [sf,pn] [sf,pn] (aR st))
  (hb:∀(kV doc pm:Value) (an:Option Addr) (cdv ct:Value) (us:List Value),us.length=[sf,pn].length->bindArgs (PySem.W.fnOf "__init__" qual (gb st) (dz st) (aR st) .none kV doc pm an cdv ct) ⟨us,[]⟩=pure ([sf,pn].zip us))
  (hbo:dz st=[.Assign [.Attribute (.Name sf p1) name p2] (.Name pn p3) p4]) (v0:Vis (aR st) sf) (v1:Vis (aR st) pn) (hs:∀L f cdv,swapsWith (.Name pn p3) (some (.Attribute (.Name sf p1) name p2)) p4.line (envOfC qual (aR st) L f cdv)=pure false)
  (d0:(sf == ("__debug__":Str))=false:=by decide) (d1:(pn == ("__debug__":Str))=false:=by decide) (c0:(sf == ("__classdict__":Str))=false:=by decide) (c1:(pn == ("__classdict__":Str))=false:=by decide):HH Pr w K mg base c name 1:=by
 obtain⟨C,fI,fd,h1,h2,h3,h4⟩:=h;exact V1 h1 h2 h3 h4 S hb hbo v0 v1 d0 d1 c0 c1 hs
section
variable {X:Cx}{md:List Md}{P:Pt}{R:RR}
end
def HR(P:Program)(w:World)(K:Frag)(mg:Str->Option Value)(base:Heap)(c:Str)(ps:List Str)(k:Nat)(sp:Sp):Prop :=
 ∃C f fd,mg c=some (.ref C)/\Mk K C f/\Binds K fd ps []/\cA P w K mg base (CXF P w) k f fd ps sp
section
variable {Pr:Program}{w:World}{K:Frag}{mg:Str->Option Value}{base:Heap}
theorem HR.can{c:Str}{ps:List Str}{k:Nat}{pm:List Md}{R:RR}{cf:List D->aj->Res D}(C:HR Pr w K mg base c ps k (qZ K mg pm R cf))(hl:pm.length=ps.length:=by rfl):uo Pr w K mg base c ps k (vSp K mg pm R cf):=by
 obtain⟨C,f,fd,h1,h2,hb,Fn⟩:=C;exact⟨C,f,fd,h1,h2,hb,yw Fn hl⟩
end
theorem RlO.ins{K:Frag}{mg:Str->Option Value}{O:aj}{H F:Hp}{as:List Addr}{x dx C:Addr}{c:Str}(r1:RlO K mg O H F as)(hC:mg c=some (.ref C))(hx:H x=none)(hdx:H dx=none)(hne:dx≠x):
  RlO K mg (O++[.ins c []]) (upd (upd H dx (.own x)) x (.ins C dx [])) F (as++[x])/\Gr H F as (upd (upd H dx (.own x)) x (.ins C dx [])) F (as++[x])/\Rp K F (as++[x]) (.ref x) (.ob O.length):=by
 have hx2:upd H dx (.own x) x=none:=by rw[aG hne.symm];exact hx
 have gAB:Gr H F as (upd (upd H dx (.own x)) x (.ins C dx [])) F as:=(Gr.lay hdx).trans (Gr.lay hx2)
 have nx:x∉as:=λz=>r1.all z hx
 have rB:=(r1.lay (o:=.own x) hdx).lay (o:=.ins C dx []) hx2
 have at_:∀(n:Nat) (a:Addr),as[n]?=some a->(as++[x])[n]?=some a:=λn a h=>by
  rw[zK (zl.mp h).1];exact h
 refine⟨⟨rB.fh,rB.fd,?_,by simp[r1.len],λa ha=>?_,λn a o ha ho=>?_⟩,⟨gAB.fz,gAB.ff,⟨[x],rfl,λa ha=>by rw[zz.mp ha];exact hx⟩,λa o e ha hd=>gAB.fr a o e ha hd,gAB.dm,gAB.kz⟩,Rp.mkO (by rw[<-r1.len,zJ (zd _),Nat.sub_self];rfl)⟩
 ·rw[jc];refine⟨r1.nd,by simp,λa ha b hb=>?_⟩;rw[zz.mp hb];intro z;subst z;exact nx ha
 ·rcases zA.mp ha with z | z
  ·exact r1.fa a z
  ·rw[zz.mp z];exact r1.frF hx
 ·by_cases hn:n<O.length
  ·rw[zK (by rw[r1.len];exact hn)] at ha;rw[zK hn] at ho;exact(rB.ob n a o ha ho).keep rfl (Same.refl _) at_
  ·have hn':n=O.length:=by
    have:=(zl.mp ho).1
    simp at this
    omega
   subst hn';rw[zJ (zd _),Nat.sub_self] at ho;rw[<-r1.len,zJ (zd _),Nat.sub_self] at ha;cases ho;cases ha;exact⟨C,dx,[],hC,bF,⟨rfl,Rps.nil⟩⟩
section
variable {X:Cx}{md:List Md}{P:Pt}{k:Nat}{c:Str}{ps:List Str}{p pos:Pos}{e:Expr}{es:List Expr}{pm:List Md}{cf:List D->aj->Res D}{ma:M (List D)}
end
end L2
namespace L2
open PySem PySem.Spec PyProof.Rows PySem.W PySem.Calls
section
variable {prog:Program}{w:World}{A:Around}{E:Value->Shared->Prop}{s:Shared}{R:Result->Shared->Prop}
end
section
variable {X:Cx}{md:List Md}{P:Pt}{R:RR}
structure Qzd(mg:Str->Option Value):Prop extends Blt mg where
 any_:mg "any" = none
end
end L2
namespace L2
open PySem PySem.Spec PyProof.Rows PySem.W
section
variable {X:Cx}{pins:List (Addr×Obj)}{σ:St}{H:Hp}{s:Shared}{a:Addr}{xs:List (Key×V)}
end
section
variable {K:Frag}{mg:Str->Option Value}{O:aj}{H F:Hp}{as:List Addr}
theorem RlO.kf{n:Nat}{a:Addr}{kvs:List (Key×D)}(r:RlO K mg O H F as)(hn:as[n]?=some a)(hO:O[n]?=some (.kf kvs)):∃o xs,H a=some (.frz o (.dK xs))/\DkR K F as xs kvs:=let ⟨o,xs,h1,h2,h3⟩:=r.ob n a _ hn hO;⟨o,xs,h1,h2,h3⟩
end
section
variable {X:Cx}{md:List Md}{P:Pt}{R:RR}
theorem HS{K:Frag}{F:Hp}{as:List Addr}:∀{xs:List V}{ds:List D}{i:Nat}{x:V}{d:D},Rps K F as xs ds->xs[i]?=some x->ds[i]?=some d->Rp K F as x d
 |xs,[],i,x,d,h,h1,h2=>by cases h2
 |xs,e::ds,i,x,d,h,h1,h2=>by
  obtain⟨y,r,rfl,q1,q2⟩:=h.un
  cases i with
  |zero=>cases h1;cases h2;exact q1
  |succ i=>exact HS q2 h1 h2
end
section
variable {prog:Program}{w:World}{A:Around}{E:Value->Shared->Prop}{s:Shared}
end
section
variable {X:Cx}{md:List Md}{P:Pt}{R:RR}
end
structure yD(P:Program)(w:World)(K:PySem.W.Frag)(mg:Str->Option Value)(base:Heap)(k:Nat)(f:Addr)(fd:FuncData)(ps:List Str)(sp:Sp):Prop where
 len:∀vs H Q E,sp vs H Q E->vs.length=ps.length
 run:∀(A:Around) (outer:List Env) (s:Shared) (H:Hp) (args:Args) (us:List Value) (vs:List V) (Q:VK) (E:XK),aX k A->gK P w K mg base A outer s H->BindsTo s fd args (ps.zip us)->aP vs us->sp vs H Q E ->
  codeAny (model P w) A (.call (.ref f) args) (λr s'=>1<=s'.toks/\CR CX0 outer P w H s Q E r s') s
theorem yD.ok{P:Program}{w:World}{K:PySem.W.Frag}{mg:Str->Option Value}{base:Heap}{k:Nat}{f:Addr}{fd:FuncData}{ps:List Str}{sp:Sp}(F:yD P w K mg base k f fd ps sp):cA P w K mg base CX0 k f fd ps sp :=
 ⟨F.len,λA outer s H args us vs Q E hr he hb hv hs=>codeAny_mono (F.run A outer s H args us vs Q E hr he hb hv hs) λ_ _ q=>q.2⟩
def HW(P:Program)(w:World)(K:PySem.W.Frag)(mg:Str->Option Value)(base:Heap)(x:Str)(ps:List Str)(k:Nat)(sp:Sp):Prop :=
 ∃f fd,mg x=some (.ref f)/\PySem.W.keepIn K (.ref f)=true/\Binds K fd ps []/\yD P w K mg base k f fd ps sp/\∃oc od osl,K.lookup f=some ⟨oc,od,.func fd,osl⟩
theorem HW.can{P:Program}{w:World}{K:PySem.W.Frag}{mg:Str->Option Value}{base:Heap}{x:Str}{ps:List Str}{k:Nat}{sp:Sp}(c:HW P w K mg base x ps k sp):Can P w K mg base x ps k sp :=
 let ⟨f,fd,a,b,d,e,g⟩:=c;⟨f,fd,a,b,d,e.ok,g⟩
section
variable {Pr:Program}{w:World}{K:Frag}{mg:Str->Option Value}{base:Heap}
end
section
variable {X:Cx}{md:List Md}{P:Pt}{R:RR}
end
section
variable {X:Cx}{md:List Md}{P:Pt}{R:RR}
end
section
variable {prog:Program}{w:World}{A:Around}{E:Value->Shared->Prop}{s:Shared}
theorem V2{v d:Addr}{o:Obj}{es:Array DictEntry}{ep:Nat}{Q:Value->Shared->Prop}(hv:s.heap.IsValuesView v d)(ho:s.heap.get? d=some o)(hdat:o.data=.dict es ep)
  (hQ:Q (.ref s.heap.objs.size) {s with heap:=s.heap.push {cls:=.type "dict_valueiterator",data:=.fields #[.ref d,.int 0 0,.int es.size 0,.int ep 0]}}):
  wpAny (model prog w) A (pyIter (.ref v)) Q E s:=by
 obtain⟨ov,hov,hcv,hdv⟩:=id hv;refine wpAny_pyIter_slot hv.typeIs PySem.F.slot_dict_values_iter (wpAny_call_entry PySem.F.slot_dict_values_iter hv.typeIs PySem.F.entry_dict_values_iter ?_ (PySem.F.args_dict_values_iter_1 _));unfold Builtin.«dict_values.__iter__»;refine za (zc (za ?_));unfold Builtin.Dict_items.dictOf;refine za (wpAny_field hov hdv (x:=.ref d) rfl (zc (za ?_)));unfold Builtin.Dict_items.newIterator;refine za (wpAny_dictEntries ho hdat (za (wpAny_dictEpoch ho hdat ?_)))
 have hown:Builtin.Dict_items.ownsTuple "dict_valueiterator" = false:=by decide
 simp only[hown,Bool.false_eq_true,if_false];refine wpAny_newObj_type (zc ⟨_,rfl,"dict_valueiterator",_,⟨_,zB _ rfl,rfl⟩,PySem.F.slot_dict_valueiterator_next.lookup,?_⟩);simpa [rawInt] using hQ
theorem V3{d:Addr}(hd:(d == sysModules)=false):
  MeetsIn prog w (Builtin.«dict.values» ⟨[.ref d],[]⟩) (λ_ R s=>s.TypeIs (.ref d) "dict" /\
   R (.ok (.ret (.ref s.heap.objs.size))) {s with heap:=s.heap.push {cls:=.type "dict_values",data:=.fields #[.ref d]}}):=
 .of_wp λA R s ⟨hm,h⟩=>by
  refine za ?_;unfold Builtin.Dict.noArgs;refine za (wpAny_notOrdered_dict hm ?_);show wpAny _ _ (pure d) _ _ s;refine zc ?_;show wpAny _ _ (Builtin.Dict.showsAll d >>= _) _ _ s;unfold Builtin.Dict.showsAll;rw[if_neg (by rw[hd];exact zq)];exact za (zc (za (wpAny_newObj_type (zc ⟨_,rfl,h⟩))))
theorem V4{it d:Addr}{i n ep:Nat}{od:Obj}{es:Array DictEntry}{Q:Option Value->Shared->Prop}(hit:s.heap.IsValIter it d i n ep)(hod:s.heap.get? d=some od)(hdd:od.data=.dict es ep)(hsz:es.size=n)(hlt:i<n)
  (hQ:∀h',h'.IsValIter it d (i+1) n ep->Heap.SameBut it s.heap h'->Q (some (es[i]'(by omega)).val) {s with heap:=h'}):
  wpAny (model prog w) A (pyNext (.ref it)) Q E s:=by
 obtain⟨o,ho,hc,hd⟩:=id hit;unfold pyNext
 refine za (wpAny_attempt (wpAny_callSpecial?_slot (name:=Str.ofString "__next__") hit.typeIs PySem.F.slot_dict_valueiterator_next
  (wpAny_call_entry PySem.F.slot_dict_valueiterator_next hit.typeIs PySem.F.entry_dict_valueiterator_next ?_ (PySem.F.args_dict_valueiterator_next_1 _))))
 refine za (zc ?_);refine za ?_;refine za ?_
 first | refine za (wpAny_typeNameOfWhole_valiter hit.typeIs (zc ?_)) | refine za (wpAny_typeNameOf_valiter hit.typeIs (zc ?_))
 refine za (wpAny_fieldsOf ho hd ?_)
 have hown:Builtin.Dict_items.ownsTuple "dict_valueiterator" = false:=by decide
 simp only[hown,Bool.false_eq_true,if_false];show wpAny _ _ (if(Value.ref d == Value.none)=true then _ else _) _ _ s;rw[if_neg (show ¬((Value.ref d == Value.none)=true) from zq)];refine za (zc ?_);refine za (wpAny_dictEntries hod hdd ?_);rw[if_neg (by rw[hsz];simp)];refine za (zc ?_);refine za (wpAny_dictEpoch hod hdd ?_);rw[if_neg (by simp)];refine zc ?_
 have hlt':i<es.size:=by rw[hsz];exact hlt
 simp only[show ¬((i:Int)<0) from by omega,if_false,Int.toNat_natCast,Array.getElem?_eq_getElem hlt'];refine za ?_
 first | refine za (wpAny_typeNameOfWhole_valiter hit.typeIs (zc ?_)) | refine za (wpAny_typeNameOf_valiter hit.typeIs (zc ?_))
 refine za (wpAny_isOneOf_valiter hit.typeIs ?_);show wpAny _ _ (setField (.ref it) 1 (rawInt ((i:Int)+1)) >>= _) _ _ s;refine za (wpAny_setField ho hd (by simp) ?_);have hit':(s.heap.update it (Obj.mapFields (·.setIfInBounds 1 (rawInt ((i:Int)+1))))).IsValIter it d (i+1) n ep :=
  ⟨_,Heap.get?_update_self _ ho (Obj.isFreed_of_fields (Obj.data_mapFields hd _)),(Obj.cls_mapFields ..).trans hc,by rw[Obj.data_mapFields hd];simp[rawInt]⟩
 refine za (zQ ?_);refine za (wpAny_isOneOf_valiter (s:={s with heap:=s.heap.update it (Obj.mapFields (·.setIfInBounds 1 (rawInt ((i:Int)+1))))}) hit'.typeIs ?_);refine za (wpAny_isOneOf_valiter (s:={s with heap:=s.heap.update it (Obj.mapFields (·.setIfInBounds 1 (rawInt ((i:Int)+1))))}) hit'.typeIs ?_);show wpAny _ _ (pure es[i].val) _ _ _;exact zc (zc ⟨_,rfl,zc (hQ _ hit' (Heap.SameBut.update ..))⟩)
theorem V5{it d:Addr}{i n ep:Nat}{od:Obj}{es:Array DictEntry}{Q:Option Value->Shared->Prop}(hh:A.handled=none)(hit:s.heap.IsValIter it d i n ep)(hod:s.heap.get? d=some od)(hdd:od.data=.dict es ep)(hsz:es.size=n)(hge:n<=i)
  (hQ:∀h',Heap.ExtBut it s.heap h'->Q none {s with heap:=h'}):wpAny (model prog w) A (pyNext (.ref it)) Q E s:=by
 obtain⟨o,ho,hc,hd⟩:=id hit;unfold pyNext
 refine za (wpAny_attempt (wpAny_callSpecial?_slot (name:=Str.ofString "__next__") hit.typeIs PySem.F.slot_dict_valueiterator_next
  (wpAny_call_entry PySem.F.slot_dict_valueiterator_next hit.typeIs PySem.F.entry_dict_valueiterator_next ?_ (PySem.F.args_dict_valueiterator_next_1 _))))
 refine za (zc ?_);refine za ?_;refine za ?_
 first | refine za (wpAny_typeNameOfWhole_valiter hit.typeIs (zc ?_)) | refine za (wpAny_typeNameOf_valiter hit.typeIs (zc ?_))
 refine za (wpAny_fieldsOf ho hd ?_)
 have hown:Builtin.Dict_items.ownsTuple "dict_valueiterator" = false:=by decide
 simp only[hown,Bool.false_eq_true,if_false];show wpAny _ _ (if(Value.ref d == Value.none)=true then _ else _) _ _ s;rw[if_neg (show ¬((Value.ref d == Value.none)=true) from zq)];refine za (zc ?_);refine za (wpAny_dictEntries hod hdd ?_);rw[if_neg (by rw[hsz];simp)];refine za (zc ?_);refine za (wpAny_dictEpoch hod hdd ?_);rw[if_neg (by simp)];refine zc ?_
 have hge':es.size<=i:=by rw[hsz];exact hge
 simp only[show ¬((i:Int)<0) from by omega,if_false,Int.toNat_natCast,Array.getElem?_eq_none hge'];refine za ?_
 first | refine za (wpAny_typeNameOfWhole_valiter hit.typeIs (zc ?_)) | refine za (wpAny_typeNameOf_valiter hit.typeIs (zc ?_))
 show wpAny _ _ (setField (.ref it) 0 .none >>= _) _ _ s;refine za (wpAny_setField ho hd (by simp) ?_);show wpAny _ _ (newExc (.type "StopIteration") [] >>= _) _ _ _;refine za ?_;simp only[newExc,newTuple];refine za (wpAny_newObj_type ?_ (by size_fits));refine za (m:=firstArgMember _ _) (jp (a:=Value.none) (by first | rfl | (simp only[firstArgMember];rfl)) ?_);refine wpAny_newObj_type ?_ (by size_fits);simp only[raiseNew];refine za (wpAny_handled ?_);rw[show A.in1.handled=none from hh];refine za (zc (wpAny_throw ?_));refine za (wpAny_isInstance (T:="StopIteration") (b:=true) ⟨_,zB _ rfl,rfl⟩ isSubtype_stop ?_)
 exact zc (hQ _ (((Heap.SameBut.update ..).extBut.push _).push _))
end
def yE(a:Addr)(o:Obj):It :=
 ⟨λi H=>∃ys:List (List Key×V),H a=some (.frz o (.dT ys))/\i<ys.length,
  λi H x H'=>H'=H/\∀ys:List (List Key×V),H a=some (.frz o (.dT ys))->∃p,ys[i]?=some p/\x=p.2,
  λi H=>∃ys:List (List Key×V),H a=some (.frz o (.dT ys))/\ys.length<=i⟩
theorem yF{X:Cx}{pins:List (Addr×Obj)}{σ:St}{H:Hp}{s:Shared}{a:Addr}{o:Obj}{ys:List (List Key×V)}(I:Inv X pins σ H s)(e:H a=some (.frz o (.dT ys))):
  s.heap.get? a=some o/\(a == sysModules)=false/\o.ExactDict/\∃es ep,o.data=.dict es ep/\es.size=ys.length/\∀(i:Nat) (h:i<es.size),∃p,ys[i]?=some p/\RelV p.2 es[i].val:=by
 obtain⟨h1,z,y,xs,r,o',es,ep,h2,h3,h4,h5,h6⟩:=(show bU X.prog X.w H s.heap a (.frz o (.dT ys)) from I.hok a _ e);rw[h1] at h2;cases h2
 have hl:es.size=xs.length:=by rw[<-Array.length_toList,h5,zj]
 have hr:ys.length=xs.length:=r.length;refine⟨h1,y,h3,es,ep,h4,by omega,λi hi=>?_⟩
 have hx:i<xs.length:=by omega
 have hy:i<ys.length:=by omega
 have ek:es.toList[i]?=some (entryOfKey (tupleKind (cR X.prog X.w)) xs[i]):=by rw[h5,zy,zu hx];rfl
 rw[Array.getElem?_toList,Array.getElem?_eq_getElem hi] at ek;have hh:=yj r (zu hy) (zu hx);refine⟨ys[i],zu hy,?_⟩
 injection ek with ek
 rw[ek];exact hh.2.2
theorem V6{P:Program}{w:World}{K:Frag}{tg:Expr}(a it:Addr)(o:Obj)(es:Array DictEntry)(ep:Nat)(hd:o.data=.dict es ep):Turn P w K tg (yE a o) [it] it (λi h=>h.IsValIter it a i es.size ep) where
 mem:=by simp
 obj:=λi h st b hb=>by
  have e:b=it:=by simpa using hb
  subst e;obtain⟨o,e,c,d⟩:=st;exact⟨o,e,λv z=>by rw[d] at z;cases z⟩
 keep:=λi h h' st k=>st.at λo e=>k it (by simp) o e
 item:=by
  intro X hP hw hK hc i pins s σ H E I hf st hg;subst hP hw hK;obtain⟨ys,hq,hlt⟩:=hg;obtain⟨q1,q2,q3,es',ep',q4,q5,q6⟩:=yF I hq;rw[hd] at q4;cases q4;obtain⟨f0,f1,f2,f3,f4,f5⟩:=hf it (by simp)
  have hi:i<es.size:=by omega
  refine V4 st q1 hd rfl hi λh' st' sb=>?_
  have I1:Inv X pins σ H {s with heap:=h'}:=I.turned (t':=s.toks) (λb o hb e=>(sb.2 b hb).trans e) f0 f1 f3 f4 f5;obtain⟨p,k2,k3⟩:=q6 i hi;obtain⟨o2,e,c,d⟩:=id st';refine⟨_,rfl,mJ (s:={s with heap:=h'}) e c d (by decide) ⟨p.2,H,I1,k3,⟨rfl,λzs hz=>?_⟩,st',λb hb=>(hf b hb).1⟩⟩;rw[hq] at hz;cases hz;exact⟨p,k2,rfl⟩
 done:=by
  intro X hP hw hK hc i pins s σ H E I hf st hg;subst hP hw hK;obtain⟨ys,hq,hge⟩:=hg;obtain⟨q1,q2,q3,es',ep',q4,q5,q6⟩:=yF I hq;rw[hd] at q4;cases q4;obtain⟨f0,f1,f2,f3,f4,f5⟩:=hf it (by simp)
  exact V5 (I.ok.hd hc) st q1 hd rfl (by omega) λh' eb=>⟨rfl,I.turned (t':=s.toks) (λb o hb e=>eb b o hb e) f0 f1 f3 f4 f5⟩
 self:=λ_ _ _ _ _ st h=>wpAny_pyIter_valiter st h
def V7(tl:TE):TI:=λσ H R=>tl σ H λx H1=>∃a xs,x=.ref a/\H1 a=some (.dT xs)/\∀o,R (yE a o) (upd H1 a (.frz o (.dT xs)))
theorem V8{X:Cx}{tg l:Expr}{apos cpos:Pos}{tl:TE}(hl:PE X l tl)(hbase:attributeBase l "values" X.env (eval l X.env)=eval l X.env:=by rfl)(hline:(apos.endLine == cpos.line)=true:=by rfl):PI X tg (.Call (.Attribute l "values" apos) [] [] cpos) (V7 tl):=by
 intro pins s σ H R I h;refine wpAny_Call_method0_late hbase hline (thn (hl pins s σ H _ I h) λv s1 ⟨x,H1,I1,r1,q1⟩=>?_);obtain⟨a,xs,rfl,hq,q⟩:=q1;cases r1;obtain⟨o,ho,I2⟩:=I1.freeze hq;obtain⟨q1,qs,q3,es,ep,q4,q5,q6⟩:=yF I2 bF;have ty:s1.TypeIs (.ref a) "dict":=⟨o,q1,q3.1⟩
 have nd:∀b,Value.ref a=.ref b->∃ob,s1.heap.get? b=some ob/\ob.dict=none:=λb hb=>by
  cases hb;exact⟨o,q1,q3.2.1⟩
 refine⟨"dict","dict.values",PySem.F.plainAttrs_dict,PySem.F.slot_dict_values,PySem.F.type_dict_values,ty,nd,Calls.callWith_builtin rfl (PySem.evalArgs_none ?_)⟩;refine call_meetsIn PySem.F.slot_dict_values ty PySem.F.entry_dict_values (PySem.F.args_dict_values_1 _) (V3 qs) ⟨ty,?_⟩
 have I3:Inv X pins σ (upd H1 a (.frz o (.dT xs))) {s1 with heap:=s1.heap.push {cls:=.type "dict_values",data:=.fields #[.ref a]}}:=I2.kept (t':=s1.toks) λb o e=>zn _ e
 show wpAny _ _ (pyIter (.ref s1.heap.objs.size)) _ _ _;refine V2 (s:={s1 with heap:=s1.heap.push {cls:=.type "dict_values",data:=.fields #[.ref a]}}) ⟨_,zB _ rfl,rfl,rfl⟩ (zn _ q1) q4 ?_;refine⟨_,[_],_,_,upd H1 a (.frz o (.dT xs)),rfl,I3.kept (t':=s1.toks) λb o e=>zn _ e,V6 a _ o es ep q4,⟨_,zB _ rfl,rfl,rfl⟩,λb hb=>?_,q o⟩
 have e:b=(s1.heap.push {cls:=.type "dict_values",data:=.fields #[.ref a]}).objs.size:=by simpa using hb
 subst e;exact I3.fpOk (zd _) (I3.hok.fresh (zd _))
section
variable {X:Cx}{md:List Md}{P:Pt}{R:RR}
def uF(m:M D):M (List D):=λρ O=>(m ρ O).bind λd O1=>match d with
 | .ob n=>match O1[n]? with
  |some (.dt kvs)=>.ok (kvs.map (·.2)) (O1.set n (.df kvs))
  | _=>.no
 | _=>.no
theorem V9{tg e:Expr}{apos cpos:Pos}{m:M D}(h:VE X md P e m)(hbase:attributeBase e "values" X.env (eval e X.env)=eval e X.env:=by rfl)(hline:(apos.endLine == cpos.line)=true:=by rfl):VI X md P tg (.Call (.Attribute e "values" apos) [] [] cpos) (uF m):=(V8 h hbase hline).imp λσ H Q q=>by
 obtain⟨ρ,O,F,as,ds,O',r,s,e,k⟩:=q;obtain⟨d,O1,e1,e⟩:=Res.bind_ok e;split at e
 ·rename_i n;split at e
  ·rename_i kvs e2;cases e;refine⟨ρ,_,F,as,_,_,r,s,e1,λv H1 F1 as1 g1 r1 hv=>?_⟩;obtain⟨a,rfl,ha⟩:=Rp.unO hv;obtain⟨xs,x1,x2⟩:=r1.dt ha e2;refine⟨a,xs,rfl,x1,λo=>k (yE a o) (upd H1 a (.frz o (.dT xs))) F1 as1 (g1.trans (nG (zO ha) x1)) (r1.mutG ha ⟨o,xs,bF,x2.1,x2.2⟩) ⟨λi d H2 F2 as2 g2 r2 hd=>?_,λH2 F2 as2 g2 r2=>?_⟩⟩
   ·have hz:=g2.kz a o _ bF
    have hi:i<kvs.length:=by have:=(zl.mp hd).1;rwa [zj] at this
    have hi':i<xs.length:=by rw[x2.len];exact hi
    refine⟨⟨xs,hz,hi'⟩,λx H3 y=>?_⟩;obtain⟨rfl,hy⟩:=y;obtain⟨p,hp,rfl⟩:=hy xs hz;exact⟨F2,Gr.refl,λ_ z=>z,Rp.grS (HS x2.2 (by rw[zy,hp];rfl) hd) g2⟩
   ·exact⟨xs,g2.kz a o _ bF,by rw[zj,x2.len];exact zd _⟩
  ·cases e
 ·cases e
end
section
variable {prog:Program}{w:World}{A:Around}{E:Value->Shared->Prop}{s:Shared}
theorem Wa{x:Str}{t:Tok}{stored:List Value}{Q:Bool->Shared->Prop}(hst:∀v∈stored,∃k' b,v=.ref b/\(tupleKind (cR prog w)).is s.heap k' b)(h:Q false s):wpAny (model prog w) A (tableMayTell (.str x t) stored) Q E s:=by
 unfold tableMayTell
 split
 ·exact zc h
 ·refine za (jp (a:=true) rfl ?_);simp only[Bool.not_true,Bool.false_eq_true,if_false];refine za ?_;refine wpAny_forIn_list _ (λrest r s'=>s'=s/\r=(none,())/\∀v∈rest,∃k' b,v=.ref b/\(tupleKind (cR prog w)).is s.heap k' b) _ ?_ ?_ _ _ ⟨rfl,rfl,hst⟩
  ·rintro y rest r s' ⟨rfl,rfl,hr⟩;obtain⟨k',b,rfl,hb⟩:=hr y zr;refine za ((tupleKind (cR prog w)).quiet hb ?_);simp only[Bool.not_true,Bool.false_eq_true,if_false];exact zc ⟨rfl,rfl,λv hv=>hr v (zD _ hv)⟩
  ·rintro r s' ⟨rfl,rfl,_⟩;exact zc h
theorem Wb{d:Addr}{o:Obj}{es:Array DictEntry}{ep:Nat}{xs:List (List Key×Addr×Value)}{x:Str}{t:Tok}{hs:Int}{Q:Option Nat->Shared->Prop}(ho:s.heap.get? d=some o)(hd:o.data=.dict es ep)(he:es.toList=xs.map (entryOfKey (tupleKind (cR prog w))))
  (his:∀y∈xs,(tupleKind (cR prog w)).is s.heap y.1 y.2.1) (heq:∀y∈xs,SeqAt.EqAt A s (.ref y.2.1) (.str x t) false) (hQ:Q none s):wpAny (model prog w) A (dictFind d (.str x t) hs) Q E s:=by
 have hmem:∀e∈es,∃y∈xs,e=entryOfKey (tupleKind (cR prog w)) y:=by
  intro e hin
  have:e∈xs.map (entryOfKey (tupleKind (cR prog w))):=he ▸ Array.mem_toList_iff.mpr hin
  obtain⟨y,hy,rfl⟩:=zX.mp this;exact⟨y,hy,rfl⟩
 have hk:∀(i:Nat) e,es[i]?=some e->SeqAt.EqAt A s e.key (.str x t) false:=λi e hei=>by
  obtain⟨y,hy,rfl⟩:=hmem e (Array.mem_of_getElem? hei);exact heq y hy
 have hst:∀v∈(placesWithHash es.size (λi=>es[i]?.map (·.hash)) hs).filterMap (λi=>es[i]?.map (·.key)),∃k' b,v=.ref b/\(tupleKind (cR prog w)).is s.heap k' b:=by
  intro v hv;obtain⟨i,_,hi⟩:=List.mem_filterMap.mp hv
  cases hei:es[i]? with
  |none=>rw[hei] at hi;cases hi
  |some e =>
   rw[hei] at hi
   obtain rfl:e.key=v:=by simpa using hi
   obtain⟨y,hy,rfl⟩:=hmem e (Array.mem_of_getElem? hei);exact⟨y.1,y.2.1,rfl,his y hy⟩
 unfold dictFind
 try with_reducible refine zQ ?_
 refine za (wpAny_dictEntries ho hd ?_);dsimp only
 by_cases hall:(es.all λe=>isExactStrKey e.key)=true
 ·rw[if_pos hall]
  have hz:es = #[]:=by
   cases xs with
   |nil =>
    have:es.toList=[]:=he
    simpa using this
   |cons y ys =>
    have:entryOfKey (tupleKind (cR prog w)) y∈es:=by
     rw[<-Array.mem_toList_iff,he];exact zr
    have h2:=(Array.all_eq_true_iff_forall_mem.mp hall) _ this;exact Bool.noConfusion h2
  subst hz;unfold foundByValue;rw[show Array.findIdx? (λe:DictEntry=>e.key.isStr x) #[]=none by simp];exact zc hQ
 ·rw[if_neg hall]
  by_cases hc:((Value.str x t::(placesWithHash es.size (λi=>es[i]?.map (·.hash)) hs).filterMap (λi=>es[i]?.map (·.key))).all carriedByValue)=true
  ·rw[if_pos hc];refine za ?_;refine wpAny_forIn_list _ (λrest b s'=>s'=s/\b=(none,())) _ ?_ ?_ _ _ ⟨rfl,rfl⟩
   ·rintro i rest b s' ⟨rfl,rfl⟩
    cases hei:es[i]? with
    |none=>exact zc ⟨rfl,rfl⟩
    |some e =>
     dsimp only
     by_cases hh:(e.hash == hs)=true
     ·rw[if_pos hh];refine za (wpAny_dictEpoch ho hd (za (hk i e hei prog w E _ (za (wpAny_dictEpoch ho hd ?_)))));show wpAny _ _ (if(ep != ep)=true then _ else _) _ E _;rw[if_neg (by simp)];simp only[Bool.false_eq_true,if_false]
      first
       | exact za (zR (zc ⟨rfl,rfl⟩))
       | exact za (zc (za (zR (zc ⟨rfl,rfl⟩))))
     ·rw[if_neg hh];exact zc ⟨rfl,rfl⟩
   ·rintro b s' ⟨rfl,rfl⟩;exact zc hQ
  ·rw[if_neg hc]
   by_cases hone:(((placesWithHash es.size (λi=>es[i]?.map (·.hash)) hs).filterMap (λi=>es[i]?.map (·.key))) == [Value.str x t])=true
   ·exfalso
    have e:=eq_of_beq hone;obtain⟨k',b,z,_⟩:=hst (.str x t) (by rw[e];exact zr);cases z
   ·rw[if_neg hone];refine za (Wa hst ?_);rw[if_neg (by simp)];refine za ?_;refine wpAny_forIn_list _ (λrest b s'=>s'=s/\b=(none,none)) _ ?_ ?_ _ _ ⟨rfl,rfl⟩
    ·rintro i rest b s' ⟨rfl,rfl⟩
     cases hei:es[i]? with
     |none=>exact zc ⟨rfl,rfl⟩
     |some e =>
      dsimp only
      by_cases hh:(e.hash == hs)=true
      ·rw[if_pos hh];refine za (wpAny_dictEpoch ho hd (za (hk i e hei prog w E _ (za (wpAny_dictEpoch ho hd ?_)))));show wpAny _ _ (if(ep != ep)=true then _ else _) _ E _;rw[if_neg (by simp)];simp only[Bool.false_eq_true,if_false];refine za (zR ?_)
       first | rw[if_neg (by simp)] | skip
       first
        | exact zc ⟨rfl,rfl⟩
        | exact za (zc (zc ⟨rfl,rfl⟩))
      ·rw[if_neg hh];exact zc ⟨rfl,rfl⟩
    ·rintro b s' ⟨rfl,rfl⟩;exact zc hQ
end
def nO:Key->PyData
 | .inl i=>.int i
 | .inr x=>.str x
def rm:Key->Bool
 | .inl _=>true
 | .inr _=>false
theorem HX{K:Frag}{H:Hp}:∀ks:List Key,aU K H (ks.map kV) (ks.map nO)
 | []=>aU.nil
 |k::ks=>by
  rw[zh,zh,aU];refine⟨_,_,rfl,?_,HX ks⟩
  cases k with
  |inl i=>show Rep K H (.int i) (.int i);rw[Rep]
  |inr x=>show Rep K H (.str x) (.str x);rw[Rep]
theorem HY:∀ks:List Key,ks.all rm=true->PyData.canLayAll0 (ks.map nO)=true/\PyData.depthAll (ks.map nO)<=5
 | [],_=>⟨rfl,by simp[PyData.depthAll]⟩
 |k::ks,h=>by
  rw[List.all_cons,zw] at h;obtain⟨a,b⟩:=HY ks h.2
  cases k with
  |inl i =>
   refine⟨?_,?_⟩
   ·show((PyData.int i).canLay0&&PyData.canLayAll0 (ks.map nO))=true;rw[a];rfl
   ·show PyData.depthAll (PyData.int i::ks.map nO)<=5;simp[PyData.depthAll,PyData.depth];omega
  |inr x=>exact Bool.noConfusion h.1
section
variable {X:Cx}{pins:List (Addr×Obj)}{σ:St}{H:Hp}{s:Shared}{a:Addr}
theorem Wc{k:Nat}{A:Around}{E:Value->Shared->Prop}{x:Str}{t:Tok}{r:Value}{kvs:List (List Key×V)}{Q:Unit->Shared->Prop}(hu:A.units+20<cLine)(I:Inv X pins σ H s)(e:H a=some (.dT kvs))(hi:∀p∈kvs,p.1.all rm=true)(hx:(PyData.str x).canLay0=true)
  (h:∀s',Inv X pins σ (upd H a (.ext λ_=>True)) s'->Q () s'):wpAny (model X.prog X.w) A (setItem (.ref a) (.str x t) r) Q E s:=by
 obtain⟨z,hd,xs,rel,dd⟩:=xn I.hok e;have hl:=Paired.length rel;obtain⟨o,es,ep,ho,hc,hdat,he,his,hn⟩:=id dd
 have hes:es.size=xs.length:=by rw[<-Array.length_toList,he,zj]
 have heq:∀y∈xs,∀(A':Around) (n:Nat),A'.units+15<cLine->SeqAt.EqAt A' {s with toks:=n} (.ref y.2.1) (.str x t) false:=λy hy A' n hu'=>by
  obtain⟨i,hi1⟩:=List.getElem?_of_mem hy;have hlt:=(zl.mp hi1).1
  have hlt':i<kvs.length:=by omega
  have q:=yj rel (zu hlt') hi1
  have rp:Rep X.K H (.ref y.2.1) (.tuple (kvs[i].1.map nO)):=by
   rw[Rep];exact⟨_,_,rfl,.inl (.inl q.2.1),HX _⟩
  obtain⟨cs,rd⟩:=Rep.reads I _ rp (show RelV (.ref y.2.1) (.ref y.2.1) from rfl);obtain⟨l1,l2⟩:=HY kvs[i].1 (hi _ (jk hlt'))
  exact SeqAt.eqAt_reads (.tuple (kvs[i].1.map nO)) (.str x) A' {s with toks:=n} (.ref y.2.1) (.str x t) cs [] rd (.str x t) l1 hx (by
   have:(PyData.str x).depth<=5:=by simp[PyData.depth]
   omega)
 unfold setItem
 try with_reducible refine zQ ?_
 refine za (wpAny_sequenceKey dd.typeIs (by decide) ?_)
 refine za (wpAny_callSpecial?_slot (name:=Str.ofString "__setitem__") dd.typeIs slot_dict_setitem
  (wpAny_call_entry slot_dict_setitem dd.typeIs entry_dict_setitem ?_ (args_dict_setitem _ _ _)))
 show wpAny _ _ (Builtin.Dict.notOrdered "__setitem__" ⟨[.ref a,.str x t,r],[]⟩ >>= _) _ _ s;refine za (wpAny_notOrdered_dict dd.typeIs ?_);show wpAny _ _ (dictSet a (.str x t) r >>= _) _ _ s;refine za ?_;unfold dictSet
 try with_reducible refine zQ ?_
 refine za (wpAny_pyHash_str ?_);unfold dictSetHashed
 try with_reducible refine zQ ?_
 refine za (Wb (s:={s with toks:=s.toks+1}) ho hdat he his (λy hy=>heq y hy _ _ (by show A.units+1+15<cLine;omega)) ?_);refine za (zR (wpAny_updateDictKeys (hz:=by omega) (s:={s with toks:=s.toks+1}) ho hdat ?_));refine zc ⟨.none,rfl,zc (h _ ?_)⟩;have he':∃q,(s.heap.update a (Obj.mapDictKeys λx_1=>x_1.push {hash:=hashStr X.w x,key:=Value.str x t,val:=r})).get? a=some q:=⟨_,Heap.get?_update_self _ ho (Obj.isFreed_of_dict (Obj.data_mapDictKeys hdat _))⟩;exact tV (s:=s) (t':=s.toks+1) (ob:=.ext λ_=>True) I (by rw[e];exact True.intro) (Heap.SameBut.update ..) he' ⟨True.intro,he',λ_ _ _ _=>True.intro⟩
end
section
variable {X:Cx}{md:List Md}{P:Pt}{R:RR}
def Wd(x:Str)(td tv:TE):TS:=λD σ H=>tv σ H λv H1=>td σ H1 λy H2=>∃a kvs,y=.ref a/\H2 a=some (.dT kvs)/\(∀p∈kvs,p.1.all rm=true)/\D.nx σ (upd H2 a (.ext λ_=>True))
theorem We{k:Nat}(hr:aX k X.A){o value:Expr}{x:Str}{j:Nat}{p pos pos':Pos}{td tv:TE}(ho:PE X o td)(hv:PE X value tv)(hx:(PyData.str x).canLay0=true)(hs:swapsWith value (some (.Subscript o (.Constant (.str x) j p) pos')) pos.line X.env=pure false):
  PS X (.Assign [.Subscript o (.Constant (.str x) j p) pos'] value pos) (Wd x td tv):=by
 intro pins s σ H D I h;refine wpAny_Assign_Subscript (thn (hv pins s σ H _ I h) λr s1 ⟨v,H1,I1,rv,q1⟩=>thn (ho pins s1 σ H1 _ I1 q1) λu s2 ⟨y,H2,I2,ry,a,kvs,ey,e,hi,q2⟩=>Calls.Constant_str ?_) hs;subst ey;obtain rfl:u=Value.ref a:=ry
 exact Wc (k:=k) (by have:=hr.units;omega) (I2.tok _) e hi hx λs4 I4=>⟨σ,_,I4,q2⟩
def rn(mo mv:M D):MS:=λρ O=>match mv ρ O with
 | .ok _ O1=>match mo ρ O1 with
  | .ok (.ob n) O2=>match O2[n]? with
   |some (.dt kvs)=>if(kvs.all λp=>p.1.all rm)=true then .nx ρ (O2.set n .gone) else .no
   | _=>.no
  | _=>.no
 | _=>.no
theorem Wf{k:Nat}(hr:aX k X.A){o value:Expr}{x:Str}{j:Nat}{p pos pos':Pos}{mo mv:M D}(ho:VE X md P o mo)(hv:VE X md P value mv)(hx:(PyData.str x).canLay0=true:=by decide +kernel)
  (hs:swapsWith value (some (.Subscript o (.Constant (.str x) j p) pos')) pos.line X.env=pure false:=by rfl):VS X md P R (.Assign [.Subscript o (.Constant (.str x) j p) pos'] value pos) (rn mo mv):=(We hr ho hv hx hs).imp λD σ H q=>by
 obtain⟨ρ,O,F,as,r,s,k⟩:=q;unfold rn at k;split at k
 ·rename_i d O1 e1;split at k
  ·rename_i n O2 e2;split at k
   ·rename_i kvs e3;split at k
    ·rename_i hall;refine⟨ρ,_,F,as,_,_,r,s,e1,λv H1 F1 as1 g1 r1 hv=>?_⟩;refine⟨ρ,_,F1,as1,_,_,r1,s.step g1,e2,λu H2 F2 as2 g2 r2 hu=>?_⟩;obtain⟨a,rfl,ha⟩:=Rp.unO hu;obtain⟨xs,x1,x2⟩:=r2.dt ha e3;have g3:Gr H2 F2 as2 (upd H2 a (.ext λ_=>True)) F2 as2:=nG (zO ha) x1;refine⟨a,xs,rfl,x1,λp hp=>?_,k σ _ F2 as2 ((g1.trans g2).trans g3).toS (r2.mutG ha ⟨_,bF⟩) (s.step ((g1.trans g2).trans g3))⟩;obtain⟨i,hi⟩:=List.getElem?_of_mem hp
     have h1:(kvs.map (·.1))[i]?=some p.1:=by rw[<-x2.1,zy,hi];rfl
     rw[zy] at h1
     cases hk:kvs[i]? with
     |none=>rw[hk] at h1;cases h1
     |some q =>
      rw[hk] at h1;have h2:q.1=p.1:=zE h1;rw[<-h2];exact jq.mp hall q (zO hk)
    ·exact False.elim k
   ·exact False.elim k
  ·exact False.elim k
 ·exact False.elim k
end
section
variable {prog:Program}{w:World}{A:Around}{E:Value->Shared->Prop}{s:Shared}
theorem H9{it t:Addr}{i:Nat}{items:Array Value}{x:Value}{Q:Value->Shared->Prop}(hit:s.heap.IsTupleIter it t i)(ht:s.heap.IsTuple t items)(hx:items[i]?=some x)
  (hQ:∀h',h'.IsTupleIter it t (i+1)->Heap.SameBut it s.heap h'->Q x {s with heap:=h'}):wpAny (model prog w) A (Builtin.SmallTypes.nextOf (.ref it)) Q E s:=by
 obtain⟨o,ho,hc,hd⟩:=id hit;obtain⟨ol,hol,_,nl,hdl⟩:=ht
 have go:∀{R:PySem.Fin->Shared->Prop}{E':Value->Shared->Prop},(∀h',h'.IsTupleIter it t (i+1)->Heap.SameBut it s.heap h'->R (.done (.ret x)) {s with heap:=h'})->wpAny (model prog w) A.in1 (Builtin.«tuple_iterator.__next__» ⟨[.ref it],[]⟩) R E' s:=λ{R E'} hR=>by
  show wpAny _ _ (field (.ref it) 0 >>= _) _ _ s;refine za (wpAny_field ho hd (x:=.ref t) rfl ?_);show wpAny _ _ (if(Value.ref t == Value.none)=true then _ else _) _ _ s;rw[if_neg (λz=>by cases z)];show wpAny _ _ (field (.ref it) 1 >>= _) _ _ s;refine za (wpAny_field ho hd (x:=.int i 0) rfl ?_);show wpAny _ _ (seqItems? (.ref t) >>= _) _ _ s;refine za (wpAny_seqItems hol hdl ?_);simp only[Int.toNat_natCast,hx];refine za (wpAny_setField ho hd (by simp) (zc (hR _ ⟨_,Heap.get?_update_self _ ho (Obj.isFreed_of_fields (Obj.data_mapFields hd _)),(Obj.cls_mapFields ..).trans hc,?_⟩ (Heap.SameBut.update ..))))
  rw[Obj.data_mapFields hd];simp[rawInt]
 unfold Builtin.SmallTypes.nextOf;refine za (wpAny_callSpecial?_slot (name:=Str.ofString "__next__") hit.typeIs PySem.F.slot_tuple_iterator_next (wpAny_call_entry PySem.F.slot_tuple_iterator_next hit.typeIs PySem.F.entry_tuple_iterator_next (go λh' a b=>⟨x,rfl,zc (hQ h' a b)⟩) (PySem.F.args_tuple_iterator_next_1 _)))
theorem Wg{it t:Addr}{i:Nat}{items:Array Value}{Q:Value->Shared->Prop}(hh:A.handled=none)(hit:s.heap.IsTupleIter it t i)(ht:s.heap.IsTuple t items)(hx:items[i]?=none)
  (hE:∀h' e,Heap.ExtBut it s.heap h'->(∃o,h'.get? e=some o/\o.cls=.type "StopIteration")->E (.ref e) {s with heap:=h'}):wpAny (model prog w) A (Builtin.SmallTypes.nextOf (.ref it)) Q E s:=by
 obtain⟨o,ho,hc,hd⟩:=id hit;obtain⟨ol,hol,_,nl,hdl⟩:=ht;unfold Builtin.SmallTypes.nextOf;refine za (wpAny_callSpecial?_slot (name:=Str.ofString "__next__") hit.typeIs PySem.F.slot_tuple_iterator_next (wpAny_call_entry PySem.F.slot_tuple_iterator_next hit.typeIs PySem.F.entry_tuple_iterator_next ?_ (PySem.F.args_tuple_iterator_next_1 _)));show wpAny _ _ (field (.ref it) 0 >>= _) _ _ s;refine za (wpAny_field ho hd (x:=.ref t) rfl ?_);show wpAny _ _ (if(Value.ref t == Value.none)=true then _ else _) _ _ s;rw[if_neg (λz=>by cases z)];show wpAny _ _ (field (.ref it) 1 >>= _) _ _ s;refine za (wpAny_field ho hd (x:=.int i 0) rfl ?_)
 show wpAny _ _ (seqItems? (.ref t) >>= _) _ _ s;refine za (wpAny_seqItems hol hdl ?_);simp only[Int.toNat_natCast,hx];refine za (zR (za (wpAny_setField ho hd (by simp) ?_)));show wpAny _ _ (newExc (.type "StopIteration") [] >>= _) _ _ _;refine za ?_;simp only[newExc,newTuple];refine za (wpAny_newObj_type ?_ (by size_fits));refine za (m:=firstArgMember _ _) (jp (a:=Value.none) (by first | rfl | (simp only[firstArgMember];rfl)) ?_);refine wpAny_newObj_type ?_ (by size_fits);simp only[raiseNew];refine za (wpAny_handled ?_)
 first | rw[show A.in1.handled=none from hh] | rw[hh]
 refine za (zc (wpAny_throw ?_));exact hE _ _ (((Heap.SameBut.update ..).extBut.push _).push _) ⟨_,zB _ rfl,rfl⟩
structure ZT(h:Heap)(z TI TO i1 i2 l1 l2 k1 k2:Nat)(xs ys:Array Value):Prop where
 z:IsZip h z TI TO .none
 ti:IsPair h TI (.ref i1) (.ref i2)
 to:∃a b,IsPair h TO a b
 h1:h.IsTupleIter i1 l1 k1
 h2:h.IsTupleIter i2 l2 k2
 t1:h.IsTuple l1 xs
 t2:h.IsTuple l2 ys
theorem rE{h h':Heap}{l b:Addr}{xs:Array Value}(x:h.IsTuple l xs)(hs:Heap.ExtBut b h h')(ne:l≠b):h'.IsTuple l xs:=let ⟨o,ho,r⟩:=x;⟨o,hs l o ne ho,r⟩
theorem Wh{z TI TO i1 i2 l1 l2:Addr}{k1 k2:Nat}{xs ys:Array Value}{x y:Value}{Q:Option Value->Shared->Prop}(D:ZipApart z TI TO i1 i2 l1 l2)(T:ZT s.heap z TI TO i1 i2 l1 l2 k1 k2 xs ys)(hx:xs[k1]?=some x)(hy:ys[k2]?=some y)
  (hQ:∀h',IsZip h' z TI TO (rawInt s.heap.objs.size)->IsPair h' TO x y->h'.IsTupleIter i1 l1 (k1+1)->h'.IsTupleIter i2 l2 (k2+1)->IsPair h' s.heap.objs.size x y->h'.objs.size=s.heap.objs.size+1 ->
   (∀c o,c≠z->c≠TO->c≠i1->c≠i2->s.heap.get? c=some o->h'.get? c=some o)->Q (some (.ref s.heap.objs.size)) {s with heap:=h'}):wpAny (model prog w) A (pyNext (.ref z)) Q E s:=by
 obtain⟨hz,hTI,⟨a,b,hTO⟩,h1,h2,hl1,hl2⟩:=T;have hT:s.TypeIs (.ref z) "zip":=⟨_,hz,rfl⟩;unfold pyNext;refine za (wpAny_attempt (wpAny_callSpecial?_slot (name:=Str.ofString "__next__") hT PySem.F.slot_zip_next (wpAny_call_entry PySem.F.slot_zip_next hT PySem.F.entry_zip_next ?_ (PySem.F.args_zip_next_1 _))));show wpAny _ _ (field (.ref z) 2 >>= _) _ _ _;refine za (wpAny_field hz rfl (x:=.bool false) rfl ?_);show wpAny _ _ (field (.ref z) 3 >>= _) _ _ _;refine za (wpAny_field hz rfl (x:=.ref TI) rfl (za (wpAny_seqItems hTI rfl ?_)));show wpAny _ _ (Builtin.SmallTypes.ownedTupleIsFree (.ref z) >>= _) _ _ _
 refine za ?_;unfold Builtin.SmallTypes.ownedTupleIsFree;refine za (wpAny_field hz rfl (x:=.none) rfl (zc ?_));simp only[if_true];refine za (zR (za (wpAny_field hz rfl (x:=.ref TO) rfl (za (wpAny_setField_rec hz (by simp) λha hza hsa=>?_)))));have hza':IsZip ha z TI TO .ellipsis:=hza;refine za ?_;simp only[List.zipIdx_cons,List.zipIdx_nil,List.forIn_cons,List.forIn_nil];refine za (za (wpAny_onRaise ?_));show wpAny _ _ (Builtin.SmallTypes.nextOf (.ref i1) >>= _) _ _ _;refine za (H9 (h1.extBut hsa.extBut D.i1z) (rE hl1 hsa.extBut D.l1z) hx λhb h1b hsb=>zc ?_);have tob:IsPair hb TO a b:=hsb.extBut _ _ D.TOi1 (hsa.extBut _ _ D.TOz hTO)
 refine za (wpAny_seqItems tob rfl (za (wpAny_updateSeq_pair tob λhc toc hsc=>?_)));have toc':IsPair hc TO x b:=toc;refine za (jm (zc (za (za (wpAny_onRaise ?_)))));show wpAny _ _ (Builtin.SmallTypes.nextOf (.ref i2) >>= _) _ _ _;refine za (H9 (((h2.extBut hsa.extBut D.i2z).extBut hsb.extBut D.i12.symm).extBut hsc.extBut D.TOi2.symm) (rE (rE (rE hl2 hsa.extBut D.l2z) hsb.extBut D.l2i1) hsc.extBut D.l2TO) hy λhd h2d hsd=>zc ?_);have tod:IsPair hd TO x b:=hsd.extBut _ _ D.TOi2 toc';refine za (wpAny_seqItems tod rfl (za (wpAny_updateSeq_pair tod λhe toe hse=>?_)));have toe':IsPair he TO x y:=toe
 refine za (jm (zc (zc (za (wpAny_seqItems toe' rfl (za (wpAny_newTuple ?_)))))))
 have hsz:he.objs.size=s.heap.objs.size:=by rw[hse.1,hsd.1,hsc.1,hsb.1,hsa.1]
 have ze:IsZip he z TI TO .ellipsis:=hse.extBut _ _ D.TOz.symm (hsd.extBut _ _ D.i2z.symm (hsc.extBut _ _ D.TOz.symm (hsb.extBut _ _ D.i1z.symm hza')))
 have ke:∀c o,c≠z->c≠TO->c≠i1->c≠i2->s.heap.get? c=some o->he.get? c=some o:=λc o c1 c2 c3 c4 e=>hse.extBut _ _ c2 (hsd.extBut _ _ c4 (hsc.extBut _ _ c2 (hsb.extBut _ _ c3 (hsa.extBut _ _ c1 e))))
 have i1e:he.IsTupleIter i1 l1 (k1+1):=((h1b.extBut hsc.extBut D.TOi1.symm).extBut hsd.extBut D.i12).extBut hse.extBut D.TOi1.symm;have i2e:he.IsTupleIter i2 l2 (k2+1):=h2d.extBut hse.extBut D.TOi2.symm;have zlt:z<he.objs.size:=zo ze;show wpAny _ _ (Builtin.SmallTypes.ownedTupleHandOut (.ref z) (.ref he.objs.size) >>= _) _ _ _;refine za ?_;unfold Builtin.SmallTypes.ownedTupleHandOut;have zf:IsZip (he.push {cls:=.type "tuple",data:=.seq #[x,y]}) z TI TO .ellipsis:=zn _ ze;refine za (wpAny_setField_rec zf (by simp) λhg zg hsg=>?_);have zg':IsZip hg z TI TO (rawInt he.objs.size):=zg
 refine wpAny_setField_rec zg' (by simp) λhk zk hsk=>?_
 have zk':IsZip hk z TI TO (rawInt he.objs.size):=zk
 have up:∀c o,c≠z->he.get? c=some o->hk.get? c=some o:=λc o c1 e=>hsk.extBut _ _ c1 (hsg.extBut _ _ c1 (zn _ e))
 have tk:IsPair hk he.objs.size x y:=hsk.extBut _ _ (Nat.ne_of_gt zlt) (hsg.extBut _ _ (Nat.ne_of_gt zlt) (zB _ rfl))
 have sk:hk.objs.size=he.objs.size+1:=by rw[hsk.1,hsg.1,Heap.size_push]
 rw[hsz] at zk' tk sk;refine zc ⟨_,rfl,zc ?_⟩;show Q (some (.ref he.objs.size)) _;rw[hsz]
 exact hQ hk zk' (up _ _ D.TOz toe') (i1e.at λo e=>up _ o D.i1z e) (i2e.at λo e=>up _ o D.i2z e) tk sk λc o c1 c2 c3 c4 e=>up c o c1 (ke c o c1 c2 c3 c4 e)
theorem Wi{z TI TO i1 i2 l1 l2:Addr}{k1 k2:Nat}{xs ys:Array Value}{Q:Option Value->Shared->Prop}(hh:A.handled=none)(D:ZipApart z TI TO i1 i2 l1 l2)(T:ZT s.heap z TI TO i1 i2 l1 l2 k1 k2 xs ys)(hx:xs[k1]?=none)
  (hQ:∀h',(∀c o,c≠z->c≠i1->s.heap.get? c=some o->h'.get? c=some o)->Q none {s with heap:=h'}):wpAny (model prog w) A (pyNext (.ref z)) Q E s:=by
 obtain⟨hz,hTI,⟨a,b,hTO⟩,h1,h2,hl1,hl2⟩:=T;have hT:s.TypeIs (.ref z) "zip":=⟨_,hz,rfl⟩;unfold pyNext;refine za (wpAny_attempt (wpAny_callSpecial?_slot (name:=Str.ofString "__next__") hT PySem.F.slot_zip_next (wpAny_call_entry PySem.F.slot_zip_next hT PySem.F.entry_zip_next ?_ (PySem.F.args_zip_next_1 _))));show wpAny _ _ (field (.ref z) 2 >>= _) _ _ _;refine za (wpAny_field hz rfl (x:=.bool false) rfl ?_);show wpAny _ _ (field (.ref z) 3 >>= _) _ _ _;refine za (wpAny_field hz rfl (x:=.ref TI) rfl (za (wpAny_seqItems hTI rfl ?_)));show wpAny _ _ (Builtin.SmallTypes.ownedTupleIsFree (.ref z) >>= _) _ _ _
 refine za ?_;unfold Builtin.SmallTypes.ownedTupleIsFree;refine za (wpAny_field hz rfl (x:=.none) rfl (zc ?_));simp only[if_true];refine za (zR (za (wpAny_field hz rfl (x:=.ref TO) rfl (za (wpAny_setField_rec hz (by simp) λha hza hsa=>?_)))));have hza':IsZip ha z TI TO .ellipsis:=hza;refine za ?_;simp only[List.zipIdx_cons,List.zipIdx_nil,List.forIn_cons,List.forIn_nil];refine za (za (wpAny_onRaise ?_));show wpAny _ _ (Builtin.SmallTypes.nextOf (.ref i1) >>= _) _ _ _;refine za (Wg hh (h1.extBut hsa.extBut D.i1z) (rE hl1 hsa.extBut D.l1z) hx λhb e hsb ⟨oe,hoe,hce⟩=>?_);have zb:IsZip hb z TI TO .ellipsis:=hsb _ _ D.i1z.symm hza'
 have hez:e≠z:=λq=>by subst q;rw[zb] at hoe;cases hoe;simp at hce
 refine wpAny_setField_rec zb (by simp) λhc _ hsc=>?_
 refine za (wpAny_isInstance (T:="StopIteration") (b:=true) ⟨oe,hsc.extBut _ _ hez hoe,hce⟩ isSubtype_stop ?_);exact zc (hQ _ λc o c1 c2 q=>hsc.extBut _ _ c1 (hsb _ _ c2 (hsa.extBut _ _ c1 q)))
end
abbrev zt1(h:Heap)(l1:Addr):Heap:=h.push {cls:=.type "tuple_iterator",data:=.fields #[.ref l1,.int 0 0]}
abbrev zt2(h:Heap)(l1 l2:Addr):Heap:=(zt1 h l1).push {cls:=.type "tuple_iterator",data:=.fields #[.ref l2,.int 0 0]}
abbrev zt3(h:Heap)(l1 l2:Addr):Heap:=(zt2 h l1 l2).push {cls:=.type "tuple",data:=.seq #[.ref h.objs.size,.ref (zt1 h l1).objs.size]}
abbrev zt4(h:Heap)(l1 l2:Addr):Heap:=(zt3 h l1 l2).push {cls:=.type "tuple",data:=.seq #[.none,.none]}
abbrev zt5(h:Heap)(l1 l2:Addr):Heap:=(zt4 h l1 l2).push {cls:=.type "zip",data:=.fields #[.none,.bool false,.bool false,.ref (zt2 h l1 l2).objs.size,.ref (zt3 h l1 l2).objs.size]}
theorem Wj(l1 l2:Addr)(xs ys:Array Value):Meets (Builtin.«zip.__new__» ⟨[.type "zip",.ref l1,.ref l2],[]⟩) (λ_ R s=>s.heap.IsTuple l1 xs/\s.heap.IsTuple l2 ys/\R (.ok (.ret (.ref (zt4 s.heap l1 l2).objs.size))) {s with heap:=zt5 s.heap l1 l2}):=
 .of_wp λprog w A R s h=>by
  obtain⟨hp,g,d,tk,os⟩:=s;obtain⟨hl1,hl2,h⟩:=h;have hsub:=sub_zip;have hL1:Heap.IsTuple (Shared.heap ⟨hp,g,d,tk,os⟩) l1 xs:=hl1;have hL2:Heap.IsTuple (Shared.heap ⟨hp.push {cls:=.type "tuple_iterator",data:=.fields #[.ref l1,.int 0 0]},g,d,tk,os⟩) l2 ys:=let ⟨o,ho,r⟩:=hl2;⟨o,zn _ ho,r⟩
  wp_walk using wpAny_pyIter_tuple hL1,wpAny_pyIter_tuple hL2
  exact⟨_,rfl,h⟩
section
variable {prog:Program}{w:World}{A:Around}{E:Value->Shared->Prop}{s:Shared}
theorem Wl{l1 l2:Addr}{xs ys:Array Value}{Q:Value->Shared->Prop}(hl1:s.heap.IsTuple l1 xs)(hl2:s.heap.IsTuple l2 ys)
  (h:∀h',ZT h' (s.heap.objs.size+4) (s.heap.objs.size+2) (s.heap.objs.size+3) s.heap.objs.size (s.heap.objs.size+1) l1 l2 0 0 xs ys->(∀c o,s.heap.get? c=some o->h'.get? c=some o)->Q (.ref (s.heap.objs.size+4)) {s with heap:=h'}):
  wpAny (model prog w) A (call (.type "zip") [.ref l1,.ref l2]) Q E s:=by
 refine callType_new PySem.F.called_zip (by decide) (PySem.F.typeCall_zip_2 _ _) (PySem.F.newCall_zip_2 _ _) (λobj=>PySem.F.args_object_init_3 obj _ _) PySem.F.entry_zip_new (Wj l1 l2 xs ys) ⟨hl1,hl2,?_⟩;have z1:(zt1 s.heap l1).objs.size=s.heap.objs.size+1:=Heap.size_push ..
 have z2:(zt2 s.heap l1 l2).objs.size=s.heap.objs.size+2:=by rw[Heap.size_push,z1]
 have z3:(zt3 s.heap l1 l2).objs.size=s.heap.objs.size+3:=by rw[Heap.size_push,z2]
 have z4:(zt4 s.heap l1 l2).objs.size=s.heap.objs.size+4:=by rw[Heap.size_push,z3]
 have up:∀c o,s.heap.get? c=some o->(zt5 s.heap l1 l2).get? c=some o:=λc o x=>zn _ (zn _ (zn _ (zn _ (zn _ x))))
 have g5:(zt5 s.heap l1 l2).get? (zt4 s.heap l1 l2).objs.size=some _:=zB _ rfl;have g4:(zt5 s.heap l1 l2).get? (zt3 s.heap l1 l2).objs.size=some _:=zn _ (zB _ rfl);have g3:(zt5 s.heap l1 l2).get? (zt2 s.heap l1 l2).objs.size=some _:=zn _ (zn _ (zB _ rfl));have g2:(zt5 s.heap l1 l2).get? (zt1 s.heap l1).objs.size=some _:=zn _ (zn _ (zn _ (zB _ rfl)));have g1:(zt5 s.heap l1 l2).get? s.heap.objs.size=some _:=zn _ (zn _ (zn _ (zn _ (zB _ rfl))));show _/\_;rw[z2,z3,z4] at g5;rw[z1,z2] at g3;rw[z3] at g4;rw[z1] at g2;rw[z4];obtain⟨o1,p1,q1⟩:=hl1;obtain⟨o2,p2,q2⟩:=hl2;exact⟨⟨_,g5,rfl⟩,h _ ⟨g5,g3,⟨_,_,g4⟩,⟨_,g1,rfl,rfl⟩,⟨_,g2,rfl,rfl⟩,⟨o1,up _ _ p1,q1⟩,⟨o2,up _ _ p2,q2⟩⟩ up⟩
end
def Ia(K:Frag)(l1 l2:Addr):It:=⟨λi H=>∃xs ys x y,SqT K H l1 xs/\SqT K H l2 ys/\xs[i]?=some x/\ys[i]?=some y,
 λi H v H'=>∃T x y,v=.ref T/\H T=none/\H'=upd H T (.tup [x,y])/\(∀xs,SqT K H l1 xs->xs[i]?=some x)/\∀ys,SqT K H l2 ys->ys[i]?=some y,
 λi H=>∃xs ys,SqT K H l1 xs/\SqT K H l2 ys/\xs.length<=i⟩
theorem Wm{P:Program}{w:World}{K:Frag}{elts:List Expr}{x1}{pos:Pos}(z TI TO i1 i2 l1 l2:Addr)(D:ZipApart z TI TO i1 i2 l1 l2):Turn P w K (.Tuple elts x1 pos) (Ia K l1 l2) [z,TI,TO,i1,i2] z
  (λi h=>IsZip h z TI TO .none/\IsPair h TI (.ref i1) (.ref i2)/\(∃a b,IsPair h TO a b)/\h.IsTupleIter i1 l1 i/\h.IsTupleIter i2 l2 i) where
 mem:=by simp
 obj:=λi h st b hb=>by
  obtain⟨hz,hTI,⟨a,b',hTO⟩,⟨o1,ho1,hc1,hd1⟩,⟨o2,ho2,hc2,hd2⟩⟩:=st;simp only[zF,List.not_mem_nil,or_false] at hb
  rcases hb with rfl | rfl | rfl | rfl | rfl
  ·exact xU hz rfl
  ·exact⟨_,hTI,λv z=>nomatch z⟩
  ·exact⟨_,hTO,λv z=>nomatch z⟩
  ·exact xU ho1 hd1
  ·exact xU ho2 hd2
 keep:=λi h h' st k=>by
  obtain⟨hz,hTI,⟨a,b',hTO⟩,h1,h2⟩:=st;exact⟨k z (by simp) _ hz,k TI (by simp) _ hTI,⟨a,b',k TO (by simp) _ hTO⟩,h1.at λo e=>k i1 (by simp) o e,h2.at λo e=>k i2 (by simp) o e⟩
 item:=by
  intro X hP hw hK hc i pins s σ H E I hf st hg;subst hP hw hK;obtain⟨hz,hTI,hTO,h1,h2⟩:=st;obtain⟨xs,ys,x,y,hq1,hq2,hx,hy⟩:=hg;obtain⟨its1,rv1,pl1,hz1⟩:=I.tuple hq1;obtain⟨its2,rv2,pl2,hz2⟩:=I.tuple hq2;obtain⟨u1,hu1,ru1⟩:=rv1.get hx;obtain⟨u2,hu2,ru2⟩:=rv2.get hy;have hT:H s.heap.objs.size=none:=I.hok.fresh (zd _);have elt:z<s.heap.objs.size:=zo hz
  refine Wh D ⟨hz,hTI,hTO,h1,h2,pl1,pl2⟩ (x:=u1) (y:=u2) (by simpa using hu1) (by simpa using hu2) λh' a1 a2 a3 a4 a5 a6 hk=>⟨_,rfl,?_⟩
  refine wpAny_letOwnedTupleGo_zip a1 λh'' hz'' hs''=>⟨.ref s.heap.objs.size,_,?_,rfl,⟨s.heap.objs.size,x,y,rfl,hT,rfl,λys' hy'=>by rw[I.tuple_inj hy' hq1];exact hx,λys' hy'=>by rw[I.tuple_inj hy' hq2];exact hy⟩,⟨hz'',hs''.extBut _ _ D.TIz (hk _ _ D.TIz D.TITO D.TIi1 D.TIi2 hTI),⟨_,_,hs''.extBut _ _ D.TOz a2⟩,a3.extBut hs''.extBut D.i1z,a4.extBut hs''.extBut D.i2z⟩,λb hb=>?_⟩
  ·show Inv X pins σ _ {s with heap:=h'',toks:=s.toks};refine I.turnT (ch:=[z,TI,TO,i1,i2]) (us:=[u1,u2]) hf (λb o hb q=>?_) (zd _) ⟨_,hs''.extBut _ _ (Nat.ne_of_gt elt) a5,rfl,_,rfl⟩ (.cons ru1 (.cons ru2 .nil)) (by show 2<=sizeLine;decide)
   have n1:b≠z:=λe=>hb (by simp[e])
   exact hs''.extBut _ _ n1 (hk b o n1 (λe=>hb (by simp[e])) (λe=>hb (by simp[e])) (λe=>hb (by simp[e])) q)
  ·have q:=hf b hb;rw[aG (λe=>?_)]
   ·exact q.1
   ·obtain⟨o,ho⟩:∃o,s.heap.get? b=some o:=by
     obtain⟨o1,ho1,_⟩:=h1;obtain⟨o2,ho2,_⟩:=h2;obtain⟨a,b',hTO⟩:=hTO;simp only[zF,List.not_mem_nil,or_false] at hb
     rcases hb with rfl | rfl | rfl | rfl | rfl
     ·exact⟨_,hz⟩
     ·exact⟨_,hTI⟩
     ·exact⟨_,hTO⟩
     ·exact⟨_,ho1⟩
     ·exact⟨_,ho2⟩
    exact absurd (zo ho) (by rw[e];exact jd _)
 done:=by
  intro X hP hw hK hc i pins s σ H E I hf st hg;subst hP hw hK;obtain⟨hz,hTI,hTO,h1,h2⟩:=st;obtain⟨xs,ys,hq1,hq2,hl⟩:=hg;obtain⟨its1,rv1,pl1,hz1⟩:=I.tuple hq1;obtain⟨its2,rv2,pl2,hz2⟩:=I.tuple hq2;have l1':=rv1.length
  refine Wi (I.ok.hd hc) D ⟨hz,hTI,hTO,h1,h2,pl1,pl2⟩ (by simp;omega) λh' hx=>⟨rfl,?_⟩
  exact I.turnL (t':=s.toks) (ch:=[z,TI,TO,i1,i2]) hf λb o hb q=>hx b o (λe=>hb (by simp[e])) (λe=>hb (by simp[e])) q
 self:=λA i s Q E st h=>wpAny_pyIter_zip st.1 h
section
variable {X:Cx}{md:List Md}{P:Pt}{R:RR}{elts:List Expr}{x1:Nat}{tpos:Pos}
def Wn(K:Frag)(ta:TA):TI:=λσ H R=>ta σ H λvs H1=>∃a b,vs=[.ref a,.ref b]/\(∃xs,SqT K H1 a xs)/\(∃ys,SqT K H1 b ys)/\R (Ia K a b) H1
theorem Wo{a b:Expr}{ta:TA}{p pos:Pos}(hg:Gl X "zip")(hm:X.mg "zip" = none)(ha:PA X [a,b] ta)(hs:starEach [a,b] X.env=(false,eval a X.env)::starEach [b] X.env:=by exact dh rfl)(hpl:(backTo pos (starEach [b] X.env)).any (·.1)=false:=by exact dG rfl):
  PI X (.Tuple elts x1 tpos) (.Call (.Name "zip" p) [a,b] [] pos) (Wn X.K ta):=by
 intro pins s σ H R I h;refine Call_ (mH I hg hm boot_zip (PyProof.Rows.callWith_type1 (thn (ha pos pins s σ H _ I h) λus s1 ⟨vs,H1,I1,r1,q1⟩=>?_) hs hpl));obtain⟨l1,l2,e,⟨xs,hq1⟩,⟨ys,hq2⟩,q⟩:=q1;subst e;obtain⟨u1,u2,rfl,ru1,ru2⟩:=vals2 r1;cases ru1;cases ru2;obtain⟨its1,rv1,pl1,hz1⟩:=I1.tuple hq1;obtain⟨its2,rv2,pl2,hz2⟩:=I1.tuple hq2
 have a1:l1<s1.heap.objs.size:=by obtain⟨_,e,_⟩:=pl1;exact zo e
 have a2:l2<s1.heap.objs.size:=by obtain⟨_,e,_⟩:=pl2;exact zo e
 refine Wl pl1 pl2 λh' zt hk=>wpAny_pyIter_zip zt.z ?_
 refine⟨s1.heap.objs.size+4,[s1.heap.objs.size+4,s1.heap.objs.size+2,s1.heap.objs.size+3,s1.heap.objs.size,s1.heap.objs.size+1],_,_,H1,rfl,I1.kept (t':=s1.toks) hk,Wm _ _ _ _ _ l1 l2 (zipApart_new a1 a2),⟨zt.z,zt.ti,zt.to,zt.h1,zt.h2⟩,λb hb=>?_,q⟩
 have hb':s1.heap.objs.size<=b:=by
  simp only[zF,List.not_mem_nil,or_false] at hb
  rcases hb with rfl | rfl | rfl | rfl | rfl<;>first | exact jx _ _ | exact zd _
 exact I1.fpOk hb' (I1.hok.fresh hb')
def yG(ma mb:M D):M (List D):=λρ O=>(ma ρ O).bind λd O1=>(mb ρ O1).bind λe O2=>match d,e with
 | .tup ds,.tup es=>if ds.length=es.length then .ok (iB ds es) O2 else .no
 | _,_=>.no
theorem Ib:∀ds es:List D,ds.length=es.length->(iB ds es).length=ds.length
 | [],es,_=>rfl
 |d::ds,[],h=>by simp at h
 |d::ds,e::es,h=>by simp[iB];exact Ib ds es (by simpa using h)
theorem Wq{a b:Expr}{p pos:Pos}{ma mb:M D}(hm:X.mg "zip" = none)(h:VE X md P a ma)(h':VE X md P b mb)(hg:Gl X "zip":=by rfl)(hs:starEach [a,b] X.env=(false,eval a X.env)::starEach [b] X.env:=by exact dh rfl)(hs':starEach [b] X.env=(false,eval b X.env)::starEach [] X.env:=by exact dh rfl)(hpl:(backTo pos (starEach [b] X.env)).any (·.1)=false:=by exact dG rfl):
  VI X md P (.Tuple elts x1 tpos) (.Call (.Name "zip" p) [a,b] [] pos) (yG ma mb):=(Wo hg hm (gJ h (gJ h' jQ hs') hs) hs hpl).imp λσ H Q q=>by
 obtain⟨ρ,O,F,as,ds,O',r,s,e,k⟩:=q;obtain⟨d1,O1,e1,e⟩:=Res.bind_ok e;obtain⟨d2,O2,e2,e⟩:=Res.bind_ok e;split at e
 ·rename_i ds1 ds2;split at e
  ·rename_i hlen;cases e;refine⟨ρ,_,F,as,_,_,r,s,e1,λv H1 F1 as1 g1 r1 hv=>?_⟩;refine⟨ρ,_,F1,as1,_,_,r1,s.step g1,e2,λu H2 F2 as2 g2 r2 hu=>?_⟩;obtain⟨a,xs,rfl,h1,h2⟩:=Rp.unT hv;obtain⟨b,ys,rfl,h3,h4⟩:=Rp.unT hu
   have sq1:∀{H3 F3:Hp}{as3:List Addr},GrS P H2 F2 as2 H3 F3 as3->(∃O,RlO X.K X.mg O H3 F3 as3)->SqT X.K H3 a xs:=λg ⟨O,r⟩=>Same.seqT r.fh (Same.seqT (g2.toS.trans g).ff h1)
   have sq2:∀{H3 F3:Hp}{as3:List Addr},GrS P H2 F2 as2 H3 F3 as3->(∃O,RlO X.K X.mg O H3 F3 as3)->SqT X.K H3 b ys:=λg ⟨O,r⟩=>Same.seqT r.fh (Same.seqT g.ff h3)
   have h2':=h2.gr g2;refine⟨a,b,rfl,⟨xs,sq1 GrS.refl ⟨_,r2⟩⟩,⟨ys,sq2 GrS.refl ⟨_,r2⟩⟩,k _ H2 F2 as2 (g1.trans g2) r2 ⟨λi d H3 F3 as3 g r e=>?_,λH3 F3 as3 g r=>⟨xs,ys,sq1 g r,sq2 g r,?_⟩⟩⟩
   ·obtain⟨x',y',q1,q2,rfl⟩:=Hi _ _ _ _ e;obtain⟨x,hx,rx⟩:=h2'.get' q1;obtain⟨y,hy,ry⟩:=h4.get' q2;refine⟨⟨xs,ys,x,y,sq1 g r,sq2 g r,hx,hy⟩,λz H4 hz=>?_⟩;obtain⟨T,x2,y2,rfl,hT,rfl,hx2,hy2⟩:=hz;have t1:=hx2 xs (sq1 g r);have t2:=hy2 ys (sq2 g r);rw[hx] at t1;rw[hy] at t2;cases t1;cases t2;exact T3 r hT (Rps.cons (rx.grS g) (Rps.cons (ry.grS g) Rps.nil))
   ·rw[h2'.length,Ib _ _ hlen];exact zd _
  ·cases e
 ·cases e
end
section
variable {K:Frag}{h:Heap}{mg:Str->Option Value}
theorem mkD{x:Str}{st:Stmt}{f:Addr}{oc:Value}{od an:Option Addr}{sl:Array (Option Value)}{kV dc pm cd ct:Value}(X:K.In h)(G:h.Ns mainGlobals mg)(a:nsIn K mainGlobals x=some (some (.ref f)))(l:K.lookup f=some ⟨oc,od,.func (fnOf x x (gb st) (dz st) (aR st) .none kV dc pm an cd ct),sl⟩)(c:codeIn K cd x=true)(k:keepIn K (.ref f)=true):Def K mg x st:=⟨_,_,mg_of X G a,xg l c k⟩
structure ClsAt(K:Frag)(c:Str)(A:Addr):Prop where
 ns:nsIn K mainGlobals c=some (some (.ref A))
 pg:plainGet K A Str.empty=true
 hd:hasDictIn K A=true
 po:plainOver K A=true
 sa:findIn K (.ref A) "__setattr__" = some (some (.builtin "object.__setattr__"))
 mks:makesIn K A=true
 kc:keepIn K (.ref A)=true
def MethAt(K:Frag)(A:Addr)(m qual:Str)(st:Stmt):Prop:=∃f fd,findIn K (.ref A) m=some (some (.ref f))/\isFn K (.ref f)=true/\keepIn K (.ref f)=true/\Fun K m qual st f fd
theorem mkM{A:Addr}{m qual:Str}{st:Stmt}{f:Addr}{oc:Value}{od an:Option Addr}{sl:Array (Option Value)}{kV dc pm cd ct:Value}(a:findIn K (.ref A) m=some (some (.ref f)))(i:isFn K (.ref f)=true)(l:K.lookup f=some ⟨oc,od,.func (fnOf m qual (gb st) (dz st) (aR st) .none kV dc pm an cd ct),sl⟩)(c:codeIn K cd qual=true)(k:keepIn K (.ref f)=true):MethAt K A m qual st:=⟨_,_,a,i,k,xg l c k⟩
variable {A:Addr}{c:Str}
theorem ClsAt.cl(z:ClsAt K c A):Cls K A:=⟨z.pg,z.hd,z.po,z.sa⟩
theorem ClsAt.dm(z:ClsAt K c A)(X:K.In h)(G:h.Ns mainGlobals mg){m qual:Str}{st:Stmt}(q:MethAt K A m qual st):nD K mg c m qual st:=by
 obtain⟨f,fd,a,i,k,fu⟩:=q;exact⟨_,_,_,mg_of X G z.ns,z.cl,⟨a,i,k⟩,fu⟩
theorem ClsAt.dc(z:ClsAt K c A)(X:K.In h)(G:h.Ns mainGlobals mg){qual:Str}{st:Stmt}(q:MethAt K A "__init__" qual st):xZ K mg c qual st:=by
 obtain⟨f,fd,a,i,k,fu⟩:=q;exact⟨_,_,_,mg_of X G z.ns,⟨z.mks,a,i,z.kc⟩,fu⟩
theorem ClsAt.kf(z:ClsAt K c A)(X:K.In h)(G:h.Ns mainGlobals mg){f:Str}(n:findIn K (.ref A) f=some none):KC K mg c f:=⟨_,mg_of X G z.ns,z.cl,n⟩
end
end L2
namespace L2
open PySem PySem.Spec PyProof.Rows
section
variable {X:Cx}
end
def ofO(o:Option D)(O:aj):Res D:=match o with
 |some d=>.ok d O
 |none=>.no
@[simp] theorem d8{d:D}{O:aj}:ofO (some d) O=.ok d O:=rfl
@[simp] theorem aD{α β:Type}{a:α}{O:aj}{f:α->aj->Res β}:(Res.ok a O).bind f=f a O:=rfl
@[simp] theorem QwV{O:aj}:bz O .non=.non:=rfl
@[simp] theorem uG{O:aj}{b:Bool}:bz O (.bl b)=.bl b:=rfl
@[simp] theorem dj{O:aj}{b:Int}:bz O (.int b)=.int b:=rfl
@[simp] theorem QwN{O:aj}{b:List Nat}:bz O (.str b)=.str b:=rfl
@[simp] theorem lQ{O:aj}{b:List D}:bz O (.lst b)=.lst b:=rfl
@[simp] theorem QwS{O:aj}{b:List D}:bz O (.tup b)=.tup b:=rfl
@[simp] theorem QwQ{O:aj}{a b:List D}:bz O (.dic a b)=.dic a b:=rfl
@[simp] theorem dO{i:Nat}{ρ:aA}{O:aj}:aa i ρ O=(match ρ[i]? with | some (some d)=>.ok d O | _=>.no):=rfl
@[simp] theorem m_c{d:D}{ρ:aA}{O:aj}:mC d ρ O=.ok d O:=rfl
@[simp] theorem gn{g:D->D->Option D}{a b:M D}{ρ:aA}{O:aj}:aq g a b ρ O=(a ρ O).bind λx O1=>(b ρ O1).bind λy O2=>ofO (g (bz O2 x) (bz O2 y)) O2:=rfl
def gF(r:Res D):Res D:=match r with
 | .ok d O'=>if jW d=true then .ok d O' else .no
 |r=>r
@[simp] theorem m_g{m:M D}{ρ:aA}{O:aj}:mG m ρ O=gF (m ρ O):=rfl
@[simp] theorem Qyz{i:Int}{O:aj}:gF (.ok (.int i) O)=.ok (.int i) O:=rfl
@[simp] theorem QyA{i:List Nat}{O:aj}:gF (.ok (.str i) O)=.ok (.str i) O:=rfl
@[simp] theorem QyV{i:Bool}{O:aj}:gF (.ok (.bl i) O)=.ok (.bl i) O:=rfl
@[simp] theorem Qym{O:aj}:gF (.ok .non O)=.ok .non O:=rfl
@[simp] theorem QyQ{l:List D}{O:aj}:gF (.ok (.tup l) O)=.ok (.tup l) O:=rfl
@[simp] theorem QyU{n:Nat}{O:aj}:gF (.ok (.ob n) O)=.ok (.ob n) O:=rfl
def chF(o:Option D)(O:aj)(f:Unit->Res D):Res D:=match o with
 |some (.bl true)=>f ()
 |some (.bl false)=>.ok (.bl false) O
 | _=>.no
@[simp] theorem Qy2{b:Bool}{O:aj}{f:Unit->Res D}:chF (some (.bl b)) O f=if b=true then f () else .ok (.bl false) O:=by cases b<;>rfl
@[simp] theorem Qya{g g':D->D->Option D}{a b c:M D}{ρ:aA}{O:aj}:Gn g g' a b c ρ O=(a ρ O).bind λx O1=>(b ρ O1).bind λy O2=>chF (g (bz O2 x) (bz O2 y)) O2 λ_=>(c ρ O2).bind λz O3=>ofO (g' (bz O3 y) (bz O3 z)) O3:=by
 unfold Gn;congr 1
@[simp] theorem rF{m:M D}{ρ:aA}{O:aj}:cU m ρ O=(m ρ O).bind λd O1=>.ok (.bl (isNon d)) O1:=rfl
@[simp] theorem Ie{m:M D}{ρ:aA}{O:aj}:di m ρ O=(m ρ O).bind λd O1=>.ok (.bl (!isNon d)) O1:=rfl
@[simp] theorem QwR:isNon .non=true:=rfl
@[simp] theorem QwO{l:List D}:isNon (.lst l)=false:=rfl
@[simp] theorem QwW{l:List D}:isNon (.tup l)=false:=rfl
@[simp] theorem QwM{l:List Nat}:isNon (.str l)=false:=rfl
@[simp] theorem QwT{l:Int}:isNon (.int l)=false:=rfl
@[simp] theorem QxI{l:Nat}:isNon (.ob l)=false:=rfl
def teF(d:D)(O:aj):Res Bool:=match d with
 | .bl b=>.ok b O
 | _=>.no
@[simp] theorem fK{b:Bool}{O:aj}:teF (.bl b) O=.ok b O:=rfl
@[simp] theorem fL{m:M D}{ρ:aA}{O:aj}:aJ m ρ O=(m ρ O).bind teF:=rfl
def ofB(o:Option Bool)(O:aj):Res Bool:=match o with
 |some d=>.ok d O
 |none=>.no
@[simp] theorem uH{d:Bool}{O:aj}:ofB (some d) O=.ok d O:=rfl
@[simp] theorem rG{m:M D}{ρ:aA}{O:aj}:bW m ρ O=(m ρ O).bind λd O1=>ofB (oO (bz O1 d)) O1:=rfl
@[simp] theorem uI{b:Bool}:oO (.bl b)=some b:=rfl
@[simp] theorem QxC{b:List D}:oO (.lst b)=some (!b.isEmpty):=rfl
@[simp] theorem gq{a b:M Bool}{ρ:aA}{O:aj}:cH a b ρ O=(a ρ O).bind λc O1=>if c=true then b ρ O1 else .ok false O1:=rfl
@[simp] theorem rH{a b:M Bool}{ρ:aA}{O:aj}:du a b ρ O=(a ρ O).bind λc O1=>if c=true then .ok true O1 else b ρ O1:=rfl
@[simp] theorem Ig{a:M Bool}{ρ:aA}{O:aj}:dH a ρ O=(a ρ O).bind λc O1=>.ok (!c) O1:=rfl
def anF(d:D)(O:aj)(f:Unit->Res D):Res D:=match d with
 | .bl true=>f ()
 | .bl false=>.ok (.bl false) O
 | _=>.no
def orF(d:D)(O:aj)(f:Unit->Res D):Res D:=match d with
 | .bl true=>.ok (.bl true) O
 | .bl false=>f ()
 | _=>.no
@[simp] theorem Qy7{b:Bool}{O:aj}{f:Unit->Res D}:anF (.bl b) O f=if b=true then f () else .ok (.bl false) O:=by cases b<;>rfl
@[simp] theorem Qy6{b:Bool}{O:aj}{f:Unit->Res D}:orF (.bl b) O f=if b=true then .ok (.bl true) O else f ():=by cases b<;>rfl
@[simp] theorem QyC{a b:M D}{ρ:aA}{O:aj}:gh a b ρ O=(a ρ O).bind λd O1=>anF d O1 λ_=>b ρ O1:=by
 unfold gh;congr 1
@[simp] theorem Wr{a b:M D}{ρ:aA}{O:aj}:oR a b ρ O=(a ρ O).bind λd O1=>orF d O1 λ_=>b ρ O1:=by
 unfold oR;congr 1
def noF(d:D)(O:aj):Res D:=match d with
 | .bl b=>.ok (.bl (!b)) O
 | _=>.no
@[simp] theorem QyW{b:Bool}{O:aj}:noF (.bl b) O=.ok (.bl (!b)) O:=rfl
@[simp] theorem QyH{a:M D}{ρ:aA}{O:aj}:t7 a ρ O=(a ρ O).bind noF:=rfl
@[simp] theorem Ih{t:M Bool}{a b:M D}{ρ:aA}{O:aj}:mIf t a b ρ O=(t ρ O).bind λc O1=>if c=true then a ρ O1 else b ρ O1:=rfl
@[simp] theorem iY{ρ:aA}{O:aj}:au ρ O=.ok [] O:=rfl
@[simp] theorem fB{m:M D}{r:M (List D)}{ρ:aA}{O:aj}:ak m r ρ O=(m ρ O).bind λd O1=>(r ρ O1).bind λds O2=>.ok (d::ds) O2:=rfl
@[simp] theorem uJ{r:M (List D)}{ρ:aA}{O:aj}:cD r ρ O=(r ρ O).bind λds O1=>if ds.length<=1000000 then .ok (.lst ds) O1 else .no:=rfl
@[simp] theorem yH{r:M (List D)}{ρ:aA}{O:aj}:cM r ρ O=(r ρ O).bind λds O1=>if ds.length<=1000000 then .ok (.tup ds) O1 else .no:=rfl
@[simp] theorem lR{c:List D->aj->Res D}{ma:M (List D)}{ρ:aA}{O:aj}:aO c ma ρ O=(ma ρ O).bind λds O1=>c ds O1:=rfl
@[simp] theorem pK{g:List D->Option D}{ma:M (List D)}{ρ:aA}{O:aj}:bB g ma ρ O=(ma ρ O).bind λds O1=>ofO (g (ds.map (bz O1))) O1:=rfl
@[simp] theorem Ws{g:D->Option D}{ma:M D}{ρ:aA}{O:aj}:mUn g ma ρ O=(ma ρ O).bind λd O1=>ofO (g (bz O1 d)) O1:=rfl
def isF(n:String)(o:Option String)(O:aj):Res D:=match o with
 |some t=>.ok (.bl (fc t n)) O
 |none=>.no
@[simp] theorem QxP{n t:String}{O:aj}:isF n (some t) O=.ok (.bl (fc t n)) O:=rfl
@[simp] theorem Ii{n:String}{m:M D}{ρ:aA}{O:aj}:fH n m ρ O=(m ρ O).bind λd O1=>isF n (tyD (bz O1 d)) O1:=rfl
@[simp] theorem Qx0:tyD .non=some "NoneType":=rfl
@[simp] theorem QyP{b:Bool}:tyD (.bl b)=some "bool":=rfl
@[simp] theorem Qyj{b:Int}:tyD (.int b)=some "int":=rfl
@[simp] theorem Qyc{b:List Nat}:tyD (.str b)=some "str":=rfl
@[simp] theorem Qyk{b:List D}:tyD (.lst b)=some "list":=rfl
@[simp] theorem Qx4{b:List D}:tyD (.tup b)=some "tuple":=rfl
@[simp] theorem Qyi{a b:List D}:tyD (.dic a b)=some "dict":=rfl
@[simp] theorem Qzc{ρ:aA}{O:aj}:moN ρ O=.ok none O:=rfl
def osF(d:D)(O:aj):Res (Option Int):=match d with
 | .int i=>.ok (some i) O
 | _=>.no
@[simp] theorem Wt{i:Int}{O:aj}:osF (.int i) O=.ok (some i) O:=rfl
@[simp] theorem Wu{m:M D}{ρ:aA}{O:aj}:moS m ρ O=(m ρ O).bind osF:=rfl
@[simp] theorem Wv{m:M D}{lo hi:M (Option Int)}{ρ:aA}{O:aj}:mSl m lo hi ρ O=(m ρ O).bind λd O1=>(lo ρ O1).bind λl O2=>(hi ρ O2).bind λh O3=>ofO (gSl (bz O3 d) l h) O3:=rfl
@[simp] theorem Qye{l:List Nat}{lo hi:Option Int}:gSl (.str l) lo hi=if l.length<=16777216 then some (.str (eE l lo hi)) else none:=rfl
@[simp] theorem Ww{l:List D}{lo hi:Option Int}:gSl (.lst l) lo hi=some (.lst (eE l lo hi)):=rfl
@[simp] theorem Qx9{l:List D}{lo hi:Option Int}:gSl (.tup l) lo hi=some (.tup (eE l lo hi)):=rfl
def kI(f:Fl)(b:MS):Fl:=match f with
 | .nx ρ' O'=>b ρ' O'
 |r=>r
@[simp] theorem cz{a b:MS}{ρ:aA}{O:aj}:aB a b ρ O=kI (a ρ O) b:=rfl
@[simp] theorem cP{ρ:aA}{O:aj}{b:MS}:kI (.nx ρ O) b=b ρ O:=rfl
@[simp] theorem Qyh{d:D}{O:aj}{b:MS}:kI (.rt d O) b=.rt d O:=rfl
@[simp] theorem Qx5{ρ:aA}{O:aj}{b:MS}:kI (.bk ρ O) b=.bk ρ O:=rfl
@[simp] theorem Qyd{ρ:aA}{O:aj}{b:MS}:kI (.ct ρ O) b=.ct ρ O:=rfl
@[simp] theorem Qx3{b:MS}:kI .no b=.no:=rfl
@[simp] theorem uK{ρ:aA}{O:aj}:bC ρ O=.nx ρ O:=rfl
def kJ(r:Res D):Fl:=match r with
 | .ok d O'=>.rt d O'
 | .ex x O'=>.ex x O'
 | .no=>.no
@[simp] theorem fM{m:M D}{ρ:aA}{O:aj}:aQ m ρ O=kJ (m ρ O):=rfl
@[simp] theorem uL{d:D}{O:aj}:kJ (.ok d O)=.rt d O:=rfl
def Ij(r:Res D)(ρ:aA):Fl:=match r with
 | .ok _ O'=>.nx ρ O'
 | .ex x O'=>.ex x O'
 | .no=>.no
@[simp] theorem Wx{m:M D}{ρ:aA}{O:aj}:qL m ρ O=Ij (m ρ O) ρ:=rfl
@[simp] theorem Wz{d:D}{O:aj}{ρ:aA}:Ij (.ok d O) ρ=.nx ρ O:=rfl
def ifF(r:Res Bool)(a b:MS)(ρ:aA):Fl:=match r with
 | .ok c O'=>if c=true then a ρ O' else b ρ O'
 | .ex x O'=>.ex x O'
 | .no=>.no
@[simp] theorem jH{t:M Bool}{a b:MS}{ρ:aA}{O:aj}:bj t a b ρ O=ifF (t ρ O) a b ρ:=rfl
@[simp] theorem iZ{c:Bool}{O:aj}{a b:MS}{ρ:aA}:ifF (.ok c O) a b ρ=if c=true then a ρ O else b ρ O:=rfl
def rJ(i:Nat)(r:Res D)(ρ:aA):Fl:=match r with
 | .ok d O'=>.nx (ρ.set i (some d)) O'
 | .ex x O'=>.ex x O'
 | .no=>.no
@[simp] theorem kO{i:Nat}{m:M D}{ρ:aA}{O:aj}:aH i m ρ O=rJ i (m ρ O) ρ:=rfl
@[simp] theorem kW{i:Nat}{d:D}{O:aj}{ρ:aA}:rJ i (.ok d O) ρ=.nx (ρ.set i (some d)) O:=rfl
def Ik(r:Res (List D))(g:MG)(b:MS)(ρ:aA):Fl:=match r with
 | .ok ds O'=>bJ g b ds ρ O'
 | .ex x O'=>.ex x O'
 | .no=>.no
@[simp] theorem fW{m:M (List D)}{g:MG}{b:MS}{ρ:aA}{O:aj}:cu m g b ρ O=Ik (m ρ O) g b ρ:=rfl
@[simp] theorem fX{ds:List D}{O:aj}{g:MG}{b:MS}{ρ:aA}:Ik (.ok ds O) g b ρ=bJ g b ds ρ O:=rfl
@[simp] theorem mg_n{i:Nat}{d:D}{ρ:aA}:mgN i d ρ=some (ρ.set i (some d)):=rfl
def bu(f:Fl):Res D:=match f with
 | .rt d O'=>.ok d O'
 | .nx _ O'=>.ok .non O'
 | .ex x O'=>.ex x O'
 | _=>.no
@[simp] theorem WD{n:Nat}{b:MS}{ds:List D}{O:aj}:bO n b ds O=bu (b (ds.map some++List.replicate (n - ds.length) none) O):=rfl
@[simp] theorem uM{d:D}{O:aj}:bu (.rt d O)=.ok d O:=rfl
@[simp] theorem WK{ρ:aA}{O:aj}:bu (.nx ρ O)=.ok .non O:=rfl
@[simp] theorem Il{m:M (List D)}{ρ:aA}{O:aj}:fj m ρ O=(m ρ O).bind λds O1=>match ds with
 | [.int j]=>if j<=1000000000/\-1000000000<=j then .ok (d7 0 j.toNat) O1 else .no
 | _=>.no:=rfl
def itF(o:Option (List D))(O:aj):Res (List D):=match o with
 |some ds=>.ok ds O
 |none=>.no
@[simp] theorem yI{ds:List D}{O:aj}:itF (some ds) O=.ok ds O:=rfl
@[simp] theorem yJ{m:M D}{ρ:aA}{O:aj}:cg m ρ O=(m ρ O).bind λd O1=>itF (pB d) O1:=rfl
@[simp] theorem yK{ds:List D}:pB (.lst ds)=some ds:=rfl
@[simp] theorem QwU{ds:List D}:pB (.tup ds)=some ds:=rfl
@[simp] theorem rK{m:M (List D)}{own:Nat}{cap:List Nat}{g:MG}{t:M Bool}{e:M D}{ρ:aA}{O:aj}:cN m own cap g t e ρ O=(m ρ O).bind λds O1=>if ds.length<=1000000 then(dw g t e ds (iT own cap ρ) O1 []).bind λys O2=>.ok (.lst ys) O2 else .no:=rfl
@[simp] theorem yL{i j:Int}:bQ (.int i) (.int j)=some (.int (i+j)):=rfl
@[simp] theorem QyE{a b:List Nat}:bQ (.str a) (.str b)=if a.length+b.length<=1000000 then some (.str (a++b)) else none:=rfl
@[simp] theorem Qyl{a b:List D}:bQ (.lst a) (.lst b)=if a.length+b.length<=1000000 then some (.lst (a++b)) else none:=rfl
@[simp] theorem Qxt{i j:Int}:qO (.int i) (.int j)=some (.int (i - j)):=rfl
@[simp] theorem lU{i j:Int}:bZ (.int i) (.int j)=if 0<j then some (.int (i % j)) else none:=by
 unfold bZ gI
 by_cases h:0<j<;>simp[h]
@[simp] theorem Qx1{i j:Int}:lJ (.int i) (.int j)=if 0<j/\j<1073741824 then some (.int (i / j)) else none:=by
 unfold lJ gI
 by_cases h:0<j/\j<1073741824<;>simp[h]
theorem yM{i j:Int}(h:(-(2 ^ 64)<i/\i<2 ^ 64)\/(-(2 ^ 64)<j/\j<2 ^ 64)):eZ (.int i) (.int j)=some (.int (i * j)):=by
 unfold eZ;dsimp only;rw[if_pos];rw[Bool.or_eq_true];unfold oX;rw[zw,zw,decide_eq_true_eq,decide_eq_true_eq,decide_eq_true_eq,decide_eq_true_eq];exact h
@[simp] theorem QyT{i j:Int}:gLt (.int i) (.int j)=some (.bl (decide (i<j))):=rfl
@[simp] theorem WL{i j:Int}:gGt (.int i) (.int j)=some (.bl (decide (j<i))):=rfl
@[simp] theorem WM{i j:Int}:gGe (.int i) (.int j)=some (.bl (decide (j<=i))):=rfl
@[simp] theorem WN{i j:Int}:gLe (.int i) (.int j)=some (.bl (decide (i<=j))):=rfl
theorem Im(a b:Nat):(([a]:List Nat) < [b])↔a<b:=by
 constructor
 ·intro h
  rcases List.cons_lt_cons_iff.mp h with h | ⟨_,h⟩
  ·exact h
  ·exact absurd h (List.not_lt_nil _)
 ·intro h;exact List.cons_lt_cons_iff.mpr (.inl h)
@[simp] theorem Qy3{a b:Nat}:gLe (.str [a]) (.str [b])=some (.bl (decide (a<=b))):=by
 show some (D.bl (!decide (([b]:List Nat) < [a])))=_
 have:decide (([b]:List Nat) < [a])=decide (b<a):=by
  by_cases h:b<a
  ·rw[zx h,zx ((Im _ _).mpr h)]
  ·rw[zp h,zp (λz=>h ((Im _ _).mp z))]
 rw[this]
 by_cases h:b<a
 ·rw[zx h,zp (by omega)];rfl
 ·rw[zp h,zx (by omega)];rfl
@[simp] theorem nP{i j:Int}:gEq (.int i) (.int j)=some (.bl (decide (i=j))):=rfl
@[simp] theorem Io{i j:List Nat}:gEq (.str i) (.str j)=some (.bl (decide (i=j))):=rfl
@[simp] theorem Qy5{i j:Bool}:gEq (.bl i) (.bl j)=some (.bl (decide (i=j))):=rfl
@[simp] theorem WQ{i j:List D}:gEq (.lst i) (.lst j)=if(okE (.lst i)&&okE (.lst j))=true then some (.bl (iw (.lst i) (.lst j))) else none:=rfl
@[simp] theorem yN{i j:Int}:gNe (.int i) (.int j)=some (.bl (!decide (i=j))):=rfl
@[simp] theorem Qy0{i j:List Nat}:gNe (.str i) (.str j)=some (.bl (!decide (i=j))):=rfl
@[simp] theorem Qy9{i j:Bool}:gNe (.bl i) (.bl j)=some (.bl (!decide (i=j))):=rfl
@[simp] theorem Qy8{i j:List D}:gNe (.lst i) (.lst j)=if(okE (.lst i)&&okE (.lst j))=true then some (.bl (!iw (.lst i) (.lst j))) else none:=rfl
@[simp] theorem QyS{n:Bool}{c:Nat}{l:List Nat}:gIn n (.str [c]) (.str l)=some (.bl (n ^^ decide (c∈l))):=rfl
theorem lV{ds:List D}{i:Int}:gIx (.lst ds) (.int i)=atI ds i:=rfl
@[simp] theorem QyJ{l:List Nat}:dg [.str l]=if l.length<=1000000 then some (.int l.length) else none:=rfl
@[simp] theorem Ip{l:List D}:dg [.lst l]=some (.int l.length):=rfl
@[simp] theorem Qyy{l:List D}:dg [.tup l]=some (.int l.length):=rfl
@[simp] theorem QyG{i j:Int}:TF [.int i,.int j]=some (.int (if j>i then j else i)):=rfl
@[simp] theorem Qyv{i j:Int}:TJ [.int i,.int j]=some (.int (if j<i then j else i)):=rfl
@[simp] theorem Qyr{i:Int}:G6 [.int i]=some (.int i):=rfl
@[simp] theorem Qyx{b:Bool}:G6 [.bl b]=some (.int (if b then 1 else 0)):=rfl
@[simp] theorem Qyq:fU (.int 10) (.int 18)=some (.int 1000000000000000000):=by rfl
@[simp] theorem WR:fU (.int 10) (.int 9)=some (.int 1000000000):=by rfl
@[simp] theorem pL{α:Type}{xs:List α}{j:Nat}:atI xs (j:Int)=xs[j]?:=by
 unfold atI ixN;rw[if_pos (by omega)]
 by_cases h:j<xs.length
 ·rw[if_pos (by omega)];simp
 ·rw[if_neg (by omega),jy (by omega)];rfl
theorem WT{α:Type}{xs:List α}{i:Int}(h0:0<=i)(h1:i<xs.length):∃x,atI xs i=some x/\x∈xs:=by
 obtain⟨j,rfl⟩:=Int.eq_ofNat_of_zero_le h0
 have hj:j<xs.length:=by omega
 exact⟨xs[j],by show atI xs (j:Int)=_;rw[pL,zu hj],jk hj⟩
section
variable {c:Prop}[Decidable c]
@[simp] theorem Qw7{a b:Fl}:bu (if c then a else b)=if c then bu a else bu b:=by split<;>rfl
@[simp] theorem Qxc{a b:Res D}:kJ (if c then a else b)=if c then kJ a else kJ b:=by split<;>rfl
@[simp] theorem Qxi{a b:Fl}{r:MS}:kI (if c then a else b) r=if c then kI a r else kI b r:=by split<;>rfl
@[simp] theorem Qxy{α β:Type}{a b:Res α}{f:α->aj->Res β}:(if c then a else b).bind f=if c then a.bind f else b.bind f:=by split<;>rfl
@[simp] theorem Qx2{a b:Res Bool}{x y:MS}{ρ:aA}:ifF (if c then a else b) x y ρ=if c then ifF a x y ρ else ifF b x y ρ:=by split<;>rfl
@[simp] theorem Qxg{a b:Res D}{i:Nat}{ρ:aA}:rJ i (if c then a else b) ρ=if c then rJ i a ρ else rJ i b ρ:=by split<;>rfl
@[simp] theorem Qyf{a b:Option D}{O:aj}:ofO (if c then a else b) O=if c then ofO a O else ofO b O:=by split<;>rfl
end
@[simp] theorem Qyu:fc "str" "str" = true:=by decide
@[simp] theorem QyF:fc "int" "str" = false:=by decide
@[simp] theorem QyO:fc "bool" "str" = false:=by decide
@[simp] theorem QyN:fc "list" "str" = false:=by decide
@[simp] theorem QyM:fc "tuple" "str" = false:=by decide
@[simp] theorem QyL:fc "dict" "str" = false:=by decide
@[simp] theorem QyD:fc "NoneType" "str" = false:=by decide
@[simp] theorem Qyp:fc "int" "int" = true:=by decide
@[simp] theorem Qyw:fc "int" "bool" = false:=by decide
@[simp] theorem Qx6:fc "bool" "bool" = true:=by decide
@[simp] theorem Qx8:fc "list" "list" = true:=by decide
@[simp] theorem QxZ:fc "tuple" "tuple" = true:=by decide
@[simp] theorem Qyb:fc "NoneType" "list" = false:=by decide
theorem kY{g:MG}{b:MS}(Pv:Nat->aA->aj->Prop):∀(ds:List D) (k:Nat) (ρ:aA) (O:aj),Pv k ρ O ->
  (∀i d ρ O,ds[i]?=some d->Pv (k+i) ρ O->∃ρ1,g d ρ=some ρ1/\∃ρ2 O2,(b ρ1 O=.nx ρ2 O2\/b ρ1 O=.ct ρ2 O2)/\Pv (k+i+1) ρ2 O2)->∃ρ' O',bJ g b ds ρ O=.nx ρ' O'/\Pv (k+ds.length) ρ' O'
 | [],k,ρ,O,h,_=>⟨ρ,O,rfl,h⟩
 |d::ds,k,ρ,O,h,hs=>by
  obtain⟨ρ1,e1,ρ2,O2,e2,h2⟩:=hs 0 d ρ O rfl h
  obtain⟨ρ',O',e3,h3⟩:=kY Pv ds (k+1) ρ2 O2 h2 λi d' ρ' O' hi hp=>by
   have:=hs (i+1) d' ρ' O' (by simpa using hi) (by rw[show k+(i+1)=k+1+i by omega];exact hp)
   rw[show k+(i+1)+1=k+1+i+1 by omega] at this;exact this
  refine⟨ρ',O',?_,by rw[zI,show k+(ds.length+1)=k+1+ds.length by omega];exact h3⟩;unfold bJ;rw[e1];dsimp only
  rcases e2 with e2 | e2<;>rw[e2]<;>exact e3
theorem Ir{g:MG}{t:M Bool}{m:M D}(Pv:aA->Prop)(p:D->Bool):∀(ds:List D) (ρ:aA) (O:aj) (acc:List D),Pv ρ->(∀d∈ds,∀ρ,Pv ρ->∃ρ1,g d ρ=some ρ1/\Pv ρ1/\t ρ1 O=.ok (p d) O/\m ρ1 O=.ok d O)->dw g t m ds ρ O acc=.ok (acc++ds.filter p) O
 | [],ρ,O,acc,_,_=>by simp[dw]
 |d::ds,ρ,O,acc,h,hs=>by
  obtain⟨ρ1,e1,h1,e2,e3⟩:=hs d zr ρ h
  have ih:=λacc=>Ir Pv p ds ρ1 O acc h1 λd' hd'=>hs d' (zD _ hd')
  unfold dw;rw[e1];dsimp only;rw[e2]
  cases q:p d with
  |true =>
   dsimp only;rw[e3];dsimp only;rw[ih,List.filter_cons,q];simp
  |false =>
   dsimp only;rw[ih,List.filter_cons,q];simp
@[simp] theorem Qyo{ρ:aA}{O:aj}:Ut ρ O=.ok [] O:=rfl
@[simp] theorem Qx7{a b:M D}{r:M (List (D×D))}{ρ:aA}{O:aj}:Uu a b r ρ O=(a ρ O).bind λx O1=>(b ρ O1).bind λy O2=>(r ρ O2).bind λps O3=>.ok ((x,y)::ps) O3:=rfl
def diF(o:Option (List Key))(kv:List (D×D))(O:aj):Res D:=match o with
 |some ks=>if ks.Nodup/\kv.length<=15 then .ok (.dic (kv.map (·.1)) (kv.map (·.2))) O else .no
 |none=>.no
@[simp] theorem Qxz{ks:List Key}{kv:List (D×D)}{O:aj}:diF (some ks) kv O=if ks.Nodup/\kv.length<=15 then .ok (.dic (kv.map (·.1)) (kv.map (·.2))) O else .no:=rfl
@[simp] theorem QyB{m:M (List (D×D))}{ρ:aA}{O:aj}:Uv m ρ O=(m ρ O).bind λkv O1=>diF (keysOf kv) kv O1:=rfl
@[simp] theorem QxY{i:Int}:keyOf (.int i)=some (.inl i):=rfl
@[simp] theorem Qyg{i:List Nat}:keyOf (.str i)=some (.inr (S i)):=rfl
@[simp] theorem Qwd:keysOf []=some []:=rfl
@[simp] theorem Qvw{a b:D}{r:List (D×D)}:keysOf ((a,b)::r)=(keyOf a).bind λk=>(keysOf r).map (k :: ·):=rfl
def joF(o:Option (List (List Nat)))(O:aj):Res D:=match o with
 |some ls=>if(ls.map List.length).sum<=1000000 then .ok (.str ls.flatten) O else .no
 |none=>.no
@[simp] theorem Qxs{ls:List (List Nat)}{O:aj}:joF (some ls) O=if(ls.map List.length).sum<=1000000 then .ok (.str ls.flatten) O else .no:=rfl
def jdF(d:D)(O:aj):Res D:=match d with
 | .lst ds=>joF (nA ds) O
 | _=>.no
@[simp] theorem Qy4{ds:List D}{O:aj}:jdF (.lst ds) O=joF (nA ds) O:=rfl
@[simp] theorem Qys{m:M D}{ρ:aA}{O:aj}:Ua m ρ O=(m ρ O).bind λd O1=>jdF (bz O1 d) O1:=rfl
@[simp] theorem WW{own:Nat}{cap:List Nat}{ρ:aA}:iT own cap ρ=List.replicate own none++cap.map λj=>(ρ[j]?).join:=rfl
@[simp] theorem QwP{g:MG}{t:M Bool}{m:M D}{ρ:aA}{O:aj}{acc:List D}:dw g t m [] ρ O acc=.ok acc O:=rfl
theorem Iu:∀ds:List D,lK ds=ds.map toP
 | []=>rfl
 |d::ds=>by rw[lK,Iu ds];rfl
theorem Iv:∀{ds:List D},(∀d∈ds,iu d=true)->nq ds=true
 | [],_=>rfl
 |d::ds,h=>by rw[nq,h d zr,Iv λx hx=>h x (zD _ hx)];rfl
theorem WY{n:Nat}(hn:n<60){ds:List D}(h:∀d∈ds,iu d=true/\(toP d).canLay0=true/\(toP d).depth<=n):okE (.lst ds)=true:=by
 unfold okE;rw[zw];refine⟨?_,?_⟩
 ·rw[iu];exact Iv λd hd=>(h d hd).1
 ·rw[toP,Iu]
  refine Ss hn λd hd=>?_
  obtain⟨x,hx,rfl⟩:=zX.mp hd;exact(h x hx).2
theorem W0{l:List Nat}(h:∀c∈l,c<1114112):(PyData.str (S l)).canLay0=true:=by
 show PyData.strOk (S l)=true;unfold PyData.strOk S;simp;exact h
def it(f:Int->Int):Nat->Int->Int
 | 0,x=>x
 |n+1,x=>f (it f n x)
def mix(n k:Int):Int:=if n>1000000000000000000 then it (λr=>r / 1000000000) k.toNat n % 1000000000
 else
  let m:=it (λm=>(m * 48271+104729) % 2147483629) (k+2).toNat (n % 2147483647+7919)
  m * m % 998244353 / 11
theorem Iw(j:Nat)(x:Int)(h0:0<=x)(h1:x<2147491566):0<=it (λm=>(m * 48271+104729) % 2147483629) j x/\it (λm=>(m * 48271+104729) % 2147483629) j x<2147491566:=by
 induction j with
 |zero=>exact⟨h0,h1⟩
 |succ j ih =>
  refine⟨Int.emod_nonneg _ (by decide),?_⟩
  have:=jz (it (λm=>(m * 48271+104729) % 2147483629) j x * 48271+104729) (show(0:Int)<2147483629 by decide)
  show(it (λm=>(m * 48271+104729) % 2147483629) j x * 48271+104729) % 2147483629<_;omega
def yO:MS:=(aB (bj (aJ (aq gGt (aa 0) (aq fU (mC (.int 10)) (mC (.int 18))))) (aB (aH 2 (mG (aa 0)))
  (aB (cu (fj (ak (aa 1) au)) (mgN 3) (aH 2 (aq lJ (aa 2) (aq fU (mC (.int 10)) (mC (.int 9))))))
  (aQ (aq bZ (aa 2) (aq fU (mC (.int 10)) (mC (.int 9))))))) bC)
  (aB (aH 4 (aq bQ (aq bZ (aa 0) (mC (.int 2147483647))) (mC (.int 7919))))
  (aB (cu (fj (ak (aq bQ (aa 1) (mC (.int 2))) au)) (mgN 3) (aH 4 (aq bZ (aq bQ (aq eZ (aa 4) (mC (.int 48271))) (mC (.int 104729))) (mC (.int 2147483629)))))
  (aQ (aq lJ (aq bZ (aq eZ (aa 4) (aa 4)) (mC (.int 998244353))) (mC (.int 11)))))))
theorem iD(lo:Int)(n:Nat):(d7 lo n).length=n:=by simp[d7]
theorem W2(n k:Int)(h0:0<=k)(h1:k<=1000000)(O:aj):bO 5 yO [.int n,.int k] O=.ok (.int (mix n k)) O:=by
 unfold mix
 by_cases hn:n>1000000000000000000
 ·obtain⟨ρ',O',e,rfl,o3,rfl⟩:=kY (g:=mgN 3) (b:=aH 2 (aq lJ (aa 2) (aq fU (mC (.int 10)) (mC (.int 9)))))
   (λi ρ O'=>O'=O/\∃o3,ρ=[some (.int n),some (.int k),some (.int (it (λr=>r / 1000000000) i n)),o3,none]) (d7 0 k.toNat) 0 [some (.int n),some (.int k),some (.int n),none,none] O ⟨rfl,none,rfl⟩ (by
    rintro i d ρ O' hi ⟨rfl,o3,rfl⟩;refine⟨_,rfl,?_⟩;simp;rw[show it (λr=>r / 1000000000) (i+1) n=it (λr=>r / 1000000000) i n / 1000000000 from rfl]
    exact⟨_,_,⟨rfl,rfl⟩,rfl,_,rfl⟩)
  rw[iD,zP] at e
  have hk:k<=1000000000/\-1000000000<=k:=by omega
  simp[yO,hn,hk,e]
 ·have hm0:0<=n % 2147483647+7919:=by have:=Int.emod_nonneg n (show(2147483647:Int)≠0 by decide);omega
  have hm1:n % 2147483647+7919<2147491566:=by have:=jz n (show(0:Int)<2147483647 by decide);omega
  obtain⟨ρ',O',e,rfl,o3,rfl⟩:=kY (g:=mgN 3) (b:=aH 4 (aq bZ (aq bQ (aq eZ (aa 4) (mC (.int 48271))) (mC (.int 104729))) (mC (.int 2147483629))))
   (λi ρ O'=>O'=O/\∃o3,ρ=[some (.int n),some (.int k),none,o3,some (.int (it (λm=>(m * 48271+104729) % 2147483629) i (n % 2147483647+7919)))]) (d7 0 (k+2).toNat) 0 [some (.int n),some (.int k),none,none,some (.int (n % 2147483647+7919))] O ⟨rfl,none,rfl⟩ (by
    rintro i d ρ O' hi ⟨rfl,o3,rfl⟩;refine⟨_,rfl,?_⟩;obtain⟨b0,b1⟩:=Iw i _ hm0 hm1
    have:=yM (i:=it (λm=>(m * 48271+104729) % 2147483629) i (n % 2147483647+7919)) (j:=48271) (.inr ⟨by decide,by decide⟩)
    simp[this]
    rw[show it (λm=>(m * 48271+104729) % 2147483629) (i+1) (n % 2147483647+7919)=(it (λm=>(m * 48271+104729) % 2147483629) i (n % 2147483647+7919) * 48271+104729) % 2147483629 from rfl]
    exact⟨_,_,⟨rfl,rfl⟩,rfl,_,rfl⟩)
  rw[iD,zP] at e
  have hk:k+2<=1000000000/\-1000000000<=k+2:=by omega
  obtain⟨b0,b1⟩:=Iw (k+2).toNat _ hm0 hm1;have hq:=yM (i:=it (λm=>(m * 48271+104729) % 2147483629) (k+2).toNat (n % 2147483647+7919)) (j:=it (λm=>(m * 48271+104729) % 2147483629) (k+2).toNat (n % 2147483647+7919)) (.inl ⟨by omega,by omega⟩);simp[yO,hn,hk,e,hq]
def Iz(cs:List Str)(f:Str)(d:D)(O:aj):Res D:=match d with
 | .ob n=>match O[n]? with
  |some (.ins c fs)=>if c∈cs then match fs.lookup f with
   |some y=>.ok y O
   |none=>.no else .no
  | _=>.no
 | _=>.no
@[simp] theorem W3{cs:List Str}{f:Str}{m:M D}{ρ:aA}{O:aj}:dC cs f m ρ O=(m ρ O).bind (Iz cs f):=rfl
def puF(cs:List Str)(f:Str)(d:D)(ρ:aA)(r:Res D):Fl:=match r with
 | .ok (.ob n) O2=>match O2[n]? with
  |some (.ins c fs)=>if c∈cs/\fs.length<900 then .nx ρ (O2.set n (.ins c (putD f d fs))) else .no
  | _=>.no
 | _=>.no
def sfF(cs:List Str)(f:Str)(mo:M D)(r:Res D)(ρ:aA):Fl:=match r with
 | .ok d O1=>puF cs f d ρ (mo ρ O1)
 | .ex x O'=>.ex x O'
 | .no=>.no
@[simp] theorem W4{cs:List Str}{f:Str}{mo mv:M D}{ρ:aA}{O:aj}:gk cs f mo mv ρ O=sfF cs f mo (mv ρ O) ρ:=by
 unfold gk sfF puF
 cases mv ρ O<;>rfl
@[simp] theorem W5{cs:List Str}{f:Str}{mo:M D}{d:D}{O:aj}{ρ:aA}:sfF cs f mo (.ok d O) ρ=puF cs f d ρ (mo ρ O):=rfl
def meF(c m:Str)(cf:List D->aj->Res D)(ma:aj->Res (List D))(d:D)(O1:aj):Res D:=match d with
 | .ob n=>match O1[n]? with
  |some (.ins c' fs)=>if c'=c/\(fs.lookup m).isNone=true then(ma O1).bind λds O2=>cf (.ob n::ds) O2 else .no
  | _=>.no
 | _=>.no
@[simp] theorem W6{c m:Str}{cf:List D->aj->Res D}{mo:M D}{ma:M (List D)}{ρ:aA}{O:aj}:bA c m cf mo ma ρ O=(mo ρ O).bind (meF c m cf (ma ρ)):=rfl
def mkF(n:Nat)(r:Res D):Res D:=match r with
 | .ok .non O2=>.ok (.ob n) O2
 | .ok _ _=>.no
 | .ex x O2=>.ex x O2
 | .no=>.no
@[simp] theorem W7{c:Str}{cf:List D->aj->Res D}{ma:M (List D)}{ρ:aA}{O:aj}:nF c cf ma ρ O=(ma ρ O).bind λds O1=>mkF O1.length (cf (.ob O1.length::ds) (O1++[.ins c []])):=by
 unfold nF;congr 1
@[simp] theorem W8{n:Nat}{O:aj}:mkF n (.ok .non O)=.ok (.ob n) O:=rfl
def apF(i:Nat)(r:Res D)(ρ:aA):Fl:=match r with
 | .ok d O'=>match ρ[i]? with
  |some (some (.lst ds))=>if ds.length<1000000 then .nx (ρ.set i (some (.lst (ds++[d])))) O' else .no
  | _=>.no
 | .ex x O'=>.ex x O'
 | .no=>.no
@[simp] theorem W9{i:Nat}{m:M D}{ρ:aA}{O:aj}:fV i m ρ O=apF i (m ρ O) ρ:=rfl
theorem Xa{i:Nat}{d:D}{ds:List D}{ρ:aA}{O:aj}(h:ρ[i]?=some (some (.lst ds)))(hl:ds.length<1000000):apF i (.ok d O) ρ=.nx (ρ.set i (some (.lst (ds++[d])))) O:=by
 unfold apF;dsimp only;rw[h];dsimp only;rw[if_pos hl]
def exF(i:Nat)(r:Res D)(ρ:aA):Fl:=match r with
 | .ok d O'=>match ρ[i]?,bz O' d with
  |some (some (.lst ds)),.lst es=>if ds.length+es.length<=1000000 then .nx (ρ.set i (some (.lst (ds++es)))) O' else .no
  | _,_=>.no
 | .ex x O'=>.ex x O'
 | .no=>.no
@[simp] theorem Qyt{i:Nat}{m:M D}{ρ:aA}{O:aj}:nC i m ρ O=exF i (m ρ O) ρ:=rfl
def enF(d:D)(O1:aj):Res (List D):=match d with
 | .lst ds=>.ok (qT 0 ds) O1
 | .str l=>if ascii l=true then .ok (qT 0 (lM l)) O1 else .no
 | _=>.no
@[simp] theorem Qyn{m:M D}{ρ:aA}{O:aj}:Up m ρ O=(m ρ O).bind enF:=rfl
def asF(r:Res D)(g:MG)(ρ:aA):Fl:=match r with
 | .ok d O'=>match g d ρ with
  |some ρ'=>.nx ρ' O'
  |none=>.no
 | .ex x O'=>.ex x O'
 | .no=>.no
@[simp] theorem QyR{m:M D}{g:MG}{ρ:aA}{O:aj}:S8 m g ρ O=asF (m ρ O) g ρ:=rfl
@[simp] theorem Qza{i j:Nat}{a b:D}{ρ:aA}:m5 2 (fD (mgN i) (fD (mgN j) oU)) (.tup [a,b]) ρ=some ((ρ.set i (some a)).set j (some b)):=rfl
def stF(a b:D)(O:aj):Res D:=match a,b with
 | .str l,.str n=>.ok (.bl (decide (l.take n.length=n))) O
 | _,_=>.no
@[simp] theorem QxE{a b:M D}{ρ:aA}{O:aj}:Ub a b ρ O=(a ρ O).bind λx O1=>(b ρ O1).bind λy O2=>stF x y O2:=rfl
@[simp] theorem QyX{l n:List Nat}{O:aj}:stF (.str l) (.str n) O=.ok (.bl (decide (l.take n.length=n))) O:=rfl
theorem rM{α:Type}{g:MG}{t:M Bool}{m:M D}(Pv:aA->Prop)(f h:α->D):∀(xs:List α) (ρ:aA) (O:aj) (acc:List D),Pv ρ->(∀x∈xs,∀ρ,Pv ρ->∃ρ1,g (f x) ρ=some ρ1/\Pv ρ1/\t ρ1 O=.ok true O/\m ρ1 O=.ok (h x) O)->dw g t m (xs.map f) ρ O acc=.ok (acc++xs.map h) O
 | [],ρ,O,acc,_,_=>by simp[dw]
 |x::xs,ρ,O,acc,hp,hs=>by
  obtain⟨ρ1,e1,h1,e2,e3⟩:=hs x zr ρ hp;rw[zh];unfold dw;rw[e1];dsimp only;rw[e2];dsimp only;rw[e3];dsimp only;rw[rM Pv f h xs ρ1 O _ h1 λd' hd'=>hs d' (zD _ hd')];simp
def IK:List Nat:=[101,110,100]
def IV:List Nat:=[97,110,101,119]
def IW:List Nat:=[112,108,97,105,110]
def iG:List Nat:=[115,105,103,110]
def Ja:List Nat:=[105,110,107]
def Jb:List Nat:=[103,114,111,117,110,100]
def item(p:Int)(k v:List Nat):D:=.tup [.int p,.str k,.str v]
def col(c:Nat):Bool:=decide (c∈[97,98,99,100,101,102,103,104,46])
def Xb(x:Nat):List Nat->List Nat×List Nat×Nat
 | []=>(iG,[91],0)
 |e::_=>if e=93 then(Jb,[x],3) else(iG,[91],0)
def Xd:List Nat->List Nat×List Nat×Nat
 | []=>(iG,[91],0)
 |x::t=>if col x=true then Xb x t else(iG,[91],0)
def Xe(x:Nat):List Nat->List Nat×List Nat×Nat
 | []=>(iG,[91],0)
 |e::_=>if e=93 then(Ja,[x],2) else(iG,[91],0)
def Xf:List Nat->List Nat×List Nat×Nat
 | []=>(iG,[91],0)
 |d::t=>if d=93 then(IW,[],1) else if d=91 then(iG,[91],1) else if col d=true then Xe d t else if d=47 then Xd t else(iG,[91],0)
def one(c:Nat)(t:List Nat):List Nat×List Nat×Nat :=
 if c=10 then(IK,[],0) else if c=9 then(IV,[],0) else if c=91 then Xf t else(iG,[c],0)
def items(p:Int):List Nat->List D
 | []=>[]
 |c::t=>item p (one c t).1 (one c t).2.1::items (p+((one c t).2.2+1:Nat)) (t.drop (one c t).2.2)
termination_by l=>l.length
decreasing_by
 simp only[List.length_drop,zI];omega
def own(p:Int)(c:Nat):D:=if c=10 then item p IK [] else if c=9 then item p IV [] else item p iG [c]
def owns:Int->List Nat->List D
 | _,[]=>[]
 |p,c::l=>own p c::owns (p+1) l
def Xg:List Nat->Bool
 | [a]=>decide (a=91)
 | [a,b]=>decide (a=91)&&(decide (b=47) || col b)
 | [a,b,c]=>decide (a=91)&&(decide (b=47)&&col c)
 | _=>false
def markB:List Nat->Option (List Nat×List Nat)
 | [a,b]=>if a=91/\b=93 then some (IW,[]) else if a=91/\b=91 then some (iG,[91]) else none
 | [a,b,c]=>if a=91/\col b=true/\c=93 then some (Ja,[b]) else none
 | [a,b,c,d]=>if a=91/\b=47/\col c=true/\d=93 then some (Jb,[c]) else none
 | _=>none
def tk(h:List Nat)(c:Nat)(p:Int):List D×List Nat :=
 if Xg (h++[c])=true then([],h++[c]) else match markB (h++[c]) with
 |some (k,v)=>([item p k v],[])
 |none=>if c=91 then(owns p h,[91]) else(owns p (h++[c]),[])
inductive nQ:List Nat->Prop where
 | h0:nQ []
 | h1:nQ [91]
 | h2:nQ [91,47]
 | h3 (x:Nat) (h:col x=true):nQ [91,x]
 | h4 (x:Nat) (h:col x=true):nQ [91,47,x]
theorem nQ.len{h:List Nat}(H:nQ h):h.length<=3:=by cases H<;>simp
@[simp] theorem yP{l:List D}:dI [.lst l]=some (.lst l):=rfl
def fzF(f:Fl):Fl:=match f with
 | .rt d O'=>.rt d O'
 | _=>.no
@[simp] theorem Qy1{m:MS}{ρ:aA}{O:aj}:Uw m ρ O=fzF (m ρ O):=rfl
@[simp] theorem QyI{d:D}{O:aj}:fzF (.rt d O)=.rt d O:=rfl
def ziF(d e:D)(O:aj):Res (List D):=match d,e with
 | .lst ds,.lst es=>.ok (iB ds es) O
 | _,_=>.no
@[simp] theorem QyZ{ma mb:M D}{ρ:aA}{O:aj}:Hj ma mb ρ O=(ma ρ O).bind λd O1=>(mb ρ O1).bind λe O2=>ziF d e O2:=by
 unfold Hj;congr 1
@[simp] theorem QyY{ds es:List D}{O:aj}:ziF (.lst ds) (.lst es) O=.ok (iB ds es) O:=rfl
end L2
namespace L2
open PySem
section
variable {ρ ρ':aA}{O O' O1 O2:aj}{d:D}{x:Xc}{a b m:MS}{r:M D}{t:M Bool}{ma:M (List D)}{c:List D->aj->Res D}{ds:List D}
end
end L2
namespace K31
open PySem L2
def fuP:Nat:=10 ^ 60
def fuW:Nat:=10 ^ 60
seal VE SE OE WE TsE TwE AE VS VSs VG VGs VI VIc VO VIf DPE
def top(i:Nat):Stmt:=PySem.Challenge.pw_outweave_k31_prices_and_least_ways.main.body.getD i (.Pass ⟨0,0,0,0⟩)
local macro_rules | `(tactic| trivial) => `(tactic| exact ⟨rfl, rfl, rfl, by decide +kernel, rfl, by decide +kernel, by decide +kernel⟩)
section
variable {Pr:Program}{w:World}{K:Frag}{mg:Str->Option Value}{base:Heap}
abbrev yQ:Stmt:=top 1
theorem Xh:bN ["thing"] ["thing"] (aR yQ):=by trivial
def Jc:MS :=
  (aQ (gh (fH "int" (aa 0)) (t7 (fH "bool" (aa 0)))))
def rN:List D->aj->Res D:=bO 1 Jc
abbrev uN(Pr:Program)(w:World)(K:Frag)(mg:Str->Option Value)(base:Heap):Prop:=Can Pr w K mg base "is_whole" ["thing"] 1 (vSp K mg [.s] (rV K) rN)
theorem Xi(yR:Def K mg "is_whole" yQ)
  (B:cC mg)
  (NK:bK K=true):
  uN Pr w K mg base:=by
 refine cZ (k:=0) (b:=Jc) yR Xh (λ_ _ _ _ _ _=>bc λ_=>cF rfl) [.s] [] cL (λ_ _ _ _=>Rp.non) (body:=λf cdv A outer s H E hr P=>?_);refine aW ?_;refine bM ?_;refine mZ ?_ ?_;refine bD (lL "int" (hb:=G7) B.isinstance_ B.int_ (aK 0));refine jZ ?_;refine Gw ?_;refine bD (lL "bool" (hb:=G8) B.isinstance_ B.bool_ (aK 0))
abbrev yS:Stmt:=inClass (top 4) 0
theorem yU:bN ["self","sizes","moves","ends","move","node"] ["self","sizes","moves","ends"] (aR yS):=by trivial
def Jd:MS :=
  (aB (gk ["Listed"] "sizes" (aa 0) (bB dI (ak (aa 1) au)))
  (aB (gk ["Listed"] "moves_by_node" (aa 0) dJ)
  (aB (jF (aa 2) (mgN 4) (kh (nJ (dC ["Listed"] "moves_by_node" (aa 0)) (aq gIx (aa 4) (mC (.int 0))) (cD au)) (cM (ak (aq gIx (aa 4) (mC (.int 1))) (ak (aq gIx (aa 4) (mC (.int 2))) (ak (aq gIx (aa 4) (mC (.int 3))) au))))))
  (aB (gk ["Listed"] "end_nodes" (aa 0) dJ)
  (jF (aa 3) (mgN 5) (cV (dC ["Listed"] "end_nodes" (aa 0)) (aa 5) (mC (.bl true))))))))
def rP:List D->aj->Res D:=bO 6 Jd
abbrev Je(Pr:Program)(w:World)(K:Frag)(mg:Str->Option Value)(base:Heap):Prop:=uo Pr w K mg base "Listed" ["self","sizes","moves","ends"] 1 (vSp K mg [.v,.s,.s,.s] (rV K) rP)
theorem Xj(yV:xZ K mg "Listed" "Listed.__init__" yS)
  (B:cC mg)
  (NK:bK K=true)
  (kZ:KC K mg "Listed" "sizes")
  (nR:KC K mg "Listed" "moves_by_node")
  (nT:KC K mg "Listed" "end_nodes"):
  Je Pr w K mg base:=by
 refine Ui (k:=0) (b:=Jd) yV yU (λ_ _ _ _ _ _=>bc λ_=>bc λ_=>bc λ_=>bc λ_=>cF rfl) [.v,.s,.s,.s] [.v,.v] cL (λ_ _ _ _=>Rp.non) (body:=λf cdv A outer s H E hr P=>?_);refine aN ?_ ?_;refine xY (j9 kZ j8) (az 0) ?_;refine bD ?_;refine oZ (ms:=[.s]) (hv:=nu) o9 B.list_ ?_;refine aC (aK 1) aM;refine aN ?_ ?_;refine xY (j9 nR j8) (az 0) nH;refine aN ?_ ?_;refine ye rfl (pq 2) (bY (i:=4) yU.nd rfl (.inl rfl)) ?_;refine aW ?_;refine yc ?_ ?_;refine UW NK hr (pA (j9 nR j8) (az 0)) ?_ (iR 0 aM);refine bH (ao (az 4)) (ao aL);refine jD 3 ?_
 refine cB ?_ ?_;refine bH (ao (az 4)) (ao aL);refine cB ?_ ?_;refine bH (ao (az 4)) (ao aL);refine cB ?_ aM;refine bH (ao (az 4)) (ao aL);refine aN ?_ ?_;refine xY (j9 nT j8) (az 0) nH;refine aW ?_;refine ye rfl (pq 3) (bY (i:=5) yU.nd rfl (.inl rfl)) ?_;refine aW ?_;refine jG NK hr (pA (j9 nT j8) (az 0)) (az 5) dX
abbrev yW:Stmt:=inClass (top 4) 1
theorem Xk:bN ["self"] ["self"] (aR yW):=by trivial
def Jf:MS :=
  (aQ (cM (ak (mC (.int 0)) (ak (mC (.int 0)) au))))
def nU:List D->aj->Res D:=bO 1 Jf
abbrev yX(Pr:Program)(w:World)(K:Frag)(mg:Str->Option Value)(base:Heap):Prop:=ie Pr w K mg base "Listed" "first_node" ["self"] 1 (vSp K mg [.v] (rV K) nU)
theorem Xl(yZ:nD K mg "Listed" "first_node" "Listed.first_node" yW)
  (B:cC mg)
  (NK:bK K=true):
  yX Pr w K mg base:=by
 refine qU (k:=0) (b:=Jf) yZ Xk (λ_ _ _ _ _ _=>bc λ_=>cF rfl) [.v] [] cL (λ_ _ _ _=>Rp.non) (body:=λf cdv A outer s H E hr P=>?_);refine aW ?_;refine bM ?_;refine jD 2 ?_;refine cB aL ?_;refine cB aL aM
abbrev z7:Stmt:=inClass (top 4) 2
theorem Xm:bN ["self"] ["self"] (aR z7):=by trivial
def Jg:MS :=
  (aQ (aq qO (bB dg (ak (dC ["Listed"] "sizes" (aa 0)) au)) (mC (.int 1))))
def pM:List D->aj->Res D:=bO 1 Jg
abbrev z8(Pr:Program)(w:World)(K:Frag)(mg:Str->Option Value)(base:Heap):Prop:=ie Pr w K mg base "Listed" "last_at" ["self"] 1 (vSp K mg [.v] (rV K) pM)
theorem Xn(z9:nD K mg "Listed" "last_at" "Listed.last_at" z7)
  (B:cC mg)
  (NK:bK K=true)
  (kZ:KC K mg "Listed" "sizes"):
  z8 Pr w K mg base:=by
 refine qU (k:=0) (b:=Jg) z9 Xm (λ_ _ _ _ _ _=>bc λ_=>cF rfl) [.v] [] cL (λ_ _ _ _=>Rp.non) (body:=λf cdv A outer s H E hr P=>?_);refine aW ?_;refine bM ?_;refine bD ?_;refine bR Tj ?_ (ao aL);refine aY ?_;refine fG (ms:=[.s]) (hv:=iz) iy B.len_ ?_;refine aC ?_ aM;refine ao (pA (j9 kZ j8) (az 0))
abbrev uO:Stmt:=inClass (top 4) 3
theorem Xo:bN ["self","at"] ["self","at"] (aR uO):=by trivial
def Jh:MS :=
  (aQ (cN (fj (ak (aq gIx (dC ["Listed"] "sizes" (aa 0)) (aa 1)) au)) 1 [1] (mgN 0) eY (cM (ak (mG (aa 1)) (ak (aa 0) au)))))
def lg:List D->aj->Res D:=bO 2 Jh
abbrev Aa(Pr:Program)(w:World)(K:Frag)(mg:Str->Option Value)(base:Heap):Prop:=ie Pr w K mg base "Listed" "nodes_at" ["self","at"] 1 (vSp K mg [.v,.s] (rO K) lg)
theorem Xp(Ab:nD K mg "Listed" "nodes_at" "Listed.nodes_at" uO)
  (B:cC mg)
  (NK:bK K=true)
  (kZ:KC K mg "Listed" "sizes"):
  Aa Pr w K mg base:=by
 refine qU (k:=0) (b:=Jh) Ab Xo (λ_ _ _ _ _ _=>bc λ_=>bc λ_=>cF rfl) [.v,.s] [] gQ (λ_ _ _ _=>.inl ⟨rfl,Rp.non⟩) (body:=λf cdv A outer s H E hr P=>?_);refine aW ?_;refine xG ?_;refine lH (aR uO) ["self","at"] ["state"] [1] rfl ?_ (λ_ _ _ _ P=>?_) (λ_ _ _ _ P=>?_) (λ_ _ _ _ P=>?_);refine oW ?_;refine j7 B.range_ ?_;refine aC ?_ aM;refine ao ?_;refine bH ?_ (aK 1);refine ao (pA (j9 kZ j8) (az 0));exact bY (i:=0) (show(bL ["self","at"] ["state"] [1]).Nodup by decide +kernel) rfl (.inl rfl);exact nj;refine jD 2 ?_;refine cB (bI (aK 1)) ?_
 refine cB (az 0) aM
abbrev Ac:Stmt:=inClass (top 4) 4
theorem Xq:bN ["self","node"] ["self","node"] (aR Ac):=by trivial
def Ji:MS :=
  (aQ (bB dI (ak (iU (dC ["Listed"] "moves_by_node" (aa 0)) (mG (aa 1)) (cD au)) au)))
def fY:List D->aj->Res D:=bO 2 Ji
abbrev rQ(Pr:Program)(w:World)(K:Frag)(mg:Str->Option Value)(base:Heap):Prop:=ie Pr w K mg base "Listed" "moves_from" ["self","node"] 1 (vSp K mg [.v,.s] (rO K) fY)
theorem Xr(Ad:nD K mg "Listed" "moves_from" "Listed.moves_from" Ac)
  (B:cC mg)
  (NK:bK K=true)
  (nR:KC K mg "Listed" "moves_by_node"):
  rQ Pr w K mg base:=by
 refine qU (k:=0) (b:=Ji) Ad Xq (λ_ _ _ _ _ _=>bc λ_=>bc λ_=>cF rfl) [.v,.s] [] gQ (λ_ _ _ _=>.inl ⟨rfl,Rp.non⟩) (body:=λf cdv A outer s H E hr P=>?_);refine aW ?_;refine xG ?_;refine oZ (ms:=[.s]) (hv:=nu) o9 B.list_ ?_;refine aC ?_ aM;refine ao ?_;refine yg NK hr (pA (j9 nR j8) (az 0)) (bI (aK 1)) ?_;refine bD (iR 0 aM)
abbrev Ae:Stmt:=inClass (top 4) 5
theorem Xu:bN ["self","node"] ["self","node"] (aR Ae):=by trivial
def Jj:MS :=
  (aQ (ig false (mG (aa 1)) (dC ["Listed"] "end_nodes" (aa 0))))
def fC:List D->aj->Res D:=bO 2 Jj
abbrev rR(Pr:Program)(w:World)(K:Frag)(mg:Str->Option Value)(base:Heap):Prop:=ie Pr w K mg base "Listed" "is_end" ["self","node"] 1 (vSp K mg [.v,.s] (rV K) fC)
theorem Xv(Af:nD K mg "Listed" "is_end" "Listed.is_end" Ae)
  (B:cC mg)
  (NK:bK K=true)
  (nT:KC K mg "Listed" "end_nodes"):
  rR Pr w K mg base:=by
 refine qU (k:=0) (b:=Jj) Af Xu (λ_ _ _ _ _ _=>bc λ_=>bc λ_=>cF rfl) [.v,.s] [] cL (λ_ _ _ _=>Rp.non) (body:=λf cdv A outer s H E hr P=>?_);refine aW ?_;refine bM ?_;refine bD ?_;refine Hm NK hr (bI (aK 1)) (pA (j9 nT j8) (az 0))
abbrev Ag:Stmt:=top 5
theorem Ah:bN ["trail","nodes","at"] ["trail"] (aR Ag):=by trivial
def uP:MS :=
  (aB (aH 1 (cD au))
  (aB (cu (fj (ak (aq bQ (bA "Listed" "last_at" pM (mG (aa 0)) au) (mC (.int 1))) au)) (mgN 2) (nC 1 (bA "Listed" "nodes_at" lg (mG (aa 0)) (ak (aa 2) au))))
  (aQ (aa 1))))
def uQ:List D->aj->Res D:=bO 3 uP
abbrev Jk(Pr:Program)(w:World)(K:Frag)(mg:Str->Option Value)(base:Heap):Prop:=Can Pr w K mg base "all_nodes" ["trail"] 2 (vSp K mg [.s] (rO K) uQ)
theorem Xw(Ai:Def K mg "all_nodes" Ag)
  (B:cC mg)
  (NK:bK K=true)
  (pN:z8 Pr w K mg base)
  (pO:Aa Pr w K mg base):
  Jk Pr w K mg base:=by
 refine cZ (k:=1) (b:=uP) Ai Ah (λ_ _ _ _ _ _=>bc λ_=>cF rfl) [.s] [.o,.v] gQ (λ_ _ _ _=>.inl ⟨rfl,Rp.non⟩) (body:=λf cdv A outer s H E hr P=>?_);refine aN ?_ ?_;refine uc (i:=1) Ah.nd rfl (.inl rfl) (iR 0 aM);refine aN ?_ (aW (t8 1));refine eG rfl ?_ (bY (i:=2) Ah.nd rfl (.inl rfl)) ?_;refine j7 B.range_ ?_;refine aC ?_ aM;refine aY ?_;refine bR gY ?_ (ao aL);refine ao ?_;refine ur pN (hr.mono (by decide)) (bI (aK 0));refine aW ?_;refine Uh 1 ?_;refine aY ?_;refine pF pO (hr.mono (by decide)) (bI (aK 0)) ?_;refine aC (ao (az 2)) aM
abbrev Aj:Stmt:=top 6
theorem Jl:bN ["move","prices","beyond"] ["move","prices"] (aR Aj):=by trivial
def uR:MS :=
  (aB (aH 2 (aZ (mG (aa 1)) (aq gIx (aa 0) (mC (.int 2)))))
  (aQ (mIf (aJ (cU (aa 2))) (mC .non) (aq bQ (aq gIx (aa 0) (mC (.int 0))) (aa 2)))))
def lq:List D->aj->Res D:=bO 3 uR
abbrev Ak(Pr:Program)(w:World)(K:Frag)(mg:Str->Option Value)(base:Heap):Prop:=Can Pr w K mg base "cost_over" ["move","prices"] 1 (vSp K mg [.s,.s] (rV K) lq)
theorem Xx(Al:Def K mg "cost_over" Aj)
  (B:cC mg)
  (NK:bK K=true):
  Ak Pr w K mg base:=by
 refine cZ (k:=0) (b:=uR) Al Jl (λ_ _ _ _ _ _=>bc λ_=>bc λ_=>cF rfl) [.s,.s] [.v] cL (λ_ _ _ _=>Rp.non) (body:=λf cdv A outer s H E hr P=>?_);refine aN ?_ ?_;refine bG (i:=2) Jl.nd rfl (.inl rfl) ?_;refine eQ NK hr (bI (aK 1)) ?_;refine bH (aK 0) (ao aL);refine aW ?_;refine bM ?_;refine xD ?_ lG ?_;refine mY (ao (az 2));refine bD ?_;refine bR gY ?_ (ao (az 2));refine ao ?_;refine bH (aK 0) (ao aL)
abbrev rT:Stmt:=top 7
theorem Jm:bN ["moves","prices","costs"] ["moves","prices"] (aR rT):=by trivial
def uT:MS :=
  (aB (aH 2 (cN (cg (aa 0)) 1 [1] (mgN 0) eY (aO lq (ak (aa 0) (ak (aa 1) au)))))
  (aQ (bB uy (ak (cN (cg (aa 2)) 1 [] (mgN 0) (aJ (di (aa 0))) (aa 0)) au))))
def lr:List D->aj->Res D:=bO 3 uT
abbrev uU(Pr:Program)(w:World)(K:Frag)(mg:Str->Option Value)(base:Heap):Prop:=Can Pr w K mg base "least_cost" ["moves","prices"] 2 (vSp K mg [.s,.s] (rV K) lr)
theorem Xy(Am:Def K mg "least_cost" rT)
  (B:cC mg)
  (NK:bK K=true)
  (pP:Ak Pr w K mg base):
  uU Pr w K mg base:=by
 refine cZ (k:=1) (b:=uT) Am Jm (λ_ _ _ _ _ _=>bc λ_=>bc λ_=>cF rfl) [.s,.s] [.v] cL (λ_ _ _ _=>Rp.non) (body:=λf cdv A outer s H E hr P=>?_);refine aN ?_ ?_;refine ud (i:=2) (aR rT) ["moves","prices","costs"] ["move"] [1] Jm.nd rfl (.inl rfl) rfl (lN (aK 0)) (λ_ _ _ _ P=>?_) (λ_ _ _ _ P=>?_) (λ_ _ _ _ P=>?_);exact bY (i:=0) (show(bL ["moves","prices","costs"] ["move"] [1]).Nodup by decide +kernel) rfl (.inl rfl);exact nj;refine bT pP (hr.mono (by decide)) ?_;refine aC (ao (az 0)) ?_;refine aC (aK 1) aM;refine aW ?_;refine bM ?_;refine bD ?_
 refine Vd rfl B.min_ ?_;refine aY ?_;refine lH (aR rT) ["moves","prices","costs"] ["cost"] [] rfl ?_ (λ_ _ _ _ P=>?_) (λ_ _ _ _ P=>?_) (λ_ _ _ _ P=>?_);refine lN (ao (az 2));exact bY (i:=0) (show(bL ["moves","prices","costs"] ["cost"] []).Nodup by decide +kernel) rfl (.inl rfl);refine qM ?_;refine qK (ao (az 0));exact az 0
abbrev An:Stmt:=top 8
theorem lW:bN ["trail","at","prices","moves","node","changed","cost"] ["trail","at","prices"] (aR An):=by trivial
def uV:MS :=
  (aB (aH 3 dJ)
  (aB (cu (cg (bA "Listed" "nodes_at" lg (mG (aa 0)) (ak (aa 1) au))) (mgN 4) (aB (cV (aa 3) (aa 4) (bA "Listed" "moves_from" fY (mG (aa 0)) (ak (aa 4) au)))
  (cV (mG (aa 2)) (aa 4) (mIf (bW (bA "Listed" "is_end" fC (mG (aa 0)) (ak (aa 4) au))) (mC (.int 0)) (mC .non)))))
  (aB (aH 5 (mC (.bl true)))
  (j0 fuP (bW (aa 5)) (aB (aH 5 (mC (.bl false)))
  (iW 3 (cu (iC (aa 3)) (mgN 4) (aB (aH 6 (aO lr (ak (aZ (aa 3) (aa 4)) (ak (aa 2) au))))
  (bj (cH (aJ (di (aa 6))) (du (aJ (cU (aZ (mG (aa 2)) (aa 4)))) (aJ (aq gLt (aa 6) (aZ (mG (aa 2)) (aa 4)))))) (aB (cV (mG (aa 2)) (aa 4) (aa 6))
  (aH 5 (mC (.bl true)))) bC)))))))))
def uW:List D->aj->Res D:=bO 7 uV
abbrev Jo(Pr:Program)(w:World)(K:Frag)(mg:Str->Option Value)(base:Heap):Prop:=Can Pr w K mg base "price_nodes" ["trail","at","prices"] 3 (vSp K mg [.s,.s,.s] (rV K) uW)
theorem Xz(Ao:Def K mg "price_nodes" An)
  (B:cC mg)
  (NK:bK K=true)
  (pO:Aa Pr w K mg base)
  (iH:rQ Pr w K mg base)
  (iI:rR Pr w K mg base)
  (lu:uU Pr w K mg base):
  Jo Pr w K mg base:=by
 refine cZ (k:=2) (b:=uV) Ao lW (λ_ _ _ _ _ _=>bc λ_=>bc λ_=>bc λ_=>cF rfl) [.s,.s,.s] [.v,.v,.v,.v] cL (λ_ _ _ _=>Rp.non) (body:=λf cdv A outer s H E hr P=>?_);refine aN (bG (i:=3) lW.nd rfl (.inl rfl) nH) ?_;refine aN ?_ ?_;refine eG rfl ?_ (bY (i:=4) lW.nd rfl (.inl rfl)) ?_;refine pC ?_;refine xV ?_;refine bD ?_;refine pF pO (hr.mono (by decide)) (bI (aK 0)) ?_;refine aC (aK 1) aM;refine aN ?_ ?_;refine jG NK hr (az 3) (az 4) ?_;refine bD ?_;refine pF iH (hr.mono (by decide)) (bI (aK 0)) ?_;refine aC (ao (az 4)) aM;refine aW ?_;refine jG NK hr (bI (aK 2)) (az 4) ?_
 refine xD ?_ aL lG;refine dY ?_;refine ao ?_;refine uq iI (hr.mono (by decide)) (bI (aK 0)) ?_;refine aC (ao (az 4)) aM;refine aN (bG (i:=5) lW.nd rfl (.inl rfl) dX) ?_;refine aW ?_;refine GJ fuP ?_ ?_;refine dY (ao (az 5));refine aN (bG (i:=5) lW.nd rfl (.inl rfl) dX) ?_;refine aW ?_;refine uB 3 ?_;refine eG rfl (yp (az 3)) (bY (i:=4) lW.nd rfl (.inl rfl)) ?_;refine aN ?_ ?_;refine bG (i:=6) lW.nd rfl (.inl rfl) ?_;refine bT lu (hr.mono (by decide)) ?_;refine aC ?_ ?_;refine ao ?_;refine eQ NK hr (az 3) (az 4);refine aC (aK 2) aM;refine aW ?_;refine cY ?_ ?_ cX
 refine dZ ?_;refine jY ?_ ?_;refine qK (ao (az 6));refine jX ?_;refine dZ ?_;refine gR ?_ ?_;refine mY ?_;refine ao ?_;refine eQ NK hr (bI (aK 2)) (az 4);refine jE ?_;refine cW xN (ao (az 6)) ?_ (cT _);refine ao ?_;refine eQ NK hr (bI (aK 2)) (az 4);refine aN ?_ ?_;refine jG NK hr (bI (aK 2)) (az 4) (az 6);refine aW (bG (i:=5) lW.nd rfl (.inl rfl) dX)
abbrev Aq:Stmt:=top 9
theorem Ar:bN ["trail","prices","at"] ["trail"] (aR Aq):=by trivial
def uX:MS :=
  (aB (aH 1 dJ)
  (aB (cu (uz (ak (bA "Listed" "last_at" pM (mG (aa 0)) au) (ak (mUn eO (mC (.int 1))) (ak (mUn eO (mC (.int 1))) au)))) (mgN 2) (qL (aO uW (ak (aa 0) (ak (aa 2) (ak (aa 1) au))))))
  (aQ (aa 1))))
def lX:List D->aj->Res D:=bO 3 uX
abbrev Av(Pr:Program)(w:World)(K:Frag)(mg:Str->Option Value)(base:Heap):Prop:=Can Pr w K mg base "priced" ["trail"] 4 (vSp K mg [.s] (rV K) lX)
theorem XC(Aw:Def K mg "priced" Aq)
  (B:cC mg)
  (NK:bK K=true)
  (pN:z8 Pr w K mg base)
  (Ay:Jo Pr w K mg base):
  Av Pr w K mg base:=by
 refine cZ (k:=3) (b:=uX) Aw Ar (λ_ _ _ _ _ _=>bc λ_=>cF rfl) [.s] [.v,.v] cL (λ_ _ _ _=>Rp.non) (body:=λf cdv A outer s H E hr P=>?_);refine aN (bG (i:=1) Ar.nd rfl (.inl rfl) nH) ?_;refine aN ?_ ?_;refine eG rfl ?_ (bY (i:=2) Ar.nd rfl (.inl rfl)) ?_;refine Vi B.range_ ?_;refine aC ?_ ?_;refine ao ?_;refine ur pN (hr.mono (by decide)) (bI (aK 0));refine aC ?_ ?_;refine aY ?_;refine qQ (ao aL);refine aC ?_ aM;refine aY ?_;refine qQ (ao aL);refine aW ?_;refine S5 ?_;refine ao ?_;refine bT Ay (hr.mono (by decide)) ?_;refine aC (aK 0) ?_;refine aC (ao (az 2)) ?_
 refine aC (ao (az 1)) aM;refine aW (bM (az 1))
abbrev uY:Stmt:=top 10
theorem Jp:bN ["moves","prices","least"] ["moves","prices"] (aR uY):=by trivial
def uZ:MS :=
  (aB (aH 2 (aO lr (ak (aa 0) (ak (aa 1) au))))
  (aQ (aq gIx (cN (cg (aa 0)) 1 [1,2] (mgN 0) (aJ (aq gEq (aO lq (ak (aa 0) (ak (aa 1) au))) (aa 2))) (aa 0)) (mC (.int 0)))))
def rY:List D->aj->Res D:=bO 3 uZ
abbrev Jq(Pr:Program)(w:World)(K:Frag)(mg:Str->Option Value)(base:Heap):Prop:=Can Pr w K mg base "first_cheapest" ["moves","prices"] 3 (vSp K mg [.s,.s] (rV K) rY)
theorem XD(Az:Def K mg "first_cheapest" uY)
  (B:cC mg)
  (NK:bK K=true)
  (lu:uU Pr w K mg base)
  (pP:Ak Pr w K mg base):
  Jq Pr w K mg base:=by
 refine cZ (k:=2) (b:=uZ) Az Jp (λ_ _ _ _ _ _=>bc λ_=>bc λ_=>cF rfl) [.s,.s] [.v] cL (λ_ _ _ _=>Rp.non) (body:=λf cdv A outer s H E hr P=>?_);refine aN ?_ ?_;refine bG (i:=2) Jp.nd rfl (.inr rfl) ?_;refine bT lu (hr.mono (by decide)) ?_;refine aC (aK 0) ?_;refine aC (aK 1) aM;refine aW ?_;refine bM ?_;refine bH ?_ (ao aL);refine aY ?_;refine lH (aR uY) ["moves","prices","least"] ["move"] [1,2] rfl (lN (aK 0)) (λ_ _ _ _ P=>?_) (λ_ _ _ _ P=>?_) (λ_ _ _ _ P=>?_);exact bY (i:=0) (show(bL ["moves","prices","least"] ["move"] [1,2]).Nodup by decide +kernel) rfl (.inl rfl)
 refine qM ?_;refine cW (gZ hr) ?_ (ao (az 2)) (cT _);refine ao ?_;refine bT pP (hr.mono (by decide)) ?_;refine aC (ao (az 0)) ?_;refine aC (aK 1) aM;exact az 0
abbrev Ba:Stmt:=top 11
theorem nW:bN ["trail","prices","node","cost","names","move"] ["trail"] (aR Ba):=by trivial
def u0:MS :=
  (aB (aH 1 (aO lX (ak (aa 0) au)))
  (aB (aH 2 (bA "Listed" "first_node" nU (mG (aa 0)) au))
  (aB (aH 3 (aZ (aa 1) (aa 2)))
  (aB (bj (aJ (cU (aa 3))) (aQ (mC .non)) bC)
  (aB (aH 4 (mMl (cD au)))
  (aB (j0 fuW (dH (bW (bA "Listed" "is_end" fC (mG (aa 0)) (ak (aa 2) au)))) (aB (aH 5 (aO rY (ak (bA "Listed" "moves_from" fY (mG (aa 0)) (ak (aa 2) au)) (ak (aa 1) au))))
  (aB (kh (aa 4) (aq gIx (aa 5) (mC (.int 1))))
  (aH 2 (aq gIx (aa 5) (mC (.int 2)))))))
  (aQ (cM (ak (aa 3) (ak (aa 4) au))))))))))
def nY:List D->aj->Res D:=bO 6 u0
abbrev Jr(Pr:Program)(w:World)(K:Frag)(mg:Str->Option Value)(base:Heap):Prop:=Can Pr w K mg base "way_of" ["trail"] 5 (vSp K mg [.s] (rV K) nY)
theorem XH(Bb:Def K mg "way_of" Ba)
  (B:cC mg)
  (NK:bK K=true)
  (nZ:Av Pr w K mg base)
  (pQ:yX Pr w K mg base)
  (iI:rR Pr w K mg base)
  (Bc:Jq Pr w K mg base)
  (iH:rQ Pr w K mg base):
  Jr Pr w K mg base:=by
 refine cZ (k:=4) (b:=u0) Bb nW (λ_ _ _ _ _ _=>bc λ_=>cF rfl) [.s] [.v,.v,.v,.v,.v] cL (λ_ _ _ _=>Rp.non) (body:=λf cdv A outer s H E hr P=>?_);refine aN ?_ ?_;refine bG (i:=1) nW.nd rfl (.inl rfl) ?_;refine bT nZ (hr.mono (by decide)) ?_;refine aC (aK 0) aM;refine aN ?_ ?_;refine bG (i:=2) nW.nd rfl (.inl rfl) ?_;refine ur pQ (hr.mono (by decide)) (bI (aK 0));refine aN ?_ ?_;refine bG (i:=3) nW.nd rfl (.inl rfl) ?_;refine eQ NK hr (az 1) (az 2);refine aN ?_ ?_;refine cY ?_ ?_ cX;refine mY (ao (az 3));refine aW (bM lG);refine aN ?_ ?_;refine bG (i:=4) nW.nd rfl (.inl rfl) ?_
 refine uv (iR 0 aM);refine aN ?_ ?_;refine GJ fuW ?_ ?_;refine gU ?_;refine dY ?_;refine ao ?_;refine uq iI (hr.mono (by decide)) (bI (aK 0)) ?_;refine aC (ao (az 2)) aM;refine aN ?_ ?_;refine bG (i:=5) nW.nd rfl (.inl rfl) ?_;refine bT Bc (hr.mono (by decide)) ?_;refine aC ?_ ?_;refine aY ?_;refine pF iH (hr.mono (by decide)) (bI (aK 0)) ?_;refine aC (ao (az 2)) aM;refine aC (ao (az 1)) aM;refine aN ?_ ?_;refine yc (az 4) ?_;refine bH (ao (az 5)) (ao aL);refine aW ?_;refine bG (i:=2) nW.nd rfl (.inl rfl) ?_;refine bH (ao (az 5)) (ao aL);refine aW ?_
 refine bM ?_;refine jD 2 ?_;refine cB (az 3) ?_;refine cB (az 4) aM
abbrev u5:Stmt:=top 12
theorem n6:bN ["trail","names","node","cost","name","taken"] ["trail","names"] (aR u5):=by trivial
def Js:MS :=
  (aB (aH 2 (bA "Listed" "first_node" nU (mG (aa 0)) au))
  (aB (aH 3 (mC (.int 0)))
  (aB (cu (cg (aa 1)) (mgN 4) (aB (aH 5 (cN (cg (bA "Listed" "moves_from" fY (mG (aa 0)) (ak (aa 2) au))) 1 [4] (mgN 0) (aJ (aq gEq (aq gIx (aa 0) (mC (.int 1))) (aa 1))) (aa 0)))
  (aB (bj (aJ (aq gEq (bB dg (ak (aa 5) au)) (mC (.int 0)))) (aQ (mC .non)) bC)
  (aB (aH 3 (aq bQ (aa 3) (aq gIx (aq gIx (aa 5) (mC (.int 0))) (mC (.int 0)))))
  (aH 2 (aq gIx (aq gIx (aa 5) (mC (.int 0))) (mC (.int 2))))))))
  (aQ (mIf (bW (bA "Listed" "is_end" fC (mG (aa 0)) (ak (aa 2) au))) (aa 3) (mC .non))))))
def u6:List D->aj->Res D:=bO 6 Js
abbrev Jt(Pr:Program)(w:World)(K:Frag)(mg:Str->Option Value)(base:Heap):Prop:=Can Pr w K mg base "walked" ["trail","names"] 2 (vSp K mg [.s,.s] (rV K) u6)
theorem XJ(Bd:Def K mg "walked" u5)
  (B:cC mg)
  (NK:bK K=true)
  (pQ:yX Pr w K mg base)
  (iH:rQ Pr w K mg base)
  (iI:rR Pr w K mg base):
  Jt Pr w K mg base:=by
 refine cZ (k:=1) (b:=Js) Bd n6 (λ_ _ _ _ _ _=>bc λ_=>bc λ_=>cF rfl) [.s,.s] [.v,.v,.v,.v] cL (λ_ _ _ _=>Rp.non) (body:=λf cdv A outer s H E hr P=>?_);refine aN ?_ ?_;refine bG (i:=2) n6.nd rfl (.inl rfl) ?_;refine ur pQ (hr.mono (by decide)) (bI (aK 0));refine aN (bG (i:=3) n6.nd rfl (.inl rfl) aL) ?_;refine aN ?_ ?_;refine eG rfl (pC (pq 1)) (bY (i:=4) n6.nd rfl (.inr rfl)) ?_;refine aN ?_ ?_;refine ud (i:=5) (aR u5) ["trail","names","node","cost","name","taken"] ["move"] [4] n6.nd rfl (.inl rfl) rfl ?_ (λ_ _ _ _ P=>?_) (λ_ _ _ _ P=>?_) (λ_ _ _ _ P=>?_)
 refine lN ?_;refine aY ?_;refine pF iH (hr.mono (by decide)) (bI (aK 0)) ?_;refine aC (ao (az 2)) aM;exact bY (i:=0) (show(bL ["trail","names","node","cost","name","taken"] ["move"] [4]).Nodup by decide +kernel) rfl (.inl rfl);refine qM ?_;refine cW (gZ hr) ?_ (ao (az 1)) (cT _);refine ao ?_;refine bH (ao (az 0)) (ao aL);exact az 0;refine aN ?_ ?_;refine cY ?_ ?_ cX;refine cW (gZ hr) ?_ (ao aL) (cT _);refine aY ?_;refine fG (ms:=[.s]) (hv:=iz) iy B.len_ ?_;refine aC (ao (az 5)) aM;refine aW (bM lG);refine aN ?_ ?_;refine bG (i:=3) n6.nd rfl (.inl rfl) ?_
 refine bD ?_;refine bR gY (ao (az 3)) ?_;refine ao ?_;refine bH ?_ (ao aL);refine ao ?_;refine bH (ao (az 5)) (ao aL);refine aW ?_;refine bG (i:=2) n6.nd rfl (.inl rfl) ?_;refine bH ?_ (ao aL);refine ao ?_;refine bH (ao (az 5)) (ao aL);refine aW ?_;refine bM ?_;refine xD ?_ (az 3) lG;refine dY ?_;refine ao ?_;refine uq iI (hr.mono (by decide)) (bI (aK 0)) ?_;refine aC (ao (az 2)) aM
abbrev rZ:Stmt:=top 13
theorem Ju:bN ["one","other"] ["one","other"] (aR rZ):=by trivial
def pR(self:List D->aj->Res D):MS :=
  (aB (bj (cH (bW (fH "tuple" (aa 0))) (bW (fH "tuple" (aa 1)))) (aQ (gh (aq gEq (bB dg (ak (aa 0) au)) (bB dg (ak (aa 1) au))) (bB j5 (ak (cN (yG (mG (aa 0)) (mG (aa 1))) 2 [] (m5 2 (fD (mgN 0) (fD (mgN 1) oU))) eY (aO self (ak (aa 0) (ak (aa 1) au)))) au)))) bC)
  (aQ (gh (aq gEq (aO rN (ak (aa 0) au)) (aO rN (ak (aa 1) au))) (aq gEq (aa 0) (aa 1)))))
def lY:Nat->List D->aj->Res D
 | 0=>bO 2 xF
 |n+1=>bO 2 (pR (lY n))
def sr:List D->aj->Res D:=lY 3
abbrev XM(Pr:Program)(w:World)(K:Frag)(mg:Str->Option Value)(base:Heap):Prop:=Can Pr w K mg base "is_same" ["one","other"] 5 (vSp K mg [.s,.s] (rV K) sr)
theorem Jv(n8:Def K mg "is_same" rZ)
  (B:cC mg)
  (NK:bK K=true)
  (jJ:uN Pr w K mg base):
  ∀n:Nat,Can Pr w K mg base "is_same" ["one","other"] (1+n+1) (vSp K mg [.s,.s] (rV K) (lY n))
 | 0=>cZ (k:=1) (b:=xF) n8 Ju (λ_ _ _ _ _ _=>bc λ_=>bc λ_=>cF rfl) [.s,.s] [] cL (λ_ _ _ _=>Rp.non) (body:=λf cdv A outer s H E hr P=>Ux)
 |n+1=>by
  have su:=Jv n8 B NK jJ n;refine cZ (k:=1+n+1) (b:=pR (lY n)) n8 Ju (λ_ _ _ _ _ _=>bc λ_=>bc λ_=>cF rfl) [.s,.s] [] cL (λ_ _ _ _=>Rp.non) (body:=λf cdv A outer s H E hr P=>?_);refine aN ?_ ?_;refine cY ?_ ?_ cX;refine dZ ?_;refine jY ?_ ?_;refine dY ?_;refine aY (lL "tuple" (hb:=xQ) B.isinstance_ B.tuple_ (aK 0));refine jX ?_;refine dY ?_;refine aY (lL "tuple" (hb:=xQ) B.isinstance_ B.tuple_ (aK 1));refine aW ?_;refine bM ?_;refine mZ ?_ ?_;refine bD ?_;refine qJ (gZ hr) ?_ ?_ (cT _);refine aY ?_;refine fG (ms:=[.s]) (hv:=iz) iy B.len_ ?_
  refine aC (aK 0) aM;refine aY ?_;refine fG (ms:=[.s]) (hv:=iz) iy B.len_ ?_;refine aC (aK 1) aM;refine jZ ?_;refine bD ?_;refine fG (ms:=[.s]) (hv:=uh) (ug rfl) B.all_ ?_;refine aC ?_ aM;refine aY ?_;refine lH (aR rZ) ["one","other"] ["a","b"] [] rfl ?_ (λ_ _ _ _ P=>?_) (λ_ _ _ _ P=>?_) (λ_ _ _ _ P=>?_);refine oW ?_;refine Wq B.zip_ (bI (aK 0)) (bI (aK 1));refine GC 2 rfl ?_;refine oV (bY (i:=0) (show(bL ["one","other"] ["a","b"] []).Nodup by decide +kernel) rfl (.inl rfl)) ?_;refine oV (bY (i:=1) (show(bL ["one","other"] ["a","b"] []).Nodup by decide +kernel) rfl (.inl rfl)) Gz
  exact nj
  refine bT su (hr.mono (by omega)) ?_;refine aC (ao (az 0)) ?_;refine aC (ao (az 1)) aM;refine aW ?_;refine bM ?_;refine mZ ?_ ?_;refine bD ?_;refine qJ (gZ hr) ?_ ?_ (cT _);refine ao ?_;refine bT jJ (hr.mono (by omega)) ?_;refine aC (aK 0) aM;refine ao ?_;refine bT jJ (hr.mono (by omega)) ?_;refine aC (aK 1) aM;refine jZ ?_;refine bD ?_;refine qJ (gZ hr) (aK 0) (aK 1) (cT _)
theorem XN(n8:Def K mg "is_same" rZ)
  (B:cC mg)
  (NK:bK K=true)
  (jJ:uN Pr w K mg base):
  Can Pr w K mg base "is_same" ["one","other"] 5 (vSp K mg [.s,.s] (rV K) sr):=Jv n8 B NK jJ 3
abbrev u9:Stmt:=top 14
theorem Be:bN ["prices","nodes","keys","key"] ["prices","nodes"] (aR u9):=by trivial
def vd:MS :=
  (aB (aH 2 dJ)
  (aB (iW 0 (cu (iC (mG (aa 0))) (mgN 3) (cV (aa 2) (aa 3) (aa 3))))
  (aQ (gh (aq gEq (kj (aa 2)) (bB dg (ak (aa 1) au))) (bB j5 (ak (cN (cg (aa 1)) 1 [2] (mgN 0) eY (gh (ig false (aa 0) (aa 1)) (aO sr (ak (aZ (aa 1) (aa 0)) (ak (aa 0) au))))) au))))))
def vf:List D->aj->Res D:=bO 4 vd
abbrev Jw(Pr:Program)(w:World)(K:Frag)(mg:Str->Option Value)(base:Heap):Prop:=Can Pr w K mg base "has_just" ["prices","nodes"] 6 (vSp K mg [.s,.s] (rV K) vf)
theorem XQ(Bf:Def K mg "has_just" u9)
  (B:cC mg)
  (NK:bK K=true)
  (su:XM Pr w K mg base):
  Jw Pr w K mg base:=by
 refine cZ (k:=5) (b:=vd) Bf Be (λ_ _ _ _ _ _=>bc λ_=>bc λ_=>cF rfl) [.s,.s] [.v,.v] cL (λ_ _ _ _=>Rp.non) (body:=λf cdv A outer s H E hr P=>?_);refine aN (bG (i:=2) Be.nd rfl (.inr rfl) nH) ?_;refine aN ?_ ?_;refine uB 0 ?_;refine eG rfl ?_ (bY (i:=3) Be.nd rfl (.inl rfl)) ?_;refine yp (bI (aK 0));refine aW ?_;refine jG NK hr (az 2) (az 3) (az 3);refine aW ?_;refine bM ?_;refine mZ ?_ ?_;refine bD ?_;refine qJ (gZ hr) ?_ ?_ (cT _);refine aY (yq B.len_ (az 2));refine aY ?_;refine fG (ms:=[.s]) (hv:=iz) iy B.len_ ?_;refine aC (aK 1) aM;refine jZ ?_
 refine bD ?_;refine fG (ms:=[.s]) (hv:=uh) (ug rfl) B.all_ ?_;refine aC ?_ aM;refine aY ?_;refine lH (aR u9) ["prices","nodes","keys","key"] ["node"] [2] rfl (lN (aK 1)) (λ_ _ _ _ P=>?_) (λ_ _ _ _ P=>?_) (λ_ _ _ _ P=>?_);exact bY (i:=0) (show(bL ["prices","nodes","keys","key"] ["node"] [2]).Nodup by decide +kernel) rfl (.inl rfl);exact nj;refine mZ ?_ ?_;refine bD ?_;refine Hm NK hr (az 0) (az 1);refine jZ ?_;refine bT su (hr.mono (by decide)) ?_;refine aC ?_ ?_;refine ao ?_;refine eQ NK hr (az 1) (az 0);refine aC (ao (az 0)) aM
abbrev Bg:Stmt:=top 15
theorem Bh:bN ["trail","node","prices","price","least"] ["trail","node","prices"] (aR Bg):=by trivial
def vg:MS :=
  (aB (aH 3 (aZ (mG (aa 2)) (mG (aa 1))))
  (aB (bj (cH (bW (bA "Listed" "is_end" fC (mG (aa 0)) (ak (aa 1) au))) (du (aJ (cU (aa 3))) (aJ (aq gGt (aa 3) (mC (.int 0)))))) (aQ (mC (.bl false))) bC)
  (aB (aH 4 (aO lr (ak (bA "Listed" "moves_from" fY (mG (aa 0)) (ak (aa 1) au)) (ak (aa 2) au))))
  (aQ (oR (cU (aa 4)) (gh (di (aa 3)) (aq gLe (aa 3) (aa 4))))))))
def vh:List D->aj->Res D:=bO 5 vg
abbrev Jx(Pr:Program)(w:World)(K:Frag)(mg:Str->Option Value)(base:Heap):Prop:=Can Pr w K mg base "is_fair_at" ["trail","node","prices"] 3 (vSp K mg [.s,.s,.s] (rV K) vh)
theorem XR(Bj:Def K mg "is_fair_at" Bg)
  (B:cC mg)
  (NK:bK K=true)
  (iI:rR Pr w K mg base)
  (lu:uU Pr w K mg base)
  (iH:rQ Pr w K mg base):
  Jx Pr w K mg base:=by
 refine cZ (k:=2) (b:=vg) Bj Bh (λ_ _ _ _ _ _=>bc λ_=>bc λ_=>bc λ_=>cF rfl) [.s,.s,.s] [.v,.v] cL (λ_ _ _ _=>Rp.non) (body:=λf cdv A outer s H E hr P=>?_);refine aN ?_ ?_;refine bG (i:=3) Bh.nd rfl (.inl rfl) ?_;refine eQ NK hr (bI (aK 2)) (bI (aK 1));refine aN ?_ ?_;refine cY ?_ ?_ cX;refine dZ ?_;refine jY ?_ ?_;refine dY ?_;refine ao ?_;refine uq iI (hr.mono (by decide)) (bI (aK 0)) ?_;refine aC (aK 1) aM;refine jX ?_;refine dZ ?_;refine gR ?_ ?_;refine mY (ao (az 3));refine jE ?_;refine cW xO (ao (az 3)) (ao aL) (cT _);refine aW (bM dX)
 refine aN ?_ ?_;refine bG (i:=4) Bh.nd rfl (.inl rfl) ?_;refine bT lu (hr.mono (by decide)) ?_;refine aC ?_ ?_;refine aY ?_;refine pF iH (hr.mono (by decide)) (bI (aK 0)) ?_;refine aC (aK 1) aM;refine aC (aK 2) aM;refine aW ?_;refine bM ?_;refine Gv ?_ ?_;refine bD ?_;refine xC (ao (az 4));refine jZ ?_;refine mZ ?_ ?_;refine bD ?_;refine SM (ao (az 3));refine jZ ?_;refine bD ?_;refine qJ Tn (ao (az 3)) (ao (az 4)) (cT _)
abbrev sy:Stmt:=top 16
theorem Jy:bN ["trail","prices","nodes"] ["trail","prices"] (aR sy):=by trivial
def vm:MS :=
  (aB (aH 2 (aO uQ (ak (aa 0) au)))
  (aB (bj (du (dH (bW (nM (mG (aa 1))))) (dH (bW (aO vf (ak (aa 1) (ak (aa 2) au)))))) (aQ (mC (.bl false))) bC)
  (aB (iW 1 (bj (dH (bW (bB j5 (ak (cN (uF (mG (aa 1))) 1 [] (mgN 0) eY (oR (cU (aa 0)) (aO rN (ak (aa 0) au)))) au)))) (aQ (mC (.bl false))) bC))
  (aQ (bB j5 (ak (cN (cg (aa 2)) 1 [0,1] (mgN 0) eY (aO vh (ak (aa 1) (ak (aa 0) (ak (aa 2) au))))) au))))))
def vo:List D->aj->Res D:=bO 3 vm
abbrev Jz(Pr:Program)(w:World)(K:Frag)(mg:Str->Option Value)(base:Heap):Prop:=Can Pr w K mg base "fair" ["trail","prices"] 7 (vSp K mg [.s,.s] (rV K) vo)
theorem XS(Bk:Def K mg "fair" sy)
  (B:cC mg)
  (NK:bK K=true)
  (Bl:Jk Pr w K mg base)
  (Bm:Jw Pr w K mg base)
  (jJ:uN Pr w K mg base)
  (Bo:Jx Pr w K mg base):
  Jz Pr w K mg base:=by
 refine cZ (k:=6) (b:=vm) Bk Jy (λ_ _ _ _ _ _=>bc λ_=>bc λ_=>cF rfl) [.s,.s] [.v] cL (λ_ _ _ _=>Rp.non) (body:=λf cdv A outer s H E hr P=>?_);refine aN ?_ ?_;refine bG (i:=2) Jy.nd rfl (.inl rfl) ?_;refine bD ?_;refine qW Bl (hr.mono (by decide)) ?_;refine aC (aK 0) aM;refine aN ?_ ?_;refine cY ?_ ?_ cX;refine dZ ?_;refine gR ?_ ?_;refine gU ?_;refine dY ?_;refine aY ?_;refine Ht B.isinstance_ B.dict_ (bI (aK 1));refine jE ?_;refine gU ?_;refine dY ?_;refine ao ?_;refine bT Bm (hr.mono (by decide)) ?_;refine aC (aK 1) ?_;refine aC (ao (az 2)) aM
 refine aW (bM dX);refine aN ?_ ?_;refine uB 1 ?_;refine cY ?_ ?_ cX;refine gU ?_;refine dY ?_;refine aY ?_;refine fG (ms:=[.s]) (hv:=uh) (ug rfl) B.all_ ?_;refine aC ?_ aM;refine aY ?_;refine lH (aR sy) ["trail","prices","nodes"] ["price"] [] rfl ?_ (λ_ _ _ _ P=>?_) (λ_ _ _ _ P=>?_) (λ_ _ _ _ P=>?_);refine oW ?_;refine V9 (bI (aK 1));exact bY (i:=0) (show(bL ["trail","prices","nodes"] ["price"] []).Nodup by decide +kernel) rfl (.inl rfl);exact nj;refine Gv ?_ ?_;refine bD ?_;refine xC (ao (az 0));refine jZ ?_;refine bT jJ (hr.mono (by decide)) ?_;refine aC (ao (az 0)) aM
 refine aW (bM dX);refine aW ?_;refine bM ?_;refine bD ?_;refine fG (ms:=[.s]) (hv:=uh) (ug rfl) B.all_ ?_;refine aC ?_ aM;refine aY ?_;refine lH (aR sy) ["trail","prices","nodes"] ["node"] [0,1] rfl ?_ (λ_ _ _ _ P=>?_) (λ_ _ _ _ P=>?_) (λ_ _ _ _ P=>?_);refine lN (ao (az 2));exact bY (i:=0) (show(bL ["trail","prices","nodes"] ["node"] [0,1]).Nodup by decide +kernel) rfl (.inl rfl);exact nj;refine bT Bo (hr.mono (by decide)) ?_;refine aC (aK 1) ?_;refine aC (ao (az 0)) ?_;refine aC (aK 2) aM
abbrev Bp:Stmt:=top 18
theorem XX:bN ["_law_script","_law_k"] ["_law_script","_law_k"] (aR Bp):=by trivial
def Bq:MS :=
  (aB (bj (aJ (aq gLt (aa 1) (bB dg (ak (aa 0) au)))) (aQ (aq gIx (aa 0) (aa 1))) bC)
  (aQ (mC (.int 0))))
def lZ:List D->aj->Res D:=bO 2 Bq
abbrev JB(Pr:Program)(w:World)(K:Frag)(mg:Str->Option Value)(base:Heap):Prop:=Can Pr w K mg base "_law_cell_at" ["_law_script","_law_k"] 1 (vSp K mg [.s,.s] (rV K) lZ)
theorem X3(Br:Def K mg "_law_cell_at" Bp)
  (B:cC mg)
  (NK:bK K=true):
  JB Pr w K mg base:=by
 refine cZ (k:=0) (b:=Bq) Br XX (λ_ _ _ _ _ _=>bc λ_=>bc λ_=>cF rfl) [.s,.s] [] cL (λ_ _ _ _=>Rp.non) (body:=λf cdv A outer s H E hr P=>?_);refine aN ?_ ?_;refine cY ?_ ?_ cX;refine cW xN (aK 1) ?_ (cT _);refine aY ?_;refine fG (ms:=[.s]) (hv:=iz) iy B.len_ ?_;refine aC (aK 0) aM;refine aW ?_;refine bM ?_;refine bH (aK 0) (aK 1);refine aW (bM aL)
abbrev Bs:Stmt:=top 19
theorem oh:bN ["_law_cell","_law_k","_law_rest","_law_turn","_law_number"] ["_law_cell","_law_k"] (aR Bs):=by trivial
def JC:MS :=
  (aB (bj (aJ (aq gGt (aa 0) (aq fU (mC (.int 10)) (mC (.int 18))))) (aB (aH 2 (mG (aa 0)))
  (aB (cu (fj (ak (aa 1) au)) (mgN 3) (aH 2 (aq lJ (aa 2) (aq fU (mC (.int 10)) (mC (.int 9))))))
  (aQ (aq bZ (aa 2) (aq fU (mC (.int 10)) (mC (.int 9))))))) bC)
  (aB (aH 4 (aq bQ (aq bZ (aa 0) (mC (.int 2147483647))) (mC (.int 7919))))
  (aB (cu (fj (ak (aq bQ (aa 1) (mC (.int 2))) au)) (mgN 3) (aH 4 (aq bZ (aq bQ (aq eZ (aa 4) (mC (.int 48271))) (mC (.int 104729))) (mC (.int 2147483629)))))
  (aQ (aq lJ (aq bZ (aq eZ (aa 4) (aa 4)) (mC (.int 998244353))) (mC (.int 11)))))))
def eV:List D->aj->Res D:=bO 5 JC
abbrev vp(Pr:Program)(w:World)(K:Frag)(mg:Str->Option Value)(base:Heap):Prop:=Can Pr w K mg base "_law_mix" ["_law_cell","_law_k"] 1 (vSp K mg [.s,.s] (rV K) eV)
theorem X4(Bt:Def K mg "_law_mix" Bs)
  (B:cC mg)
  (NK:bK K=true):
  vp Pr w K mg base:=by
 refine cZ (k:=0) (b:=JC) Bt oh (λ_ _ _ _ _ _=>bc λ_=>bc λ_=>cF rfl) [.s,.s] [.v,.v,.v] cL (λ_ _ _ _=>Rp.non) (body:=λf cdv A outer s H E hr P=>?_);refine aN ?_ ?_;refine cY ?_ ?_ cX;refine cW xO (aK 0) ?_ (cT _);refine aY ?_;refine bR qP (ao aL) (ao aL);refine aN ?_ ?_;refine bG (i:=2) oh.nd rfl (.inl rfl) (bI (aK 0));refine aN ?_ ?_;refine eG rfl ?_ (bY (i:=3) oh.nd rfl (.inl rfl)) ?_;refine j7 B.range_ ?_;refine aC (aK 1) aM;refine aW ?_;refine bG (i:=2) oh.nd rfl (.inl rfl) ?_;refine bD ?_;refine bR GX (ao (az 2)) ?_;refine aY ?_;refine bR qP (ao aL) (ao aL)
 refine aW ?_;refine bM ?_;refine bD ?_;refine bR gj (ao (az 2)) ?_;refine aY ?_;refine bR qP (ao aL) (ao aL);refine aN ?_ ?_;refine bG (i:=4) oh.nd rfl (.inl rfl) ?_;refine bD ?_;refine bR gY ?_ (ao aL);refine aY ?_;refine bR gj (aK 0) (ao aL);refine aN ?_ ?_;refine eG rfl ?_ (bY (i:=3) oh.nd rfl (.inl rfl)) ?_;refine j7 B.range_ ?_;refine aC ?_ aM;refine aY ?_;refine bR gY (aK 1) (ao aL);refine aW ?_;refine bG (i:=4) oh.nd rfl (.inl rfl) ?_;refine bD ?_;refine bR gj ?_ (ao aL);refine aY ?_;refine bR gY ?_ (ao aL);refine aY ?_;refine bR ue (ao (az 4)) (ao aL)
 refine aW ?_;refine bM ?_;refine bD ?_;refine bR GX ?_ (ao aL);refine aY ?_;refine bR gj ?_ (ao aL);refine aY ?_;refine bR ue (ao (az 4)) (ao (az 4))
abbrev Bu:Stmt:=top 20
theorem X5:bN ["_law_thing"] ["_law_thing"] (aR Bu):=by trivial
def JD:MS :=
  (aQ (gh (fH "int" (aa 0)) (t7 (fH "bool" (aa 0)))))
def pU:List D->aj->Res D:=bO 1 JD
abbrev Bv(Pr:Program)(w:World)(K:Frag)(mg:Str->Option Value)(base:Heap):Prop:=Can Pr w K mg base "_law_whole" ["_law_thing"] 1 (vSp K mg [.s] (rV K) pU)
theorem X6(Bw:Def K mg "_law_whole" Bu)
  (B:cC mg)
  (NK:bK K=true):
  Bv Pr w K mg base:=by
 refine cZ (k:=0) (b:=JD) Bw X5 (λ_ _ _ _ _ _=>bc λ_=>cF rfl) [.s] [] cL (λ_ _ _ _=>Rp.non) (body:=λf cdv A outer s H E hr P=>?_);refine aW ?_;refine bM ?_;refine mZ ?_ ?_;refine bD (lL "int" (hb:=G7) B.isinstance_ B.int_ (aK 0));refine jZ ?_;refine Gw ?_;refine bD (lL "bool" (hb:=G8) B.isinstance_ B.bool_ (aK 0))
abbrev vq:Stmt:=top 21
theorem X7:bN ["_law_cell"] ["_law_cell"] (aR vq):=by trivial
def Bx:MS :=
  (aQ (cN (fj (ak (aq bQ (mC (.int 1)) (aq bZ (aO eV (ak (aa 0) (ak (mC (.int 8)) au))) (mC (.int 5)))) au)) 1 [0] (mgN 0) eY (aq bQ (mC (.int 1)) (aq bZ (aO eV (ak (aa 1) (ak (aa 0) au))) (mC (.int 3))))))
def sE:List D->aj->Res D:=bO 1 Bx
abbrev JF(Pr:Program)(w:World)(K:Frag)(mg:Str->Option Value)(base:Heap):Prop:=Can Pr w K mg base "_law_sizes" ["_law_cell"] 2 (vSp K mg [.s] (rO K) sE)
theorem X8(By:Def K mg "_law_sizes" vq)
  (B:cC mg)
  (NK:bK K=true)
  (gw:vp Pr w K mg base):
  JF Pr w K mg base:=by
 refine cZ (k:=1) (b:=Bx) By X7 (λ_ _ _ _ _ _=>bc λ_=>cF rfl) [.s] [] gQ (λ_ _ _ _=>.inl ⟨rfl,Rp.non⟩) (body:=λf cdv A outer s H E hr P=>?_);refine aW ?_;refine xG ?_;refine lH (aR vq) ["_law_cell"] ["_law_k"] [0] rfl ?_ (λ_ _ _ _ P=>?_) (λ_ _ _ _ P=>?_) (λ_ _ _ _ P=>?_);refine oW ?_;refine j7 B.range_ ?_;refine aC ?_ aM;refine aY ?_;refine bR gY (ao aL) ?_;refine aY ?_;refine bR gj ?_ (ao aL);refine ao ?_;refine bT gw (hr.mono (by decide)) ?_;refine aC (aK 0) ?_;refine aC (ao aL) aM;exact bY (i:=0) (show(bL ["_law_cell"] ["_law_k"] [0]).Nodup by decide +kernel) rfl (.inl rfl)
 exact nj
 refine bD ?_;refine bR gY (ao aL) ?_;refine aY ?_;refine bR gj ?_ (ao aL);refine ao ?_;refine bT gw (hr.mono (by decide)) ?_;refine aC (aK 1) ?_;refine aC (ao (az 0)) aM
abbrev BJ:Stmt:=top 22
theorem vz:bN ["_law_sizes_here","_law_nodes_here","_law_at","_law_state"] ["_law_sizes_here"] (aR BJ):=by trivial
def vA:MS :=
  (aB (aH 1 (cD au))
  (aB (cu (fj (ak (bB dg (ak (aa 0) au)) au)) (mgN 2) (cu (fj (ak (aq gIx (aa 0) (aa 2)) au)) (mgN 3) (fV 1 (cM (ak (aa 2) (ak (aa 3) au))))))
  (aQ (aa 1))))
def vB:List D->aj->Res D:=bO 4 vA
abbrev JG(Pr:Program)(w:World)(K:Frag)(mg:Str->Option Value)(base:Heap):Prop:=Can Pr w K mg base "_law_nodes" ["_law_sizes_here"] 1 (vSp K mg [.s] (rO K) vB)
theorem Yb(BK:Def K mg "_law_nodes" BJ)
  (B:cC mg)
  (NK:bK K=true):
  JG Pr w K mg base:=by
 refine cZ (k:=0) (b:=vA) BK vz (λ_ _ _ _ _ _=>bc λ_=>cF rfl) [.s] [.o,.v,.v] gQ (λ_ _ _ _=>.inl ⟨rfl,Rp.non⟩) (body:=λf cdv A outer s H E hr P=>?_);refine aN ?_ ?_;refine uc (i:=1) vz.nd rfl (.inl rfl) (iR 0 aM);refine aN ?_ (aW (t8 1));refine eG rfl ?_ (bY (i:=2) vz.nd rfl (.inl rfl)) ?_;refine j7 B.range_ ?_;refine aC ?_ aM;refine aY ?_;refine fG (ms:=[.s]) (hv:=iz) iy B.len_ ?_;refine aC (aK 0) aM;refine aW ?_;refine eG rfl ?_ (bY (i:=3) vz.nd rfl (.inl rfl)) ?_;refine j7 B.range_ ?_;refine aC ?_ aM;refine ao ?_;refine bH (aK 0) (ao (az 2))
 refine aW ?_;refine um 1 ?_;refine jD 2 ?_;refine cB (az 2) ?_;refine cB (az 3) aM
abbrev vC:Stmt:=top 23
theorem jK:bN ["_law_script","_law_nodes_here","_law_moves_here","_law_many","_law_cell","_law_one","_law_beyond","_law_other","_law_cost"] ["_law_script","_law_nodes_here"] (aR vC):=by trivial
def JH:MS :=
  (aB (aH 2 (cD au))
  (aB (aH 3 dJ)
  (aB (cu (cg (mSl (aa 0) (moS (mC (.int 3))) (moS (mC (.int 43))))) (mgN 4) (aB (aH 5 (aq gIx (aa 1) (aq bZ (aO eV (ak (aa 4) (ak (mC (.int 1)) au))) (bB dg (ak (aa 1) au)))))
  (aB (aH 6 (cN (cg (aa 1)) 1 [5] (mgN 0) (aJ (aq gGe (aq gIx (aa 0) (mC (.int 0))) (aq gIx (aa 1) (mC (.int 0))))) (aa 0)))
  (aB (aH 7 (aq gIx (aa 6) (aq bZ (aO eV (ak (aa 4) (ak (mC (.int 6)) au))) (bB dg (ak (aa 6) au)))))
  (aB (aH 8 (aq bZ (aO eV (ak (aa 4) (ak (mC (.int 9)) au))) (aq gIx (cD (ak (mC (.int 3)) (ak (mC (.int 40)) (ak (aq fU (mC (.int 10)) (mC (.int 9))) au)))) (aq bZ (aO eV (ak (aa 4) (ak (mC (.int 7)) au))) (mC (.int 3))))))
  (aB (bj (cH (aJ (aq gEq (aq gIx (aa 7) (mC (.int 0))) (aq gIx (aa 5) (mC (.int 0))))) (aJ (aq gEq (aa 8) (mC (.int 0))))) (aH 8 (mC (.int 1))) bC)
  (aB (aH 8 (aq eZ (aa 8) (aq gIx (cD (ak (mC (.int 1)) (ak (mC (.int 1)) (ak (mC (.int 1)) (ak (aq fU (mC (.int 10)) (mC (.int 40))) au))))) (aq bZ (aO eV (ak (aa 4) (ak (mC (.int 10)) au))) (mC (.int 4))))))
  (aB (fV 2 (cM (ak (aa 5) (ak (aa 8) (ak (aq eZ (aq gIx (mC (.str [97,98])) (aq bZ (aa 4) (mC (.int 2)))) (iU (aa 3) (aa 5) (mC (.int 0)))) (ak (aa 7) au))))))
  (cV (aa 3) (aa 5) (aq bQ (iU (aa 3) (aa 5) (mC (.int 0))) (mC (.int 1))))))))))))
  (aQ (aa 2)))))
def vD:List D->aj->Res D:=bO 9 JH
abbrev JK(Pr:Program)(w:World)(K:Frag)(mg:Str->Option Value)(base:Heap):Prop:=Can Pr w K mg base "_law_moves" ["_law_script","_law_nodes_here"] 2 (vSp K mg [.s,.s] (rO K) vD)
theorem Yc(BL:Def K mg "_law_moves" vC)
  (B:cC mg)
  (NK:bK K=true)
  (gw:vp Pr w K mg base):
  JK Pr w K mg base:=by
 refine cZ (k:=1) (b:=JH) BL jK (λ_ _ _ _ _ _=>bc λ_=>bc λ_=>cF rfl) [.s,.s] [.o,.v,.v,.v,.v,.v,.v] gQ (λ_ _ _ _=>.inl ⟨rfl,Rp.non⟩) (body:=λf cdv A outer s H E hr P=>?_);refine aN ?_ ?_;refine uc (i:=2) jK.nd rfl (.inl rfl) (iR 0 aM);refine aN (bG (i:=3) jK.nd rfl (.inl rfl) nH) ?_;refine aN ?_ (aW (t8 2));refine eG rfl ?_ (bY (i:=4) jK.nd rfl (.inl rfl)) ?_;refine pC ?_;refine xV ?_;refine bD ?_;refine Tz (aK 0) (G5 aL) (G5 aL);refine aN ?_ ?_;refine bG (i:=5) jK.nd rfl (.inr rfl) ?_;refine bH (aK 1) ?_;refine aY ?_;refine bR gj ?_ ?_
 refine ao ?_;refine bT gw (hr.mono (by decide)) ?_;refine aC (ao (az 4)) ?_;refine aC (ao aL) aM;refine aY ?_;refine fG (ms:=[.s]) (hv:=iz) iy B.len_ ?_;refine aC (aK 1) aM;refine aN ?_ ?_;refine ud (i:=6) (aR vC) ["_law_script","_law_nodes_here","_law_moves_here","_law_many","_law_cell","_law_one","_law_beyond","_law_other","_law_cost"] ["_law_node"] [5] jK.nd rfl (.inl rfl) rfl (lN (aK 1)) (λ_ _ _ _ P=>?_) (λ_ _ _ _ P=>?_) (λ_ _ _ _ P=>?_);exact bY (i:=0) (show(bL ["_law_script","_law_nodes_here","_law_moves_here","_law_many","_law_cell","_law_one","_law_beyond","_law_other","_law_cost"] ["_law_node"] [5]).Nodup by decide +kernel) rfl (.inl rfl)
 refine qM ?_;refine cW Tp ?_ ?_ (cT _);refine ao ?_;refine bH (ao (az 0)) (ao aL);refine ao ?_;refine bH (ao (az 1)) (ao aL);exact az 0;refine aN ?_ ?_;refine bG (i:=7) jK.nd rfl (.inl rfl) ?_;refine bH (ao (az 6)) ?_;refine aY ?_;refine bR gj ?_ ?_;refine ao ?_;refine bT gw (hr.mono (by decide)) ?_;refine aC (ao (az 4)) ?_;refine aC (ao aL) aM;refine aY ?_;refine fG (ms:=[.s]) (hv:=iz) iy B.len_ ?_;refine aC (ao (az 6)) aM;refine aN ?_ ?_;refine bG (i:=8) jK.nd rfl (.inl rfl) ?_;refine bD ?_;refine bR gj ?_ ?_;refine ao ?_;refine bT gw (hr.mono (by decide)) ?_
 refine aC (ao (az 4)) ?_;refine aC (ao aL) aM;refine ao ?_;refine bH ?_ ?_;refine aY ?_;refine iR 3 ?_;refine cB aL ?_;refine cB aL ?_;refine cB ?_ aM;refine bD ?_;refine bR qP (ao aL) (ao aL);refine aY ?_;refine bR gj ?_ (ao aL);refine ao ?_;refine bT gw (hr.mono (by decide)) ?_;refine aC (ao (az 4)) ?_;refine aC (ao aL) aM;refine aN ?_ ?_;refine cY ?_ ?_ cX;refine dZ ?_;refine jY ?_ ?_;refine cW (gZ hr) ?_ ?_ (cT _);refine ao ?_;refine bH (ao (az 7)) (ao aL);refine ao ?_;refine bH (ao (az 5)) (ao aL);refine jX ?_;refine cW (gZ hr) (ao (az 8)) (ao aL) (cT _)
 refine aW (bG (i:=8) jK.nd rfl (.inl rfl) aL);refine aN ?_ ?_;refine bG (i:=8) jK.nd rfl (.inl rfl) ?_;refine bD ?_;refine bR ue (ao (az 8)) ?_;refine ao ?_;refine bH ?_ ?_;refine aY ?_;refine iR 4 ?_;refine cB aL ?_;refine cB aL ?_;refine cB aL ?_;refine cB ?_ aM;refine bD ?_;refine bR qP (ao aL) (ao aL);refine aY ?_;refine bR gj ?_ (ao aL);refine ao ?_;refine bT gw (hr.mono (by decide)) ?_;refine aC (ao (az 4)) ?_;refine aC (ao aL) aM;refine aN ?_ ?_;refine um 2 ?_;refine jD 4 ?_;refine cB (az 5) ?_;refine cB (az 8) ?_;refine cB ?_ ?_;refine bD ?_
 refine bR ue ?_ ?_;refine ao ?_;refine bH (ao (Gk [97,98])) ?_;refine aY ?_;refine bR gj (ao (az 4)) (ao aL);refine ao ?_;refine yg NK hr (az 3) (az 5) aL;refine cB (az 7) aM;refine aW ?_;refine jG NK hr (az 3) (az 5) ?_;refine bD ?_;refine bR gY ?_ (ao aL);refine ao ?_;refine yg NK hr (az 3) (az 5) aL
abbrev BP:Stmt:=top 24
theorem BR:bN ["_law_cell","_law_nodes_here","_law_ends_here","_law_k"] ["_law_cell","_law_nodes_here"] (aR BP):=by trivial
def JL:MS :=
  (aB (aH 2 (cD au))
  (aB (cu (fj (ak (bB dg (ak (aa 1) au)) au)) (mgN 3) (bj (aJ (aq gEq (aq bZ (aO eV (ak (aa 0) (ak (aq bQ (mC (.int 11)) (aa 3)) au))) (mC (.int 3))) (mC (.int 0)))) (fV 2 (aq gIx (aa 1) (aa 3))) bC))
  (aB (bj (cH (aJ (aq gGt (aq bZ (aa 0) (mC (.int 4))) (mC (.int 0)))) (aJ (aq (gm true) (aq gIx (aa 1) (mUn eO (mC (.int 1)))) (aa 2)))) (fV 2 (aq gIx (aa 1) (mUn eO (mC (.int 1))))) bC)
  (aQ (aa 2)))))
def sG:List D->aj->Res D:=bO 4 JL
abbrev JM(Pr:Program)(w:World)(K:Frag)(mg:Str->Option Value)(base:Heap):Prop:=Can Pr w K mg base "_law_ends" ["_law_cell","_law_nodes_here"] 2 (vSp K mg [.s,.s] (rO K) sG)
theorem Yd(BV:Def K mg "_law_ends" BP)
  (B:cC mg)
  (NK:bK K=true)
  (gw:vp Pr w K mg base):
  JM Pr w K mg base:=by
 refine cZ (k:=1) (b:=JL) BV BR (λ_ _ _ _ _ _=>bc λ_=>bc λ_=>cF rfl) [.s,.s] [.o,.v] gQ (λ_ _ _ _=>.inl ⟨rfl,Rp.non⟩) (body:=λf cdv A outer s H E hr P=>?_);refine aN ?_ ?_;refine uc (i:=2) BR.nd rfl (.inl rfl) (iR 0 aM);refine aN ?_ ?_;refine eG rfl ?_ (bY (i:=3) BR.nd rfl (.inl rfl)) ?_;refine j7 B.range_ ?_;refine aC ?_ aM;refine aY ?_;refine fG (ms:=[.s]) (hv:=iz) iy B.len_ ?_;refine aC (aK 1) aM;refine aW ?_;refine cY ?_ ?_ cX;refine cW (gZ hr) ?_ (ao aL) (cT _);refine aY ?_;refine bR gj ?_ (ao aL);refine ao ?_;refine bT gw (hr.mono (by decide)) ?_
 refine aC (aK 0) ?_;refine aC ?_ aM;refine aY ?_;refine bR gY (ao aL) (ao (az 3));refine aW ?_;refine um 2 ?_;refine bH (aK 1) (ao (az 3));refine aN ?_ (aW (t8 2));refine cY ?_ ?_ cX;refine dZ ?_;refine jY ?_ ?_;refine cW xO ?_ (ao aL) (cT _);refine aY ?_;refine bR gj (aK 0) (ao aL);refine jX ?_;refine cW (Ho hr) ?_ (aK 2) (by with_unfolding_all rfl);refine ao ?_;refine bH (aK 1) ?_;refine aY ?_;refine qQ (ao aL);refine aW ?_;refine um 2 ?_;refine bH (aK 1) ?_;refine aY ?_;refine qQ (ao aL)
abbrev BW:Stmt:=top 25
theorem lz:bN ["_law_nodes_here","_law_moves_here","_law_ends_here","_law_prices","_law_node","_law_turn","_law_one","_law_cost","_law_name","_law_other","_law_rest"] ["_law_nodes_here","_law_moves_here","_law_ends_here"] (aR BW):=by trivial
def vG:MS :=
  (aB (aH 3 dJ)
  (aB (cu (cg (aa 0)) (mgN 4) (aB (cV (aa 3) (aa 4) (mC .non))
  (bj (aJ (aq (gm false) (aa 4) (aa 2))) (cV (aa 3) (aa 4) (mC (.int 0))) bC)))
  (aB (cu (fj (ak (bB dg (ak (aa 0) au)) au)) (mgN 5) (cu (cg (aa 1)) (m5 4 (fD (mgN 6) (fD (mgN 7) (fD (mgN 8) (fD (mgN 9) oU))))) (aB (aH 10 (aZ (aa 3) (aa 9)))
  (bj (cH (aJ (di (aa 10))) (du (aJ (cU (aZ (aa 3) (aa 6)))) (aJ (aq gLt (aq bQ (aa 7) (aa 10)) (aZ (aa 3) (aa 6)))))) (cV (aa 3) (aa 6) (aq bQ (aa 7) (aa 10))) bC))))
  (aQ (aa 3)))))
def vH:List D->aj->Res D:=bO 11 vG
abbrev JN(Pr:Program)(w:World)(K:Frag)(mg:Str->Option Value)(base:Heap):Prop:=Can Pr w K mg base "_law_least" ["_law_nodes_here","_law_moves_here","_law_ends_here"] 1 (vSp K mg [.s,.s,.s] (rV K) vH)
theorem Ye(BX:Def K mg "_law_least" BW)
  (B:cC mg)
  (NK:bK K=true):
  JN Pr w K mg base:=by
 refine cZ (k:=0) (b:=vG) BX lz (λ_ _ _ _ _ _=>bc λ_=>bc λ_=>bc λ_=>cF rfl) [.s,.s,.s] [.v,.v,.v,.v,.v,.v,.v,.v] cL (λ_ _ _ _=>Rp.non) (body:=λf cdv A outer s H E hr P=>?_);refine aN (bG (i:=3) lz.nd rfl (.inl rfl) nH) ?_;refine aN ?_ ?_;refine eG rfl (pC (pq 0)) (bY (i:=4) lz.nd rfl (.inl rfl)) ?_;refine aN ?_ ?_;refine jG NK hr (az 3) (az 4) lG;refine aW ?_;refine cY ?_ ?_ cX;refine cW (U3 hr) (ao (az 4)) (aK 2) (by with_unfolding_all rfl);refine aW ?_;refine jG NK hr (az 3) (az 4) aL;refine aN ?_ ?_;refine eG rfl ?_ (bY (i:=5) lz.nd rfl (.inl rfl)) ?_
 refine j7 B.range_ ?_;refine aC ?_ aM;refine aY ?_;refine fG (ms:=[.s]) (hv:=iz) iy B.len_ ?_;refine aC (aK 0) aM;refine aW ?_;refine eG rfl (pC (pq 1)) ?_ ?_;refine GC 4 rfl ?_;refine oV (bY (i:=6) lz.nd rfl (.inl rfl)) ?_;refine oV (bY (i:=7) lz.nd rfl (.inl rfl)) ?_;refine oV (bY (i:=8) lz.nd rfl (.inl rfl)) ?_;refine oV (bY (i:=9) lz.nd rfl (.inl rfl)) Gz;refine aN ?_ ?_;refine bG (i:=10) lz.nd rfl (.inl rfl) ?_;refine eQ NK hr (az 3) (az 9);refine aW ?_;refine cY ?_ ?_ cX;refine dZ ?_;refine jY ?_ ?_;refine qK (ao (az 10));refine jX ?_;refine dZ ?_
 refine gR ?_ ?_;refine mY ?_;refine ao ?_;refine eQ NK hr (az 3) (az 6);refine jE ?_;refine cW xN ?_ ?_ (cT _);refine aY ?_;refine bR gY (ao (az 7)) (ao (az 10));refine ao ?_;refine eQ NK hr (az 3) (az 6);refine aW ?_;refine jG NK hr (az 3) (az 6) ?_;refine bD ?_;refine bR gY (ao (az 7)) (ao (az 10));refine aW (bM (az 3))
abbrev vI:Stmt:=top 26
theorem ou:bN ["_law_moves_here","_law_ends_here","_law_names","_law_node","_law_total","_law_name","_law_here"] ["_law_moves_here","_law_ends_here","_law_names"] (aR vI):=by trivial
def JP:MS :=
  (aB (aH 3 (cM (ak (mC (.int 0)) (ak (mC (.int 0)) au))))
  (aB (aH 4 (mC (.int 0)))
  (aB (jF (aa 2) (mgN 5) (aB (aH 6 (cN (cg (aa 0)) 1 [3,5] (mgN 0) (cH (aJ (aq gEq (aq gIx (aa 0) (mC (.int 0))) (aa 1))) (aJ (aq gEq (aq gIx (aa 0) (mC (.int 2))) (aa 2)))) (aa 0)))
  (aB (bj (aJ (aq gEq (aa 6) (cD au))) (aQ (mC .non)) bC)
  (aB (aH 4 (aq bQ (aa 4) (aq gIx (aq gIx (aa 6) (mC (.int 0))) (mC (.int 1)))))
  (aH 3 (aq gIx (aq gIx (aa 6) (mC (.int 0))) (mC (.int 3))))))))
  (aB (bj (aJ (aq (gm true) (aa 3) (aa 1))) (aQ (mC .non)) bC)
  (aQ (aa 4))))))
def vJ:List D->aj->Res D:=bO 7 JP
abbrev JQ(Pr:Program)(w:World)(K:Frag)(mg:Str->Option Value)(base:Heap):Prop:=Can Pr w K mg base "_law_walked" ["_law_moves_here","_law_ends_here","_law_names"] 1 (vSp K mg [.s,.s,.s] (rV K) vJ)
theorem Yg(BZ:Def K mg "_law_walked" vI)
  (B:cC mg)
  (NK:bK K=true):
  JQ Pr w K mg base:=by
 refine cZ (k:=0) (b:=JP) BZ ou (λ_ _ _ _ _ _=>bc λ_=>bc λ_=>bc λ_=>cF rfl) [.s,.s,.s] [.v,.v,.v,.v] cL (λ_ _ _ _=>Rp.non) (body:=λf cdv A outer s H E hr P=>?_);refine aN ?_ ?_;refine bG (i:=3) ou.nd rfl (.inr rfl) ?_;refine jD 2 ?_;refine cB aL ?_;refine cB aL aM;refine aN (bG (i:=4) ou.nd rfl (.inl rfl) aL) ?_;refine aN ?_ ?_;refine ye rfl (pq 2) (bY (i:=5) ou.nd rfl (.inr rfl)) ?_;refine aN ?_ ?_;refine ud (i:=6) (aR vI) ["_law_moves_here","_law_ends_here","_law_names","_law_node","_law_total","_law_name","_law_here"] ["_law_move"] [3,5] ou.nd rfl (.inl rfl) rfl (lN (aK 0)) (λ_ _ _ _ P=>?_) (λ_ _ _ _ P=>?_) (λ_ _ _ _ P=>?_)
 exact bY (i:=0) (show(bL ["_law_moves_here","_law_ends_here","_law_names","_law_node","_law_total","_law_name","_law_here"] ["_law_move"] [3,5]).Nodup by decide +kernel) rfl (.inl rfl)
 refine qM ?_;refine dZ ?_;refine jY ?_ ?_;refine cW (gZ hr) ?_ (ao (az 1)) (cT _);refine ao ?_;refine bH (ao (az 0)) (ao aL);refine jX ?_;refine cW (gZ hr) ?_ (ao (az 2)) (cT _);refine ao ?_;refine bH (ao (az 0)) (ao aL);exact az 0;refine aN ?_ ?_;refine cY ?_ ?_ cX;refine cW (gZ hr) (ao (az 6)) ?_ (cT _);refine aY (iR 0 aM);refine aW (bM lG);refine aN ?_ ?_;refine bG (i:=4) ou.nd rfl (.inl rfl) ?_;refine bD ?_;refine bR gY (ao (az 4)) ?_;refine ao ?_;refine bH ?_ (ao aL);refine ao ?_;refine bH (ao (az 6)) (ao aL);refine aW ?_;refine bG (i:=3) ou.nd rfl (.inr rfl) ?_
 refine bH ?_ (ao aL);refine ao ?_;refine bH (ao (az 6)) (ao aL);refine aN ?_ ?_;refine cY ?_ ?_ cX;refine cW (Ho hr) (ao (az 3)) (aK 1) (by with_unfolding_all rfl);refine aW (bM lG);refine aW (bM (az 4))
abbrev Ca:Stmt:=top 27
theorem JR:bN ["_law_found","_law_due","_law_node"] ["_law_found","_law_due"] (aR Ca):=by trivial
def vK:MS :=
  (aB (bj (du (dH (bW (nM (mG (aa 0))))) (aJ (aq gNe (kj (mG (aa 0))) (kj (mG (aa 1)))))) (aQ (mC (.bl false))) bC)
  (aB (iW 1 (cu (iC (mG (aa 1))) (mgN 2) (aB (bj (aJ (ig true (aa 2) (mG (aa 0)))) (aQ (mC (.bl false))) bC)
  (aB (bj (cH (aJ (cU (aZ (mG (aa 1)) (aa 2)))) (aJ (di (aZ (mG (aa 0)) (aa 2))))) (aQ (mC (.bl false))) bC)
  (bj (cH (aJ (di (aZ (mG (aa 1)) (aa 2)))) (du (dH (bW (aO pU (ak (aZ (mG (aa 0)) (aa 2)) au)))) (aJ (aq gNe (aZ (mG (aa 0)) (aa 2)) (aZ (mG (aa 1)) (aa 2)))))) (aQ (mC (.bl false))) bC)))))
  (aQ (mC (.bl true)))))
def pW:List D->aj->Res D:=bO 3 vK
abbrev JS(Pr:Program)(w:World)(K:Frag)(mg:Str->Option Value)(base:Heap):Prop:=Can Pr w K mg base "_law_alike" ["_law_found","_law_due"] 2 (vSp K mg [.s,.s] (rV K) pW)
theorem Yh(Cd:Def K mg "_law_alike" Ca)
  (B:cC mg)
  (NK:bK K=true)
  (pX:Bv Pr w K mg base):
  JS Pr w K mg base:=by
 refine cZ (k:=1) (b:=vK) Cd JR (λ_ _ _ _ _ _=>bc λ_=>bc λ_=>cF rfl) [.s,.s] [.v] cL (λ_ _ _ _=>Rp.non) (body:=λf cdv A outer s H E hr P=>?_);refine aN ?_ ?_;refine cY ?_ ?_ cX;refine dZ ?_;refine gR ?_ ?_;refine gU ?_;refine dY ?_;refine aY ?_;refine Ht B.isinstance_ B.dict_ (bI (aK 0));refine jE ?_;refine cW (oY hr) ?_ ?_ (cT _);refine aY ?_;refine yq B.len_ (bI (aK 0));refine aY ?_;refine yq B.len_ (bI (aK 1));refine aW (bM dX);refine aN ?_ ?_;refine uB 1 ?_;refine eG rfl ?_ (bY (i:=2) JR.nd rfl (.inl rfl)) ?_;refine yp (bI (aK 1));refine aN ?_ ?_
 refine cY ?_ ?_ cX;refine Vq NK hr (az 2) (bI (aK 0));refine aW (bM dX);refine aN ?_ ?_;refine cY ?_ ?_ cX;refine dZ ?_;refine jY ?_ ?_;refine mY ?_;refine ao ?_;refine eQ NK hr (bI (aK 1)) (az 2);refine jX ?_;refine qK ?_;refine ao ?_;refine eQ NK hr (bI (aK 0)) (az 2);refine aW (bM dX);refine aW ?_;refine cY ?_ ?_ cX;refine dZ ?_;refine jY ?_ ?_;refine qK ?_;refine ao ?_;refine eQ NK hr (bI (aK 1)) (az 2);refine jX ?_;refine dZ ?_;refine gR ?_ ?_;refine gU ?_;refine dY ?_;refine ao ?_;refine bT pX (hr.mono (by decide)) ?_;refine aC ?_ aM;refine ao ?_
 refine eQ NK hr (bI (aK 0)) (az 2);refine jE ?_;refine cW (oY hr) ?_ ?_ (cT _);refine ao ?_;refine eQ NK hr (bI (aK 0)) (az 2);refine ao ?_;refine eQ NK hr (bI (aK 1)) (az 2);refine aW (bM dX);refine aW (bM dX)
abbrev Ce:Stmt:=top 28
theorem JT:bN ["_law_trail","_law_moves_here","_law_ends_here","_law_due","_law_found"] ["_law_trail","_law_moves_here","_law_ends_here","_law_due"] (aR Ce):=by trivial
def pY:MS :=
  (aB (aH 4 (aO nY (ak (aa 0) au)))
  (aB (bj (aJ (cU (aZ (mG (aa 3)) (cM (ak (mC (.int 0)) (ak (mC (.int 0)) au)))))) (aQ (cU (aa 4))) bC)
  (aB (bj (du (dH (bW (fH "tuple" (aa 4)))) (du (aJ (aq gNe (bB dg (ak (aa 4) au)) (mC (.int 2)))) (du (dH (bW (aO pU (ak (aq gIx (aa 4) (mC (.int 0))) au)))) (dH (bW (fH "list" (aq gIx (aa 4) (mC (.int 1))))))))) (aQ (mC (.bl false))) bC)
  (aB (bj (du (aJ (aq gNe (aq gIx (aa 4) (mC (.int 0))) (aZ (mG (aa 3)) (cM (ak (mC (.int 0)) (ak (mC (.int 0)) au)))))) (aJ (aq gNe (aO vJ (ak (aa 1) (ak (aa 2) (ak (aq gIx (aa 4) (mC (.int 1))) au)))) (aq gIx (aa 4) (mC (.int 0)))))) (aQ (mC (.bl false))) bC)
  (aB (bj (aJ (aq gNe (aO u6 (ak (aa 0) (ak (bB dI (ak (aq gIx (aa 4) (mC (.int 1))) au)) au))) (aq gIx (aa 4) (mC (.int 0))))) (aQ (mC (.bl false))) bC)
  (aB (kh (aq gIx (aa 4) (mC (.int 1))) (mC (.str [122])))
  (aQ (mC (.bl true)))))))))
def pZ:List D->aj->Res D:=bO 5 pY
abbrev JV(Pr:Program)(w:World)(K:Frag)(mg:Str->Option Value)(base:Heap):Prop:=Can Pr w K mg base "_law_way" ["_law_trail","_law_moves_here","_law_ends_here","_law_due"] 6 (vSp K mg [.s,.s,.s,.s] (rV K) pZ)
theorem Yi(Cg:Def K mg "_law_way" Ce)
  (B:cC mg)
  (NK:bK K=true)
  (Ci:Jr Pr w K mg base)
  (pX:Bv Pr w K mg base)
  (Cj:JQ Pr w K mg base)
  (Ck:Jt Pr w K mg base):
  JV Pr w K mg base:=by
 refine cZ (k:=5) (b:=pY) Cg JT (λ_ _ _ _ _ _=>bc λ_=>bc λ_=>bc λ_=>bc λ_=>cF rfl) [.s,.s,.s,.s] [.v] cL (λ_ _ _ _=>Rp.non) (body:=λf cdv A outer s H E hr P=>?_);refine aN ?_ ?_;refine bG (i:=4) JT.nd rfl (.inl rfl) ?_;refine bT Ci (hr.mono (by decide)) ?_;refine aC (aK 0) aM;refine aN ?_ ?_;refine cY ?_ ?_ cX;refine mY ?_;refine ao ?_;refine eQ NK hr (bI (aK 3)) ?_;refine jD 2 ?_;refine cB aL ?_;refine cB aL aM;refine aW ?_;refine bM ?_;refine bD ?_;refine xC (ao (az 4));refine aN ?_ ?_;refine cY ?_ ?_ cX;refine dZ ?_;refine gR ?_ ?_
 refine gU ?_;refine dY ?_;refine aY ?_;refine lL "tuple" (hb:=xQ) B.isinstance_ B.tuple_ (ao (az 4));refine gR ?_ ?_;refine cW (oY hr) ?_ (ao aL) (cT _);refine aY ?_;refine fG (ms:=[.s]) (hv:=iz) iy B.len_ ?_;refine aC (ao (az 4)) aM;refine gR ?_ ?_;refine gU ?_;refine dY ?_;refine ao ?_;refine bT pX (hr.mono (by decide)) ?_;refine aC ?_ aM;refine ao ?_;refine bH (ao (az 4)) (ao aL);refine jE ?_;refine gU ?_;refine dY ?_;refine aY ?_;refine lL "list" (hb:=nu) B.isinstance_ B.list_ ?_;refine ao ?_;refine bH (ao (az 4)) (ao aL);refine aW (bM dX)
 refine aN ?_ ?_;refine cY ?_ ?_ cX;refine dZ ?_;refine gR ?_ ?_;refine cW (oY hr) ?_ ?_ (cT _);refine ao ?_;refine bH (ao (az 4)) (ao aL);refine ao ?_;refine eQ NK hr (bI (aK 3)) ?_;refine jD 2 ?_;refine cB aL ?_;refine cB aL aM;refine jE ?_;refine cW (oY hr) ?_ ?_ (cT _);refine ao ?_;refine bT Cj (hr.mono (by decide)) ?_;refine aC (aK 1) ?_;refine aC (aK 2) ?_;refine aC ?_ aM;refine ao ?_;refine bH (ao (az 4)) (ao aL);refine ao ?_;refine bH (ao (az 4)) (ao aL);refine aW (bM dX);refine aN ?_ ?_;refine cY ?_ ?_ cX;refine cW (oY hr) ?_ ?_ (cT _)
 refine ao ?_;refine bT Ck (hr.mono (by decide)) ?_;refine aC (aK 0) ?_;refine aC ?_ aM;refine aY ?_;refine oZ (ms:=[.s]) (hv:=nu) o9 B.list_ ?_;refine aC ?_ aM;refine ao ?_;refine bH (ao (az 4)) (ao aL);refine ao ?_;refine bH (ao (az 4)) (ao aL);refine aW (bM dX);refine aN ?_ ?_;refine yc ?_ (Gk [122]);refine bH (ao (az 4)) (ao aL);refine aW (bM dX)
abbrev jL:Stmt:=top 29
theorem jM:bN ["_law_script","_law_sizes_here","_law_nodes_here","_law_moves_here","_law_ends_here","_law_due","_law_handed","_law_trail","_law_thing","_law_found"] ["_law_script"] (aR jL):=by trivial
def vL:MS :=
  (aB (aH 1 (aO sE (ak (aO lZ (ak (aa 0) (ak (mC (.int 0)) au))) au)))
  (aB (aH 2 (aO vB (ak (aa 1) au)))
  (aB (aH 3 (aO vD (ak (aa 0) (ak (aa 2) au))))
  (aB (aH 4 (aO sG (ak (aO lZ (ak (aa 0) (ak (mC (.int 1)) au))) (ak (aa 2) au))))
  (aB (aH 5 (aO vH (ak (aa 2) (ak (aa 3) (ak (aa 4) au)))))
  (aB (aH 6 (cD (ak (mMl (bB dI (ak (aa 1) au))) (ak (mMl (bB dI (ak (aa 3) au))) (ak (mMl (bB dI (ak (aa 4) au))) au)))))
  (aB (aH 7 (nF "Listed" rP (ak (aq gIx (aa 6) (mC (.int 0))) (ak (aq gIx (aa 6) (mC (.int 1))) (ak (aq gIx (aa 6) (mC (.int 2))) au)))))
  (aB (cu (cg (aa 6)) (mgN 8) (pH (aa 8)))
  (aB (aH 9 (aO lX (ak (aa 7) au)))
  (aB (bj (du (dH (bW (ux "Listed" (aa 7)))) (du (dH (bW (aO pW (ak (aa 9) (ak (aa 5) au))))) (aJ (aq (gIs true) (aO vo (ak (aa 7) (ak (aa 9) au))) (mC (.bl true)))))) (aQ (mC (.bl false))) bC)
  (aB (cV (aa 9) (cM (ak (mC (.int 0)) (ak (mC (.int 0)) au))) (mUn eO (mC (.int 5))))
  (aB (rn (aa 9) (mC (.int 7)))
  (aB (bj (du (dH (bW (aO pZ (ak (aa 7) (ak (aa 3) (ak (aa 4) (ak (aa 5) au))))))) (dH (bW (aO pZ (ak (aa 7) (ak (aa 3) (ak (aa 4) (ak (aa 5) au)))))))) (aQ (mC (.bl false))) bC)
  (aQ (aO pW (ak (aO lX (ak (aa 7) au)) (ak (aa 5) au)))))))))))))))))
def JW:List D->aj->Res D:=bO 10 vL
abbrev Yj(Pr:Program)(w:World)(K:Frag)(mg:Str->Option Value)(base:Heap):Prop:=Can Pr w K mg base "law" ["_law_script"] 8 (vSp K mg [.s] (rV K) JW)
theorem Yk(Cm:Def K mg "law" jL)
  (B:cC mg)
  (NK:bK K=true)
  (Cq:IsC K mg "Listed" "Trail")
  (Cr:JF Pr w K mg base)
  (vM:JB Pr w K mg base)
  (Cu:JG Pr w K mg base)
  (Cv:JK Pr w K mg base)
  (Cw:JM Pr w K mg base)
  (Cy:JN Pr w K mg base)
  (Cz:Je Pr w K mg base)
  (nZ:Av Pr w K mg base)
  (vN:JS Pr w K mg base)
  (CG:Jz Pr w K mg base)
  (vO:JV Pr w K mg base):
  Yj Pr w K mg base:=by
 refine cZ (k:=7) (b:=vL) Cm jM (λ_ _ _ _ _ _=>bc λ_=>cF rfl) [.s] [.v,.v,.v,.v,.v,.v,.v,.v,.v] cL (λ_ _ _ _=>Rp.non) (body:=λf cdv A outer s H E hr P=>?_);refine aN ?_ ?_;refine bG (i:=1) jM.nd rfl (.inl rfl) ?_;refine bD ?_;refine qW Cr (hr.mono (by decide)) ?_;refine aC ?_ aM;refine ao ?_;refine bT vM (hr.mono (by decide)) ?_;refine aC (aK 0) ?_;refine aC (ao aL) aM;refine aN ?_ ?_;refine bG (i:=2) jM.nd rfl (.inl rfl) ?_;refine bD ?_;refine qW Cu (hr.mono (by decide)) ?_;refine aC (ao (az 1)) aM;refine aN ?_ ?_;refine bG (i:=3) jM.nd rfl (.inl rfl) ?_
 refine bD ?_;refine qW Cv (hr.mono (by decide)) ?_;refine aC (aK 0) ?_;refine aC (ao (az 2)) aM;refine aN ?_ ?_;refine bG (i:=4) jM.nd rfl (.inl rfl) ?_;refine bD ?_;refine qW Cw (hr.mono (by decide)) ?_;refine aC ?_ ?_;refine ao ?_;refine bT vM (hr.mono (by decide)) ?_;refine aC (aK 0) ?_;refine aC (ao aL) aM;refine aC (ao (az 2)) aM;refine aN ?_ ?_;refine bG (i:=5) jM.nd rfl (.inl rfl) ?_;refine bT Cy (hr.mono (by decide)) ?_;refine aC (ao (az 2)) ?_;refine aC (ao (az 3)) ?_;refine aC (ao (az 4)) aM;refine aN ?_ ?_;refine bG (i:=6) jM.nd rfl (.inl rfl) ?_
 refine bD ?_;refine iR 3 ?_;refine cB ?_ ?_;refine uv ?_;refine oZ (ms:=[.s]) (hv:=nu) o9 B.list_ ?_;refine aC (ao (az 1)) aM;refine cB ?_ ?_;refine uv ?_;refine oZ (ms:=[.s]) (hv:=nu) o9 B.list_ ?_;refine aC (ao (az 3)) aM;refine cB ?_ aM;refine uv ?_;refine oZ (ms:=[.s]) (hv:=nu) o9 B.list_ ?_;refine aC (ao (az 4)) aM;refine aN ?_ ?_;refine bG (i:=7) jM.nd rfl (.inl rfl) ?_;refine Ul Cz (hr.mono (by decide)) ?_;refine aC ?_ ?_;refine ao ?_;refine bH (ao (az 6)) (ao aL);refine aC ?_ ?_;refine ao ?_;refine bH (ao (az 6)) (ao aL);refine aC ?_ aM
 refine ao ?_;refine bH (ao (az 6)) (ao aL);refine aN ?_ ?_;refine eG rfl ?_ (bY (i:=8) jM.nd rfl (.inl rfl)) ?_;refine pC (xV (az 6));refine aW (Uy (az 8));refine aN ?_ ?_;refine bG (i:=9) jM.nd rfl (.inl rfl) ?_;refine bT nZ (hr.mono (by decide)) ?_;refine aC (ao (az 7)) aM;refine aN ?_ ?_;refine cY ?_ ?_ cX;refine dZ ?_;refine gR ?_ ?_;refine gU ?_;refine dY ?_;refine aY (U6 Cq B.isinstance_ (az 7));refine gR ?_ ?_;refine gU ?_;refine dY ?_;refine ao ?_;refine bT vN (hr.mono (by decide)) ?_;refine aC (ao (az 9)) ?_;refine aC (ao (az 5)) aM;refine jE ?_
 refine cW Um ?_ (ao dX) (cT _);refine ao ?_;refine bT CG (hr.mono (by decide)) ?_;refine aC (ao (az 7)) ?_;refine aC (ao (az 9)) aM;refine aW (bM dX);refine aN ?_ ?_;refine jG NK hr (az 9) ?_ ?_;refine jD 2 ?_;refine cB aL ?_;refine cB aL aM;refine bD ?_;refine qQ (ao aL);refine aN ?_ ?_;refine Wf hr (az 9) aL;refine aN ?_ ?_;refine cY ?_ ?_ cX;refine dZ ?_;refine gR ?_ ?_;refine gU ?_;refine dY ?_;refine ao ?_;refine bT vO (hr.mono (by decide)) ?_;refine aC (ao (az 7)) ?_;refine aC (ao (az 3)) ?_;refine aC (ao (az 4)) ?_;refine aC (ao (az 5)) aM
 refine jE ?_;refine gU ?_;refine dY ?_;refine ao ?_;refine bT vO (hr.mono (by decide)) ?_;refine aC (ao (az 7)) ?_;refine aC (ao (az 3)) ?_;refine aC (ao (az 4)) ?_;refine aC (ao (az 5)) aM;refine aW (bM dX);refine aW ?_;refine bM ?_;refine bT vN (hr.mono (by decide)) ?_;refine aC ?_ ?_;refine ao ?_;refine bT nZ (hr.mono (by decide)) ?_;refine aC (ao (az 7)) aM;refine aC (ao (az 5)) aM
end
theorem bh{g:D->D->Option D}{a b:L2.M D}{ρ:aA}{O:aj}{x y z:D}(ha:a ρ O=.ok x O)(hb:b ρ O=.ok y O)(h:g (bz O x) (bz O y)=some z):aq g a b ρ O=.ok z O:=by
 rw[gn,ha,aD,hb,aD,h,d8]
theorem ma1{a:L2.M D}{ρ:aA}{O:aj}{x:D}(h:a ρ O=.ok x O):ak a au ρ O=.ok [x] O:=by
 rw[fB,h,aD,iY,aD]
theorem maS{a:L2.M D}{r:L2.M (List D)}{ρ:aA}{O:aj}{x:D}{xs:List D}(h:a ρ O=.ok x O)(h2:r ρ O=.ok xs O):ak a r ρ O=.ok (x::xs) O:=by
 rw[fB,h,aD,h2,aD]
theorem Yl{m:L2.M (List D)}{ρ:aA}{O:aj}{xs:List D}(h:m ρ O=.ok xs O)(hl:xs.length<=1000000):cM m ρ O=.ok (.tup xs) O:=by
 rw[yH,h,aD,if_pos hl]
theorem sH{g:List D->Option D}{m:L2.M (List D)}{ρ:aA}{O:aj}{xs:List D}{z:D}(h:m ρ O=.ok xs O)(hg:g (xs.map (bz O))=some z):bB g m ρ O=.ok z O:=by
 rw[pK,h,aD,hg,d8]
theorem vP{i:Nat}{m:L2.M D}{ρ:aA}{O:aj}{d:D}{ds:List D}(hm:m ρ O=.ok d O)(h:ρ[i]?=some (some (.lst ds)))(hl:ds.length<1000000):fV i m ρ O=.nx (ρ.set i (some (.lst (ds++[d])))) O:=by
 rw[W9,hm,Xa h hl]
theorem dR{i:Nat}{m:L2.M D}{ρ:aA}{O:aj}{d:D}(h:m ρ O=.ok d O):aH i m ρ O=.nx (ρ.set i (some d)) O:=by
 rw[kO,h,kW]
theorem cI{c:List D->aj->Res D}{ma:L2.M (List D)}{ρ:aA}{O:aj}{ds:List D}(h:ma ρ O=.ok ds O):aO c ma ρ O=c ds O:=by
 rw[lR,h,aD]
theorem d9{m:L2.M D}{ρ:aA}{O:aj}{b:Bool}(h:m ρ O=.ok (.bl b) O):aJ m ρ O=.ok b O:=by
 rw[fL,h,aD,fK]
theorem lA{t:L2.M Bool}{a b:MS}{ρ:aA}{O:aj}(h:t ρ O=.ok true O):bj t a b ρ O=a ρ O:=by
 rw[jH,h,iZ,if_pos rfl]
theorem if_no{t:L2.M Bool}{a b:MS}{ρ:aA}{O:aj}(h:t ρ O=.ok false O):bj t a b ρ O=b ρ O:=by
 rw[jH,h,iZ,if_neg zq]
theorem oA{m:L2.M D}{ρ:aA}{O:aj}{l:List D}(h:m ρ O=.ok (.lst l) O):bB dg (ak m au) ρ O=.ok (.int (l.length:Int)) O:=sH (ma1 h) rfl
theorem qb{m:L2.M D}{ρ:aA}{O:aj}{n:Nat}(h:m ρ O=.ok (.int (n:Int)) O)(hn:n<=1000000):fj (ak m au) ρ O=.ok (d7 0 n) O:=by
 rw[Il,ma1 h,aD];show(if(n:Int)<=1000000000/\-1000000000<=(n:Int) then Res.ok (d7 0 (n:Int).toNat) O else .no)=_;rw[if_pos ⟨by omega,by omega⟩,Int.toNat_natCast]
theorem JX{a b:L2.M D}{ρ:aA}{O:aj}{i j:Int}(ha:a ρ O=.ok (.int i) O)(hb:b ρ O=.ok (.int j) O):aq bQ a b ρ O=.ok (.int (i+j)) O:=bh ha hb rfl
theorem vQ{a:L2.M D}{r:L2.M (List D)}{ρ:aA}{O O1 O2:aj}{x:D}{xs:List D}(h:a ρ O=.ok x O1)(h2:r ρ O1=.ok xs O2):ak a r ρ O=.ok (x::xs) O2:=by
 rw[fB,h,aD,h2,aD]
theorem CJ{a:L2.M D}{ρ:aA}{O O1:aj}{x:D}(h:a ρ O=.ok x O1):ak a au ρ O=.ok [x] O1:=vQ h rfl
theorem Ym{m:L2.M (List D)}{ρ:aA}{O O1:aj}{xs:List D}(h:m ρ O=.ok xs O1)(hl:xs.length<=1000000):cD m ρ O=.ok (.lst xs) O1:=by
 rw[uJ,h,aD,if_pos hl]
theorem iJ{m:L2.M D}{ρ:aA}{O O':aj}(h:m ρ O=.ok (.bl true) O'):dH (bW m) ρ O=.ok false O':=by
 rw[Ig,rG,h];rfl
theorem jN{a b:L2.M Bool}{ρ:aA}{O O1 O2:aj}(ha:a ρ O=.ok false O1)(hb:b ρ O1=.ok false O2):du a b ρ O=.ok false O2:=by
 rw[rH,ha,aD,if_neg zq,hb]
theorem ifN{t:L2.M Bool}{a:MS}{ρ:aA}{O O':aj}(h:t ρ O=.ok false O'):bj t a bC ρ O=.nx ρ O':=by
 rw[jH,h,iZ];rfl
theorem ifY{t:L2.M Bool}{a b:MS}{ρ:aA}{O O':aj}(h:t ρ O=.ok true O'):bj t a b ρ O=a ρ O':=by
 rw[jH,h,iZ];rfl
theorem Yn{c:List D->aj->Res D}{ma:L2.M (List D)}{ρ:aA}{O O1:aj}{ds:List D}(h:ma ρ O=.ok ds O1):aO c ma ρ O=c ds O1:=by
 rw[lR,h,aD]
theorem Yo{g:D->D->Option D}{a b:L2.M D}{ρ:aA}{O O1 O2:aj}{x y z:D}(ha:a ρ O=.ok x O1)(hb:b ρ O1=.ok y O2)(h:g (bz O2 x) (bz O2 y)=some z):aq g a b ρ O=.ok z O2:=by
 rw[gn,ha,aD,hb,aD,h,d8]
theorem Yp{m:L2.M D}{ρ:aA}{O O':aj}{b:Bool}(h:m ρ O=.ok (.bl b) O'):aJ m ρ O=.ok b O':=by
 rw[fL,h,aD,fK]
theorem JZ{a b:L2.M Bool}{ρ:aA}{O O1:aj}(ha:a ρ O=.ok true O1)(hb:b ρ O1=.ok false O1):cH a b ρ O=.ok false O1:=by
 rw[gq,ha,aD,if_pos rfl,hb]
theorem and_f{a b:L2.M Bool}{ρ:aA}{O O1:aj}(ha:a ρ O=.ok false O1):cH a b ρ O=.ok false O1:=by
 rw[gq,ha,aD];rfl
theorem Yq{a b:L2.M Bool}{ρ:aA}{O O1 O2:aj}{x:Bool}(ha:a ρ O=.ok true O1)(hb:b ρ O1=.ok x O2):cH a b ρ O=.ok x O2:=by
 rw[gq,ha,aD,if_pos rfl,hb]
theorem sI{m:L2.M (List D)}{own:Nat}{cap:List Nat}{g:MG}{t:L2.M Bool}{e:L2.M D}{ρ ρ0:aA}{O:aj}{ds ys:List D}(h:m ρ O=.ok ds O)(hl:ds.length<=1000000)(h0:iT own cap ρ=ρ0)(hc:dw g t e ds ρ0 O []=.ok ys O):cN m own cap g t e ρ O=.ok (.lst ys) O:=by
 rw[rK,h,aD,if_pos hl,h0,hc,aD]
theorem iK{m:L2.M D}{ρ:aA}{O:aj}{l:List D}(h:m ρ O=.ok (.lst l) O):cg m ρ O=.ok l O:=by
 rw[yJ,h,aD,yK,yI]
theorem Yr{m:L2.M D}{ρ:aA}{O:aj}{l:List D}(h:m ρ O=.ok (.lst l) O):bB dI (ak m au) ρ O=.ok (.lst l) O:=by
 rw[pK,ma1 h,aD,zh,jf,lQ,yP,d8]
theorem vR{g:MG}{b:MS}{d:D}{ds:List D}{ρ ρ1 ρ2:aA}{O O2:aj}(hg:g d ρ=some ρ1)(hb:b ρ1 O=.nx ρ2 O2):bJ g b (d::ds) ρ O=bJ g b ds ρ2 O2:=by
 conv=>lhs;unfold bJ
 rw[hg];dsimp only;rw[hb]
theorem Ys{g:MG}{b:MS}{d x:D}{ds:List D}{ρ ρ1:aA}{O O2:aj}(hg:g d ρ=some ρ1)(hb:b ρ1 O=.rt x O2):bJ g b (d::ds) ρ O=.rt x O2:=by
 conv=>lhs;unfold bJ
 rw[hg];dsimp only;rw[hb]
abbrev Nd:=Int×Int
def dN(n:Nd):D:=.tup [.int n.1,.int n.2]
structure Mv where
 one:Nd
 cost:Int
 name:List Nat
 other:Nd
def dM(m:Mv):D:=.tup [dN m.one,.int m.cost,.str m.name,dN m.other]
def d3(m:Mv):D:=.tup [.int m.cost,.str m.name,dN m.other]
def NOk(l:List Nat):Prop:=∀c∈l,c<1114112
def key(n:Nd):List Key:=[.inl n.1,.inl n.2]
theorem J0(a b:Nd):iw (dN a) (dN b)=decide (a=b):=by
 show(a.1 == b.1&&(a.2 == b.2&&true))=_;obtain⟨a1,a2⟩:=a;obtain⟨b1,b2⟩:=b
 by_cases h1:a1=b1<;>by_cases h2:a2=b2<;>simp[h1,h2]
theorem CK(a:Nd):okE (dN a)=true:=rfl
theorem Yt(a b:Nd):gEq (dN a) (dN b)=some (.bl (decide (a=b))):=by
 show(if(okE (dN a)&&okE (dN b))=true then some (D.bl (iw (dN a) (dN b))) else none)=_;rw[CK,CK,Bool.and_self,if_pos rfl,J0]
theorem iM(n:Nd):lO (dN n)=some (key n):=rfl
theorem qd{a b:Nd}(h:key a=key b):a=b:=by
 obtain⟨a1,a2⟩:=a;obtain⟨b1,b2⟩:=b;unfold key at h;simp at h;simp[h]
theorem J1(n:Nd):∀es:List Nd,((es.map dN).any λy=>iw y (dN n))=decide (n∈es)
 | []=>by simp
 |e::es=>by
  rw[zh,List.any_cons,J1 n es,J0]
  by_cases h:e=n
  ·simp[h]
  ·have h':¬n=e:=λz=>h z.symm
   simp[h,h']
theorem CN(neg:Bool)(n:Nd)(es:List Nd):gm neg (dN n) (.lst (es.map dN))=some (.bl (neg ^^ decide (n∈es))):=by
 have h:(es.map dN).all okE=true:=by
  rw[jq];intro x hx;obtain⟨e,_,rfl⟩:=zX.mp hx;rfl
 show(if(okE (dN n)&&(es.map dN).all okE)=true then some (D.bl (neg ^^ (es.map dN).any λy=>iw y (dN n))) else none)=_;rw[CK,h,Bool.and_self,if_pos rfl,J1]
theorem Yu(ns:List Int)(k:Nat)(O:aj):lZ [.lst (ns.map D.int),.int k] O=.ok (.int (ns.getD k 0)) O:=by
 simp[lZ,Bq,lV]
 by_cases h:k<ns.length
 ·simp[h]
 ·simp[h]
theorem mj(n k:Int)(h0:0<=k)(h1:k<=1000000)(O:aj):eV [.int n,.int k] O=.ok (.int (mix n k)) O:=W2 n k h0 h1 O
theorem qe(n:Nat):d7 0 n=(List.range n).map λi:Nat=>D.int ((i:Nat):Int):=by
 unfold d7;simp
theorem mq(n k j:Int)(h:0<j):0<=mix n k % j/\mix n k % j<j:=⟨Int.emod_nonneg _ (by omega),jz _ h⟩
def szs(c:Int):List Int:=(List.range (1+mix c 8 % 5).toNat).map λk:Nat=>1+mix c k % 3
theorem Yv(c:Int):∀s∈szs c,1<=s/\s<=3:=by
 intro s hs;obtain⟨k,_,rfl⟩:=zX.mp hs
 have:=mq c k 3 (by decide)
 omega
theorem Yw(c:Int):1<=(szs c).length/\(szs c).length<=5:=by
 unfold szs;rw[zj,List.length_range]
 have:=mq c 8 5 (by decide)
 omega
theorem Yx(c:Int)(O:aj):sE [.int c] O=.ok (.lst ((szs c).map D.int)) O:=by
 have hb:=mq c 8 5 (by decide)
 have ec:=rM (g:=mgN 0) (t:=eY) (m:=aq bQ (mC (.int 1)) (aq bZ (aO eV (ak (aa 1) (ak (aa 0) au))) (mC (.int 3)))) (λρ=>∃a,ρ=[a,some (.int c)]) (λi:Nat=>D.int ((i:Nat):Int)) (λi:Nat=>D.int (1+mix c i % 3)) (List.range (1+mix c 8 % 5).toNat) [none,some (.int c)] O [] ⟨_,rfl⟩ (by
  rintro i hi ρ ⟨a,rfl⟩
  have:=List.mem_range.mp hi
  refine⟨_,rfl,⟨_,rfl⟩,rfl,?_⟩;have e:=mj c i (by omega) (by omega) O
  simp[e])
 have e8:=mj c 8 (by decide) (by decide) O
 have hr:1+mix c 8 % 5<=1000000000/\-1000000000<=1+mix c 8 % 5:=by omega
 have hl:(1+mix c 8 % 5).toNat<=1000000:=by omega
 simp only[sE,Bx,WD,zh,jf,zI,jg,Nat.sub_self,zP,List.replicate_zero,je,fM,rK,Il,fB,iY,gn,m_c,lR,dO,zW,aD,e8,dj,lU,show(0:Int)<5 by decide,if_true,d8,yL,hr,and_self,qe,zj,List.length_range,hl,WW,List.replicate_succ,List.cons_append,zV,Option.join_some,ec];unfold szs;simp
theorem J2(k:List Key):bf [] k=none:=rfl
theorem iQ(p:List Key×D)(r:List (List Key×D))(k:List Key):bf (p::r) k=if p.1=k then some p.2 else bf r k:=by
 unfold bf
 by_cases h:p.1=k<;>simp[List.find?_cons,h]
theorem J3(k j:List Key)(d:D):∀kvs:List (List Key×D),bf (kvs.map λp=>if p.1=k then(p.1,d) else p) j=(bf kvs j).map λx=>if j=k then d else x
 | []=>rfl
 |p::r=>by
  rw[zh,iQ,iQ,J3 k j d r]
  by_cases h:p.1=k
  ·rw[if_pos h]
   by_cases h2:p.1=j
   ·have:j=k:=by rw[<-h2,h]
    simp[h2,this]
   ·simp[h2]
  ·rw[if_neg h]
   by_cases h2:p.1=j
   ·have:¬j=k:=by rw[<-h2];exact h
    simp[h2,this]
   ·simp[h2]
theorem J4(k j:List Key)(d:D):∀kvs:List (List Key×D),bf (kvs++[(k,d)]) j=match bf kvs j with
  |some x=>some x
  |none=>if k=j then some d else none
 | []=>by rw[zV,iQ,J2]
 |p::r=>by
  rw[List.cons_append,iQ,iQ,J4 k j d r]
  by_cases h:p.1=j<;>simp[h]
theorem CP(k:List Key):∀kvs:List (List Key×D),(kvs.any λp=>decide (p.1=k))=(bf kvs k).isSome
 | []=>rfl
 |p::r=>by
  rw[List.any_cons,iQ,CP k r]
  by_cases h:p.1=k<;>simp[h]
theorem CQ(kvs:List (List Key×D))(k j:List Key)(d:D):bf (dD kvs k d) j=if j=k then some d else bf kvs j:=by
 unfold dD;rw[CP]
 cases e:bf kvs k with
 |some x =>
  rw[Option.isSome_some,if_pos rfl,J3]
  by_cases h:j=k
  ·subst h;rw[e];simp
  ·simp[h]
 |none =>
  rw[Option.isSome_none,if_neg zq,J4]
  by_cases h:j=k
  ·subst h;rw[e]
  ·have h':¬k=j:=λz=>h z.symm
   rw[if_neg h]
   cases bf kvs j with
   |some x=>rfl
   |none=>dsimp only;rw[if_neg h']
theorem CT(kvs:List (List Key×D))(k:List Key)(d:D):(dD kvs k d).length<=kvs.length+1:=by
 unfold dD
 split
 ·rw[zj];omega
 ·rw[zv];simp
def sJ:MS:=fV 1 (cM (ak (aa 2) (ak (aa 3) au)))
def vU:MS:=cu (fj (ak (aq gIx (aa 0) (aa 2)) au)) (mgN 3) sJ
def lay(sz:List Int)(k:Nat):List Nd:=(List.range (sz.getD k 0).toNat).map λi:Nat=>((k:Int),(i:Int))
def ndk(sz:List Int):Nat->List Nd
 | 0=>[]
 |k+1=>ndk sz k++lay sz k
theorem mD{sz:List Int}{k:Nat}{v:Nd}(h:v∈lay sz k):v.1=k:=by
 obtain⟨i,_,rfl⟩:=zX.mp h;rfl
theorem qg{sz:List Int}{v:Nd}:∀{k:Nat},v∈ndk sz k↔∃a,a<k/\v∈lay sz a
 | 0=>⟨λh=>(nomatch h),λ⟨a,h,_⟩=>absurd h (Nat.not_lt_zero _)⟩
 |k+1=>by
  show v∈ndk sz k++lay sz k↔_;rw[zA,qg (k:=k)];constructor
  ·rintro(⟨a,h1,h2⟩ | h)
   ·exact⟨a,by omega,h2⟩
   ·exact⟨k,by omega,h⟩
  ·rintro⟨a,h1,h2⟩
   by_cases h:a=k
   ·subst h;exact .inr h2
   ·exact .inl ⟨a,by omega,h2⟩
theorem vV(sz:List Int)(k:Nat):(lay sz k).Nodup:=by
 unfold lay;refine List.Pairwise.map _ (R:=λa b=>a≠b) (λa b h z=>h ?_) List.nodup_range
 have:=congrArg Prod.snd z
 dsimp only at this;omega
theorem CV(sz:List Int):∀k,(ndk sz k).Nodup
 | 0=>List.nodup_nil
 |k+1=>jc.mpr ⟨CV sz k,vV sz k,λa ha b hb z=>by
  obtain⟨c,h1,h2⟩:=qg.mp ha;have e1:=mD h2;have e2:=mD hb;rw[z,e2] at e1
  omega⟩
theorem oE(sz:List Int)(hs:∀s∈sz,1<=s/\s<=3):∀k,(ndk sz k).length<=3 * k
 | 0=>zd _
 |k+1=>by
  have ih:=oE sz hs k
  have h2:(lay sz k).length<=3:=by
   unfold lay;rw[zj,List.length_range]
   by_cases h:k<sz.length
   ·rw[zY,zu h]
    have:=hs _ (jk h)
    show(sz[k]).toNat<=3;omega
   ·rw[zY,jy (by omega)];decide
  show(ndk sz k++lay sz k).length<=_;rw[zv];omega
theorem J5(sz:List Int)(h1:1<=sz.length)(hs:∀s∈sz,1<=s/\s<=3):((0,0):Nd)∈ndk sz sz.length:=by
 refine qg.mpr ⟨0,h1,zX.mpr ⟨0,List.mem_range.mpr ?_,rfl⟩⟩;rw[zY,zu (by omega)]
 have:=hs _ (jk (show 0<sz.length by omega))
 show 0<(sz[0]).toNat;omega
theorem Yy(sz:List Int)(h5:sz.length<=5)(hs:∀s∈sz,1<=s/\s<=3)(O:aj):vB [.lst (sz.map D.int)] O=.ok (.lst ((ndk sz sz.length).map dN)) O:=by
 obtain⟨ρ',O',e,hO,a,b,rfl⟩:=kY (g:=mgN 2) (b:=vU)
  (λk ρ O'=>O'=O/\∃(a b:Option D),ρ=[some (.lst (sz.map D.int)),some (.lst ((ndk sz k).map dN)),a,b]) (d7 0 sz.length) 0 [some (.lst (sz.map D.int)),some (.lst []),none,none] O ⟨rfl,none,none,rfl⟩ (by
   rintro i d ρ O' hi ⟨rfl,a,b,rfl⟩
   have hi5:i<sz.length:=by
    have:=(zl.mp hi).1
    rwa [iD] at this
   rw[qe,zy,List.getElem?_range hi5] at hi;cases hi;rw[zP];refine⟨_,rfl,?_⟩
   have hgd:sz.getD i 0=sz[i]:=by rw[zY,zu hi5];rfl
   have hll:=oE sz hs i;obtain⟨b0,b3⟩:=hs _ (jk hi5);obtain⟨ρ2,O2,e2,rfl,b2,rfl⟩:=kY (g:=mgN 3) (b:=sJ)
    (λk ρ O''=>O''=O'/\∃(b:Option D),ρ=[some (.lst (sz.map D.int)),some (.lst ((ndk sz i++(List.range k).map λj:Nat=>((i:Int),(j:Int))).map dN)),some (.int (i:Int)),b]) (d7 0 (sz[i]).toNat) 0 [some (.lst (sz.map D.int)),some (.lst ((ndk sz i).map dN)),some (.int (i:Int)),b] O' ⟨rfl,b,by simp⟩ (by
     rintro j d ρ O'' hj ⟨rfl,b',rfl⟩
     have hj5:j<(sz[i]).toNat:=by
      have:=(zl.mp hj).1
      rwa [iD] at this
     rw[qe,zy,List.getElem?_range hj5] at hj;cases hj;rw[zP];refine⟨_,rfl,_,_,.inl ?_,rfl,some (.int (j:Int)),rfl⟩;show sJ [some (.lst (sz.map D.int)),some (.lst ((ndk sz i++(List.range j).map λj:Nat=>((i:Int),(j:Int))).map dN)),some (.int (i:Int)),some (.int (j:Int))] _=_;unfold sJ;rw[vP (d:=dN ((i:Int),(j:Int))) (Yl (xs:=[.int (i:Int),.int (j:Int)]) (maS rfl (ma1 rfl)) (Nat.le_of_ble_eq_true rfl)) rfl (by rw[zj,zv,zj,List.length_range];omega),List.range_succ,zN,zN,zN,zN,zM]
     rfl)
   rw[iD,zP] at e2
   have hx:gIx (.lst (sz.map D.int)) (.int (i:Int))=some (.int ((sz[i].toNat:Nat):Int)):=by
    rw[lV,pL,zy,zu hi5,Int.toNat_of_nonneg (by omega)];rfl
   refine⟨_,_,.inl ?_,rfl,some (.int (i:Int)),b2,rfl⟩;show vU [some (.lst (sz.map D.int)),some (.lst ((ndk sz i).map dN)),some (.int (i:Int)),b] _=_;unfold vU;rw[fW,qb (n:=(sz[i]).toNat) (bh (x:=.lst (sz.map D.int)) (y:=.int (i:Int)) rfl rfl hx) (by omega),fX,e2];show _=Fl.nx [_,some (.lst ((ndk sz i++lay sz i).map dN)),_,_] _;unfold lay
   rw[hgd])
 rw[iD,zP,hO] at e;unfold vU sJ at e;show bu (vA [some (.lst (sz.map D.int)),none,none,none] O)=_;unfold vA;rw[cz,show aH 1 (cD au) [some (.lst (sz.map D.int)),none,none,none] O=.nx [some (.lst (sz.map D.int)),some (.lst []),none,none] O from rfl,cP,cz,fW,qb (n:=sz.length) (by rw[oA (l:=sz.map D.int) rfl,zj]) (by omega),fX,e,cP];rfl
def sO(kv:List (List Key×D))(b:Nat):Prop:=kv.length<=b/\∀k,bf kv k=none\/∃j:Nat,j<=b/\bf kv k=some (.int (j:Int))
theorem lB{O:aj}{o:Ob}:(O++[o])[O.length]?=some o:=by
 rw[zJ (zd _),Nat.sub_self];rfl
theorem CW{O:aj}{o o':Ob}:(O++[o]).set O.length o'=O++[o']:=by
 rw[List.set_append_right _ _ (zd _),Nat.sub_self];rfl
theorem J6{mo my mz:L2.M D}{ρ:aA}{O:aj}{n:Nat}{kvs:List (List Key×D)}{y:Nd}{z:D}(h1:mo ρ O=.ok (.ob n) O)(h2:O[n]?=some (.dt kvs))(h3:my ρ O=.ok (dN y) O)(h4:mz ρ O=.ok z O):
  iU mo my mz ρ O=.ok ((bf kvs (key y)).getD z) O:=by
 unfold iU;rw[h1];dsimp only[aD];rw[h2];dsimp only;rw[h3];dsimp only[aD];rw[h4];dsimp only[aD];rw[iM,h2]
theorem vW{mo my mv:L2.M D}{ρ:aA}{O:aj}{n:Nat}{kvs:List (List Key×D)}{y:Nd}{d:D}(h1:mv ρ O=.ok d O)(h2:mo ρ O=.ok (.ob n) O)(h3:O[n]?=some (.dt kvs))(h4:my ρ O=.ok (dN y) O)(hl:kvs.length<1000000):
  cV mo my mv ρ O=.nx ρ (O.set n (.dt (dD kvs (key y) d))):=by
 unfold cV;rw[h1];dsimp only;rw[h2];dsimp only;rw[h4];dsimp only;rw[iM,h3];dsimp only;rw[if_pos hl]
theorem J7{mo my:L2.M D}{ρ:aA}{O:aj}{n:Nat}{kvs:List (List Key×D)}{y:Nd}(h1:mo ρ O=.ok (.ob n) O)(h2:O[n]?=some (.dt kvs))(h3:my ρ O=.ok (dN y) O):
  ig false my mo ρ O=.ok (.bl (bf kvs (key y)).isSome) O:=by
 unfold ig;rw[h3];dsimp only[aD];rw[h1];dsimp only[aD];rw[iM,h2];dsimp only;rw[Bool.false_bne]
theorem sO.val{kv:List (List Key×D)}{b:Nat}(h:sO kv b)(k:List Key):∃j:Nat,j<=b/\(bf kv k).getD (.int 0)=.int (j:Int):=by
 rcases h.2 k with e | ⟨j,hj,e⟩
 ·exact⟨0,Nat.zero_le _,by rw[e];rfl⟩
 ·exact⟨j,hj,by rw[e];rfl⟩
theorem sO.put{kv:List (List Key×D)}{b j:Nat}(h:sO kv b)(k:List Key)(hj:j<=b+1):sO (dD kv k (.int (j:Int))) (b+1):=by
 refine⟨zH (CT _ _ _) (by have:=h.1;omega),λi=>?_⟩;rw[CQ]
 split
 ·exact .inr ⟨j,hj,rfl⟩
 ·rcases h.2 i with e | ⟨j',hj',e⟩
  ·exact .inl e
  ·exact .inr ⟨j',by omega,e⟩
theorem J8{ns:List Nd}{v:Int}(h:ns≠[])(hv:0<=v/\v<ns.length):∃n∈ns,gIx (.lst (ns.map dN)) (.int v)=some (dN n):=by
 obtain⟨x,hx,hm⟩:=WT (xs:=ns.map dN) hv.1 (by rw[zj];exact hv.2);obtain⟨n,hn,rfl⟩:=zX.mp hm;exact⟨n,hn,by rw[lV];exact hx⟩
theorem Yz(c j:Nat)(hj:j<=1000):eZ (.str [c]) (.int (j:Int))=some (.str (List.replicate j c)):=by
 show(if -1000000<(j:Int)/\(j:Int)<1000000/\[c].length * (j:Int).toNat<=16777216 then some (D.str (List.replicate (j:Int).toNat [c]).flatten) else none)=_;rw[if_pos ⟨by omega,by omega,by simp;omega⟩];simp
theorem YB(c:Int):∃x,x<1114112/\gIx (.str [97,98]) (.int (c % 2))=some (.str [x]):=by
 have h0:=Int.emod_nonneg c (show(2:Int)≠0 by decide);have h2:=jz c (show(0:Int)<2 by decide)
 rcases(show c % 2=0\/c % 2=1 by omega) with e | e
 ·exact⟨97,by decide,by rw[e];rfl⟩
 ·exact⟨98,by decide,by rw[e];rfl⟩
theorem sS{α:Type}{g:MG}{t:L2.M Bool}{m:L2.M D}(Pv:aA->Prop)(f h:α->D)(p:α->Bool):∀(xs:List α) (ρ:aA) (O:aj) (acc:List D),Pv ρ ->
  (∀x∈xs,∀ρ,Pv ρ->∃ρ1,g (f x) ρ=some ρ1/\Pv ρ1/\t ρ1 O=.ok (p x) O/\m ρ1 O=.ok (h x) O)->dw g t m (xs.map f) ρ O acc=.ok (acc++(xs.filter p).map h) O
 | [],ρ,O,acc,_,_=>by simp[dw]
 |x::xs,ρ,O,acc,hp,hs=>by
  obtain⟨ρ1,e1,h1,e2,e3⟩:=hs x zr ρ hp
  have ih:=λacc=>sS Pv f h p xs ρ1 O acc h1 λd' hd'=>hs d' (zD _ hd')
  rw[zh];unfold dw;rw[e1];dsimp only;rw[e2]
  cases q:p x with
  |true =>
   dsimp only;rw[e3];dsimp only;rw[ih,List.filter_cons,q];simp
  |false =>
   dsimp only;rw[ih,List.filter_cons,q];simp
theorem vY(n:Nd):gIx (dN n) (.int 0)=some (.int n.1):=rfl
theorem vZ{O:aj}(n:Nd):bz O (dN n)=dN n:=rfl
def T5:MS:=aH 5 (aq gIx (aa 1) (aq bZ (aO eV (ak (aa 4) (ak (mC (.int 1)) au))) (bB dg (ak (aa 1) au))))
def T6:MS:=aH 6 (cN (cg (aa 1)) 1 [5] (mgN 0) (aJ (aq gGe (aq gIx (aa 0) (mC (.int 0))) (aq gIx (aa 1) (mC (.int 0))))) (aa 0))
def T7:MS:=aH 7 (aq gIx (aa 6) (aq bZ (aO eV (ak (aa 4) (ak (mC (.int 6)) au))) (bB dg (ak (aa 6) au))))
def T8:MS:=aH 8 (aq bZ (aO eV (ak (aa 4) (ak (mC (.int 9)) au))) (aq gIx (cD (ak (mC (.int 3)) (ak (mC (.int 40)) (ak (aq fU (mC (.int 10)) (mC (.int 9))) au)))) (aq bZ (aO eV (ak (aa 4) (ak (mC (.int 7)) au))) (mC (.int 3)))))
def T9:MS:=bj (cH (aJ (aq gEq (aq gIx (aa 7) (mC (.int 0))) (aq gIx (aa 5) (mC (.int 0))))) (aJ (aq gEq (aa 8) (mC (.int 0))))) (aH 8 (mC (.int 1))) bC
def T10:MS:=aH 8 (aq eZ (aa 8) (aq gIx (cD (ak (mC (.int 1)) (ak (mC (.int 1)) (ak (mC (.int 1)) (ak (aq fU (mC (.int 10)) (mC (.int 40))) au))))) (aq bZ (aO eV (ak (aa 4) (ak (mC (.int 10)) au))) (mC (.int 4)))))
def T11:MS:=fV 2 (cM (ak (aa 5) (ak (aa 8) (ak (aq eZ (aq gIx (mC (.str [97,98])) (aq bZ (aa 4) (mC (.int 2)))) (iU (aa 3) (aa 5) (mC (.int 0)))) (ak (aa 7) au)))))
def T12:MS:=cV (aa 3) (aa 5) (aq bQ (iU (aa 3) (aa 5) (mC (.int 0))) (mC (.int 1)))
def v5:MS:=aB T5 (aB T6 (aB T7 (aB T8 (aB T9 (aB T10 (aB T11 T12))))))
theorem YC(v:Int)(h:0<=v/\v<3):∃q:Int,0<q/\q<=1000000000/\gIx (.lst [.int 3,.int 40,.int 1000000000]) (.int v)=some (.int q):=by
 rcases(show v=0\/v=1\/v=2 by omega) with e | e | e
 ·exact⟨3,by decide,by decide,by rw[e];rfl⟩
 ·exact⟨40,by decide,by decide,by rw[e];rfl⟩
 ·exact⟨1000000000,by decide,by decide,by rw[e];rfl⟩
theorem YD{a b c d:L2.M D}{ρ:aA}{O:aj}{x y z u:D}(ha:a ρ O=.ok x O)(hb:b ρ O=.ok y O)(hc:c ρ O=.ok z O)(hd:d ρ O=.ok u O):cM (ak a (ak b (ak c (ak d au)))) ρ O=.ok (.tup [x,y,z,u]) O:=by
 rw[yH,fB,ha,aD,fB,hb,aD,fB,hc,aD,fB,hd,aD,iY];rfl
theorem YF(v q:Int)(hq:1<=q)(h:0<=v/\v<4):∃f:Int,1<=f/\gIx (.lst [.int 1,.int 1,.int 1,.int q]) (.int v)=some (.int f):=by
 rcases(show v=0\/v=1\/v=2\/v=3 by omega) with e | e | e | e
 ·exact⟨1,by decide,by rw[e];rfl⟩
 ·exact⟨1,by decide,by rw[e];rfl⟩
 ·exact⟨1,by decide,by rw[e];rfl⟩
 ·exact⟨q,hq,by rw[e];rfl⟩
theorem YG:∃q:Int,1<=q/\fU (.int 10) (.int 40)=some (.int q):=⟨10 ^ 40,by decide,rfl⟩
def cnt(ms:List Mv)(n:Nd):Nat:=(ms.filter λm=>decide (m.one=n)).length
theorem YH(ms:List Mv)(n:Nd):cnt ms n<=ms.length:=List.length_filter_le _ _
theorem J9(ms:List Mv)(m:Mv)(n:Nd):cnt (ms++[m]) n=if n=m.one then cnt ms n+1 else cnt ms n:=by
 unfold cnt;rw[List.filter_append]
 by_cases h:m.one=n
 ·simp[h]
 ·have h':¬n=m.one:=λz=>h z.symm
  simp[h,h']
def Cnt(kv:List (List Key×D))(ms:List Mv):Prop:=kv.length<=ms.length/\∀n,(bf kv (key n)).getD (.int 0)=.int ((cnt ms n:Nat):Int)
def MOk(ns:List Nd)(m:Mv):Prop:=m.one∈ns/\m.other∈ns/\m.one.1<=m.other.1/\0<=m.cost/\(m.one.1=m.other.1->1<=m.cost)
theorem Cnt.put{kv:List (List Key×D)}{ms:List Mv}(h:Cnt kv ms)(m:Mv):Cnt (dD kv (key m.one) (.int ((cnt ms m.one+1:Nat):Int))) (ms++[m]):=by
 refine⟨zH (CT _ _ _) (by have:=h.1;rw[zv];simp;omega),λn=>?_⟩;rw[CQ,J9]
 by_cases hn:n=m.one
 ·subst hn;simp
 ·rw[if_neg (λz=>hn (qd z)),if_neg hn];exact h.2 n
theorem YJ(S:D)(ns:List Nd)(hn:ns≠[])(hl:ns.length<=15)(ms:List Mv)(kv:List (List Key×D))(hk:Cnt kv ms)(hm:ms.length<=100)(c:Int)(n:Nat)(O:aj)(hO:O[n]?=some (.dt kv))(o5 o6 o7 o8:Option D):
  ∃(m:Mv) (p5 p6 p7 p8:Option D),NOk m.name/\m.name.length=cnt ms m.one/\MOk ns m/\v5 [some S,some (.lst (ns.map dN)),some (.lst (ms.map dM)),some (.ob n),some (.int c),o5,o6,o7,o8] O
   = .nx [some S,some (.lst (ns.map dN)),some (.lst ((ms++[m]).map dM)),some (.ob n),some (.int c),p5,p6,p7,p8] (O.set n (.dt (dD kv (key m.one) (.int ((cnt ms m.one+1:Nat):Int))))):=by
 have lpos:(0:Int)<(ns.length:Int):=by
  have:=List.length_pos_iff.mpr hn
  omega
 obtain⟨one,h1m,h1⟩:=J8 hn (mq c 1 ns.length lpos);have m1:=mj c 1 (by decide) (by decide) O;have m6:=mj c 6 (by decide) (by decide) O;have m7:=mj c 7 (by decide) (by decide) O;have m9:=mj c 9 (by decide) (by decide) O;have m10:=mj c 10 (by decide) (by decide) O
 have s5:T5 [some S,some (.lst (ns.map dN)),some (.lst (ms.map dM)),some (.ob n),some (.int c),o5,o6,o7,o8] O=.nx [some S,some (.lst (ns.map dN)),some (.lst (ms.map dM)),some (.ob n),some (.int c),some (dN one),o6,o7,o8] O:=by
  unfold T5;simp only[kO,gn,dO,lR,pK,fB,iY,m_c,zW,zZ,aD,m1,zh,jf,lQ,dj,Ip,zj,d8,lU,lpos,if_true,h1,kW,jn,jl]
 have ec:=sS (g:=mgN 0) (t:=aJ (aq gGe (aq gIx (aa 0) (mC (.int 0))) (aq gIx (aa 1) (mC (.int 0))))) (m:=aa 0) (λρ=>∃a,ρ=[a,some (dN one)]) dN dN (λx=>decide (one.1<=x.1)) ns [none,some (dN one)] O [] ⟨_,rfl⟩ (by
  rintro x hx ρ ⟨a,rfl⟩;refine⟨_,rfl,⟨_,rfl⟩,?_,rfl⟩
  simp only[fL,gn,dO,m_c,jl,zW,zZ,aD,vZ,dj,vY,d8,WM,fK])
 have s6:T6 [some S,some (.lst (ns.map dN)),some (.lst (ms.map dM)),some (.ob n),some (.int c),some (dN one),o6,o7,o8] O=.nx [some S,some (.lst (ns.map dN)),some (.lst (ms.map dM)),some (.ob n),some (.int c),some (dN one),some (.lst ((ns.filter λx=>decide (one.1<=x.1)).map dN)),o7,o8] O:=by
  unfold T6
  have hz:ns.length<=1000000:=by omega
  have ec':dw (mgN 0) (aJ (aq gGe (aq gIx (aa 0) (mC (.int 0))) (aq gIx (aa 1) (mC (.int 0))))) (aa 0) (ns.map dN) (iT 1 [5] [some S,some (.lst (ns.map dN)),some (.lst (ms.map dM)),some (.ob n),some (.int c),some (dN one),o6,o7,o8]) O []=_:=ec;simp only[kO,rK,yJ,dO,zW,zZ,aD,yK,yI,zj,hz,if_true,ec',zV,kW,jn,jl]
 generalize hbs:(ns.filter λx=>decide (one.1<=x.1))=bs at s6
 have hbn:bs≠[]:=by
  rw[<-hbs];exact List.ne_nil_of_mem (List.mem_filter.mpr ⟨h1m,by simp⟩)
 have lpb:(0:Int)<(bs.length:Int):=by
  have:=List.length_pos_iff.mpr hbn
  omega
 obtain⟨other,h2m,h2⟩:=J8 hbn (mq c 6 bs.length lpb)
 have s7:T7 [some S,some (.lst (ns.map dN)),some (.lst (ms.map dM)),some (.ob n),some (.int c),some (dN one),some (.lst (bs.map dN)),o7,o8] O=.nx [some S,some (.lst (ns.map dN)),some (.lst (ms.map dM)),some (.ob n),some (.int c),some (dN one),some (.lst (bs.map dN)),some (dN other),o8] O:=by
  unfold T7;simp only[kO,gn,dO,lR,pK,fB,iY,m_c,zW,zZ,aD,m6,zh,jf,lQ,dj,Ip,zj,d8,lU,lpb,if_true,h2,kW,jn,jl]
 obtain⟨q,q0,q1,hq⟩:=YC (mix c 7 % 3) (mq c 7 3 (by decide));have hc:=mq c 9 q q0
 have s8:T8 [some S,some (.lst (ns.map dN)),some (.lst (ms.map dM)),some (.ob n),some (.int c),some (dN one),some (.lst (bs.map dN)),some (dN other),o8] O=.nx [some S,some (.lst (ns.map dN)),some (.lst (ms.map dM)),some (.ob n),some (.int c),some (dN one),some (.lst (bs.map dN)),some (dN other),some (.int (mix c 9 % q))] O:=by
  unfold T8;simp only[kO,gn,dO,lR,uJ,fB,iY,m_c,zW,zZ,aD,m9,m7,lQ,dj,WR,d8,zI,jg,zP,Nat.reduceAdd,Nat.reduceLeDiff,lU,show(0:Int)<3 by decide,if_true,hq,q0,kW,jn,jl]
 obtain⟨cost,hcost,hsame,s9⟩:∃cost:Int,(0<=cost/\cost<=1000000000)/\(one.1=other.1->1<=cost)/\T9 [some S,some (.lst (ns.map dN)),some (.lst (ms.map dM)),some (.ob n),some (.int c),some (dN one),some (.lst (bs.map dN)),some (dN other),some (.int (mix c 9 % q))] O=.nx [some S,some (.lst (ns.map dN)),some (.lst (ms.map dM)),some (.ob n),some (.int c),some (dN one),some (.lst (bs.map dN)),some (dN other),some (.int cost)] O:=by
  unfold T9
  by_cases e1:other.1=one.1
  ·by_cases e2:mix c 9 % q=0
   ·refine⟨1,by decide,λ_=>by decide,?_⟩;simp only[jH,gq,fL,gn,dO,m_c,zW,zZ,aD,vZ,dj,vY,d8,nP,e1,e2,decide_true,fK,if_true,iZ,kO,kW,jn,jl]
   ·refine⟨mix c 9 % q,by omega,λ_=>by omega,?_⟩;simp only[jH,gq,fL,gn,dO,m_c,zW,zZ,aD,vZ,dj,vY,d8,nP,e1,zp e2,decide_true,fK,if_true,iZ,Bool.false_eq_true,if_false,uK]
  ·refine⟨mix c 9 % q,by omega,λz=>absurd z.symm e1,?_⟩;simp only[jH,gq,fL,gn,dO,m_c,zW,zZ,aD,vZ,dj,vY,d8,nP,zp e1,fK,iZ,Bool.false_eq_true,if_false,uK]
 obtain⟨p40,hp0,hp40⟩:=YG;obtain⟨f,hf1,hf⟩:=YF (mix c 10 % 4) p40 hp0 (mq c 10 4 (by decide));have hmul:=yM (i:=cost) (j:=f) (.inl ⟨by omega,by omega⟩)
 have s10:T10 [some S,some (.lst (ns.map dN)),some (.lst (ms.map dM)),some (.ob n),some (.int c),some (dN one),some (.lst (bs.map dN)),some (dN other),some (.int cost)] O=.nx [some S,some (.lst (ns.map dN)),some (.lst (ms.map dM)),some (.ob n),some (.int c),some (dN one),some (.lst (bs.map dN)),some (dN other),some (.int (cost * f))] O:=by
  unfold T10;simp only[kO,gn,dO,lR,uJ,fB,iY,m_c,zW,zZ,aD,m10,lQ,dj,hp40,d8,zI,jg,zP,Nat.reduceAdd,Nat.reduceLeDiff,lU,show(0:Int)<4 by decide,if_true,hf,hmul,kW,jn,jl]
 obtain⟨j,hj⟩:∃j,j=cnt ms one:=⟨_,rfl⟩;have ej:=hk.2 one;rw[<-hj] at ej
 have hjl:j<=100:=by rw[hj];exact zH (YH ms one) hm
 obtain⟨x,hx,ex⟩:=YB c;have hch:=Yz x j (by omega)
 have g3:∀r:aA,r[3]?=some (some (.ob n))->r[5]?=some (some (dN one))->iU (aa 3) (aa 5) (mC (.int 0)) r O=.ok (.int (j:Int)) O:=λr h3 h5=>by
  rw[J6 (n:=n) (kvs:=kv) (y:=one) (z:=.int 0) (by rw[dO,h3]) hO (by rw[dO,h5]) rfl,ej]
 have g3a:=g3 [some S,some (.lst (ns.map dN)),some (.lst (ms.map dM)),some (.ob n),some (.int c),some (dN one),some (.lst (bs.map dN)),some (dN other),some (.int (cost * f))] rfl rfl
 have s11:T11 [some S,some (.lst (ns.map dN)),some (.lst (ms.map dM)),some (.ob n),some (.int c),some (dN one),some (.lst (bs.map dN)),some (dN other),some (.int (cost * f))] O=.nx [some S,some (.lst (ns.map dN)),some (.lst ((ms++[Mv.mk one (cost * f) (List.replicate j x) other]).map dM)),some (.ob n),some (.int c),some (dN one),some (.lst (bs.map dN)),some (dN other),some (.int (cost * f))] O:=by
  unfold T11;have b1:aq bZ (aa 4) (mC (.int 2)) [some S,some (.lst (ns.map dN)),some (.lst (ms.map dM)),some (.ob n),some (.int c),some (dN one),some (.lst (bs.map dN)),some (dN other),some (.int (cost * f))] O=.ok (.int (c % 2)) O:=bh rfl rfl (by rw[dj,dj,lU,if_pos (by decide)]);have b2:=bh (g:=gIx) (a:=mC (.str [97,98])) rfl b1 ex;have b3:=bh (g:=eZ) b2 g3a hch;rw[vP (ds:=ms.map dM) (YD (a:=aa 5) (b:=aa 8) (d:=aa 7) rfl rfl b3 rfl) rfl (by rw[zj];omega),zN];rfl
 have g3b:=g3 [some S,some (.lst (ns.map dN)),some (.lst ((ms++[Mv.mk one (cost * f) (List.replicate j x) other]).map dM)),some (.ob n),some (.int c),some (dN one),some (.lst (bs.map dN)),some (dN other),some (.int (cost * f))] rfl rfl
 have s12:=vW (mo:=aa 3) (my:=aa 5) (mv:=aq bQ (iU (aa 3) (aa 5) (mC (.int 0))) (mC (.int 1))) (ρ:=[some S,some (.lst (ns.map dN)),some (.lst ((ms++[Mv.mk one (cost * f) (List.replicate j x) other]).map dM)),some (.ob n),some (.int c),some (dN one),some (.lst (bs.map dN)),some (dN other),some (.int (cost * f))]) (O:=O) (n:=n) (kvs:=kv) (y:=one) (d:=.int ((j+1:Nat):Int)) (by
  simp only[gn,m_c,g3b,aD,dj,yL,d8]
  rfl) rfl hO rfl (by have:=hk.1;omega)
 have hmok:MOk ns ⟨one,cost * f,List.replicate j x,other⟩:=by
  rw[<-hbs] at h2m;have h3:=List.mem_filter.mp h2m
  exact⟨h1m,h3.1,ji h3.2,Int.mul_nonneg hcost.1 (by omega),λz=>Int.le_trans hf1 (by
   have:=Int.mul_le_mul_of_nonneg_right (hsame z) (show 0<=f by omega)
   rwa [Int.one_mul] at this)⟩
 refine⟨⟨one,cost * f,List.replicate j x,other⟩,some (dN one),some (.lst (bs.map dN)),some (dN other),some (.int (cost * f)),λy hy=>by rw[(List.mem_replicate.mp hy).2];exact hx,(by rw[List.length_replicate];exact hj),hmok,?_⟩;unfold v5;simp only[cz,s5,s6,s7,s8,s9,s10,s11,cP];rw[<-hj];exact s12
theorem YK{α:Type}(l:List α)(a b:Nat):eE l (some (a:Int)) (some (b:Int))=(l.drop a).take (b - a):=by
 unfold eE;rw[HT.sIx_nat,HT.sIx_nat]
 by_cases h:a<=l.length
 ·rw[Nat.min_eq_left h]
  by_cases hb:b<=l.length
  ·rw[Nat.min_eq_left hb]
  ·rw[Nat.min_eq_right (by omega),List.take_of_length_le (by rw[List.length_drop];omega),List.take_of_length_le (by rw[List.length_drop];omega)]
 ·rw[Nat.min_eq_right (show l.length<=a by omega),List.drop_eq_nil_of_le (show l.length<=l.length by omega),List.drop_eq_nil_of_le (show l.length<=a by omega)];simp
theorem YL(xs:List Int)(a b:Nat):∃ys:List Int,ys.length<=b - a/\eE (xs.map D.int) (some (a:Int)) (some (b:Int))=ys.map D.int :=
 ⟨(xs.drop a).take (b - a),List.length_take_le _ _,by rw[YK,List.map_take,List.map_drop]⟩
theorem YM(ns:List Nd)(h:ns≠[]):∃n,gIx (.lst (ns.map dN)) (.int (-1))=some (dN n):=by
 have hp:=List.length_pos_iff.mpr h;rw[lV];unfold atI ixN;rw[if_neg (by decide)];simp only[zj];rw[if_pos (by omega)]
 have hlt:(-1+(ns.length:Int)).toNat<ns.length:=by omega
 refine⟨ns[(-1+(ns.length:Int)).toNat],?_⟩
 first
  | (simp only[Option.bind_some,zy];rw[zu hlt];rfl)
  | (dsimp only;rw[zy,zu hlt];rfl)
def qi:MS:=bj (aJ (aq gEq (aq bZ (aO eV (ak (aa 0) (ak (aq bQ (mC (.int 11)) (aa 3)) au))) (mC (.int 3))) (mC (.int 0)))) (fV 2 (aq gIx (aa 1) (aa 3))) bC
theorem YQ(c:Int)(ns:List Nd)(hn:ns≠[])(hl:ns.length<=15)(O:aj):∃es:List Nd,es.length<=16/\sG [.int c,.lst (ns.map dN)] O=.ok (.lst (es.map dN)) O:=by
 obtain⟨ρ',O2,e,hO2,es,a,rfl,q1⟩:=kY (g:=mgN 3) (b:=qi)
  (λk ρ O'=>O'=O/\∃(es:List Nd) (a:Option D),ρ=[some (.int c),some (.lst (ns.map dN)),some (.lst (es.map dN)),a]/\es.length<=k) (d7 0 ns.length) 0 [some (.int c),some (.lst (ns.map dN)),some (.lst []),none] O ⟨rfl,[],none,rfl,zd _⟩ (by
   rintro i d ρ O' hi ⟨rfl,es,a,rfl,q1⟩
   have hi5:i<ns.length:=by
    have:=(zl.mp hi).1
    rwa [iD] at this
   rw[qe,zy,List.getElem?_range hi5] at hi;cases hi;refine⟨_,rfl,?_⟩;have em:=mj c (11+(i:Int)) (by omega) (by omega) O'
   have hx:gIx (.lst (ns.map dN)) (.int (i:Int))=some (dN ns[i]):=by rw[lV,pL,zy,zu hi5];rfl
   have tt:aJ (aq gEq (aq bZ (aO eV (ak (aa 0) (ak (aq bQ (mC (.int 11)) (aa 3)) au))) (mC (.int 3))) (mC (.int 0))) [some (.int c),some (.lst (ns.map dN)),some (.lst (es.map dN)),some (.int (i:Int))] O'=.ok (decide (mix c (11+(i:Int)) % 3=0)) O':=by
    simp only[fL,gn,lR,fB,iY,dO,m_c,zW,zZ,aD,dj,yL,d8,em,lU,show(0:Int)<3 by decide,if_true,nP,fK]
   have ap:=vP (i:=2) (m:=aq gIx (aa 1) (aa 3)) (ρ:=[some (.int c),some (.lst (ns.map dN)),some (.lst (es.map dN)),some (.int (i:Int))]) (O:=O') (d:=dN ns[i]) (ds:=es.map dN) (bh rfl rfl hx) rfl (by rw[zj];omega)
   by_cases hc:mix c (11+(i:Int)) % 3=0
   ·refine⟨_,_,.inl ?_,rfl,es++[ns[i]],some (.int (i:Int)),rfl,by rw[zv];simp;omega⟩;show qi [some (.int c),some (.lst (ns.map dN)),some (.lst (es.map dN)),some (.int (i:Int))] O'=_;unfold qi;rw[jH,tt,zx hc,iZ,if_pos rfl,ap,zN];rfl
   ·refine⟨_,_,.inl ?_,rfl,es,some (.int (i:Int)),rfl,by omega⟩;show qi [some (.int c),some (.lst (ns.map dN)),some (.lst (es.map dN)),some (.int (i:Int))] O'=_;unfold qi;rw[jH,tt,zp hc,iZ,if_neg zq]
    rfl)
 rw[iD,zP] at q1;rw[hO2] at e;obtain⟨n,hx⟩:=YM ns hn
 have hr:(ns.length:Int)<=1000000000/\-1000000000<=(ns.length:Int):=by omega
 have hng:eO (.int 1)=some (.int (-1)):=rfl
 have pre:sG [.int c,.lst (ns.map dN)] O=bu (aB (bj (cH (aJ (aq gGt (aq bZ (aa 0) (mC (.int 4))) (mC (.int 0)))) (aJ (aq (gm true) (aq gIx (aa 1) (mUn eO (mC (.int 1)))) (aa 2)))) (fV 2 (aq gIx (aa 1) (mUn eO (mC (.int 1))))) bC) (aQ (aa 2)) [some (.int c),some (.lst (ns.map dN)),some (.lst (es.map dN)),a] O):=by
  show bu (aB (aH 2 (cD au)) (aB (cu (fj (ak (bB dg (ak (aa 1) au)) au)) (mgN 3) qi) (aB (bj (cH (aJ (aq gGt (aq bZ (aa 0) (mC (.int 4))) (mC (.int 0)))) (aJ (aq (gm true) (aq gIx (aa 1) (mUn eO (mC (.int 1)))) (aa 2)))) (fV 2 (aq gIx (aa 1) (mUn eO (mC (.int 1))))) bC) (aQ (aa 2)))) [some (.int c),some (.lst (ns.map dN)),none,none] O)=_;rw[cz,show aH 2 (cD au) [some (.int c),some (.lst (ns.map dN)),none,none] O=.nx [some (.int c),some (.lst (ns.map dN)),some (.lst []),none] O from rfl,cP,cz,fW,qb (n:=ns.length) (by rw[oA (l:=ns.map dN) rfl,zj]) (by omega),fX,e,cP]
 have bx:aq gIx (aa 1) (mUn eO (mC (.int 1))) [some (.int c),some (.lst (ns.map dN)),some (.lst (es.map dN)),a] O=.ok (dN n) O:=bh (y:=.int (-1)) rfl (by rw[Ws,m_c,aD,dj,hng,d8]) hx
 have bt:aJ (aq (gm true) (aq gIx (aa 1) (mUn eO (mC (.int 1)))) (aa 2)) [some (.int c),some (.lst (ns.map dN)),some (.lst (es.map dN)),a] O=.ok (true ^^ decide (n∈es)) O:=by
  rw[fL,bh (z:=.bl (true ^^ decide (n∈es))) bx rfl (CN true n es),aD,fK]
 have bg:aJ (aq gGt (aq bZ (aa 0) (mC (.int 4))) (mC (.int 0))) [some (.int c),some (.lst (ns.map dN)),some (.lst (es.map dN)),a] O=.ok (decide (0<c % 4)) O:=by
  simp only[fL,gn,dO,m_c,zW,aD,dj,lU,show(0:Int)<4 by decide,if_true,d8,WL,fK]
 have ap:=vP (i:=2) (ds:=es.map dN) bx rfl (by rw[zj];omega)
 have ww:∃es2:List Nd,es2.length<=16/\bj (cH (aJ (aq gGt (aq bZ (aa 0) (mC (.int 4))) (mC (.int 0)))) (aJ (aq (gm true) (aq gIx (aa 1) (mUn eO (mC (.int 1)))) (aa 2)))) (fV 2 (aq gIx (aa 1) (mUn eO (mC (.int 1))))) bC [some (.int c),some (.lst (ns.map dN)),some (.lst (es.map dN)),a] O=.nx [some (.int c),some (.lst (ns.map dN)),some (.lst (es2.map dN)),a] O:=by
  rw[jH,gq,bg,aD]
  by_cases h1:0<c % 4
  ·rw[zx h1,if_pos rfl,bt,iZ]
   by_cases h2:n∈es
   ·rw[zx h2];exact⟨es,by omega,rfl⟩
   ·rw[zp h2];refine⟨es++[n],by rw[zv];simp;omega,?_⟩;rw[Bool.true_xor,Bool.not_false,if_pos rfl,ap,zN];rfl
  ·rw[zp h1,if_neg zq,iZ];exact⟨es,by omega,rfl⟩
 obtain⟨es2,h16,ew⟩:=ww;refine⟨es2,h16,?_⟩;rw[pre,cz,ew,cP];rfl
def Un(ms:List Mv):Prop:=(∀m∈ms,m.name.length<cnt ms m.one)/\∀m m',m∈ms->m'∈ms->m.one=m'.one->m.name=m'.name->m=m'
theorem Un.snoc{ms:List Mv}{m:Mv}(h:Un ms)(hm:m.name.length=cnt ms m.one):Un (ms++[m]):=by
 refine⟨λx hx=>?_,λx y hx hy h1 h2=>?_⟩
 ·rw[J9]
  rcases zA.mp hx with hx | hx
  ·have:=h.1 x hx
   split<;>omega
  ·rw[zz.mp hx,if_pos rfl];omega
 ·rcases zA.mp hx with hx | hx
  ·rcases zA.mp hy with hy | hy
   ·exact h.2 x y hx hy h1 h2
   ·have e:=zz.mp hy
    have:=h.1 x hx
    rw[h1,h2,e,hm] at this;omega
  ·rcases zA.mp hy with hy | hy
   ·have e:=zz.mp hx
    have:=h.1 y hy
    rw[<-h1,<-h2,e,hm] at this;omega
   ·rw[zz.mp hx,zz.mp hy]
theorem YS(xs:List Int)(ns:List Nd)(hn:ns≠[])(hl:ns.length<=15)(O:aj):∃(ms:List Mv) (kv:List (List Key×D)),ms.length<=40/\(∀m∈ms,NOk m.name)/\(∀m∈ms,MOk ns m)/\Un ms /\
  vD [.lst (xs.map D.int),.lst (ns.map dN)] O=.ok (.lst (ms.map dM)) (O++[.dt kv]):=by
 obtain⟨ys,hy,ey⟩:=YL xs 3 43;obtain⟨ρ',O',e,ms,kv,p4,p5,p6,p7,p8,rfl,rfl,q1,q2,q3,q4,q5⟩:=kY (g:=mgN 4) (b:=v5)
  (λk ρ O'=>∃(ms:List Mv) (kv:List (List Key×D)) (p4 p5 p6 p7 p8:Option D),O'=O++[.dt kv]/\ρ=[some (.lst (xs.map D.int)),some (.lst (ns.map dN)),some (.lst (ms.map dM)),some (.ob O.length),p4,p5,p6,p7,p8]/\ms.length=k/\(∀m∈ms,NOk m.name)/\Cnt kv ms/\(∀m∈ms,MOk ns m)/\Un ms)
  (ys.map D.int) 0 [some (.lst (xs.map D.int)),some (.lst (ns.map dN)),some (.lst []),some (.ob O.length),none,none,none,none,none] (O++[.dt []]) ⟨[],[],none,none,none,none,none,rfl,rfl,rfl,λm hm=>(nomatch hm),⟨zd _,λk=>rfl⟩,λm hm=>(nomatch hm),⟨λm hm=>(nomatch hm),λm _ hm=>(nomatch hm)⟩⟩ (by
   rintro i d ρ O' hi ⟨ms,kv,p4,p5,p6,p7,p8,rfl,rfl,q1,q2,q3,q4,q5⟩;have hi2:=(zl.mp hi).1;rw[zj] at hi2;rw[zy,zu hi2] at hi;cases hi;obtain⟨m,r5,r6,r7,r8,h1,h2,h4,h3⟩:=YJ (.lst (xs.map D.int)) ns hn hl ms kv q3 (by omega) ys[i] O.length (O++[.dt kv]) lB p5 p6 p7 p8;refine⟨_,rfl,_,_,.inl h3,ms++[m],_,some (.int ys[i]),r5,r6,r7,r8,CW,rfl,by rw[zv,q1];rfl,λx hx=>?_,q3.put m,λx hx=>?_,q5.snoc h2⟩
   ·rcases zA.mp hx with hx | hx
    ·exact q2 x hx
    ·rw[zz.mp hx];exact h1
   ·rcases zA.mp hx with hx | hx
    ·exact q4 x hx
    ·rw[zz.mp hx];exact h4)
 rw[zj,zP] at q1;refine⟨ms,kv,by omega,q2,q4,q5,?_⟩;have ey':eE (xs.map D.int) (some 3) (some 43)=ys.map D.int:=ey;show bu (aB (aH 2 (cD au)) (aB (aH 3 dJ) (aB (cu (cg (mSl (aa 0) (moS (mC (.int 3))) (moS (mC (.int 43))))) (mgN 4) v5) (aQ (aa 2)))) [some (.lst (xs.map D.int)),some (.lst (ns.map dN)),none,none,none,none,none,none,none] O)=_;have hd:dJ [some (.lst (xs.map D.int)),some (.lst (ns.map dN)),some (.lst []),none,none,none,none,none,none] O=.ok (.ob O.length) (O++[.dt []]):=rfl;simp only[cz,kO,uJ,iY,aD,jg,Nat.zero_le,if_true,kW,jn,jl,cP,hd,fW,yJ,Wv,Wu,dO,m_c,zW,zZ,Wt,lQ,Ww,ey',d8,yK,yI,fX,e,fM,uL,uM]
theorem CZ{cs:List Str}{f c:Str}{mo mv:L2.M D}{ρ:aA}{O O1:aj}{n:Nat}{d:D}{fs:List (Str×D)}(hv:mv ρ O=.ok d O1)(ho:mo ρ O1=.ok (.ob n) O1)(hO:O1[n]?=some (.ins c fs))(hc:c∈cs)(hl:fs.length<900):
  gk cs f mo mv ρ O=.nx ρ (O1.set n (.ins c (putD f d fs))):=by
 rw[W4,hv,W5,ho];unfold puF;dsimp only;rw[hO];dsimp only;rw[if_pos ⟨hc,hl⟩]
theorem qj{cs:List Str}{f c:Str}{m:L2.M D}{ρ:aA}{O:aj}{n:Nat}{y:D}{fs:List (Str×D)}(ho:m ρ O=.ok (.ob n) O)(hO:O[n]?=some (.ins c fs))(hc:c∈cs)(hy:fs.lookup f=some y):
  dC cs f m ρ O=.ok y O:=by
 rw[W3,ho,aD];unfold Iz;dsimp only;rw[hO];dsimp only;rw[if_pos hc,hy]
theorem gD{c m:Str}{cf:List D->aj->Res D}{mo:L2.M D}{ma:L2.M (List D)}{ρ:aA}{O:aj}{n:Nat}{ds:List D}{fs:List (Str×D)}(ho:mo ρ O=.ok (.ob n) O)(hO:O[n]?=some (.ins c fs))(hm:(fs.lookup m).isNone=true)(ha:ma ρ O=.ok ds O):
  bA c m cf mo ma ρ O=cf (.ob n::ds) O:=by
 rw[W6,ho,aD];unfold meF;dsimp only;rw[hO];dsimp only;rw[if_pos ⟨rfl,hm⟩,ha,aD]
def kvO(b:Nat):Nat->List Nd->List (List Key×D)
 | _,[]=>[]
 |i,n::r=>(key n,.ob (b+2+i))::kvO b (i+1) r
theorem Dc(b:Nat)(n:Nd):∀(ks:List Nd) (i:Nat),n∉ks->bf (kvO b i ks) (key n)=none
 | [],_,_=>rfl
 |k::ks,i,h=>by
  show bf ((key k,_)::kvO b (i+1) ks) (key n)=none;rw[iQ,if_neg (λz=>h (by rw[qd z];exact zr)),Dc b n ks (i+1) (λz=>h (zD _ z))]
theorem Dd(b:Nat)(n:Nd):∀(ks:List Nd) (i j:Nat),ks.Nodup->ks[j]?=some n->bf (kvO b i ks) (key n)=some (.ob (b+2+i+j))
 | [],_,j,_,h=>by simp at h
 |k::ks,i,0,_,h=>by
  cases h;show bf ((key n,.ob (b+2+i))::kvO b (i+1) ks) (key n)=_;rw[iQ,if_pos rfl];rfl
 |k::ks,i,j+1,hd,h=>by
  have hj:ks[j]?=some n:=by simpa using h
  have hk:k≠n:=λz=>(List.nodup_cons.mp hd).1 (by rw[z];exact zO hj)
  show bf ((key k,_)::kvO b (i+1) ks) (key n)=_;rw[iQ,if_neg (λz=>hk (qd z)),Dd b n ks (i+1) j (List.nodup_cons.mp hd).2 hj];congr 2;omega
theorem Ka(b:Nat)(n:Nd):∀(ks:List Nd) (i:Nat),kvO b i (ks++[n])=kvO b i ks++[(key n,.ob (b+2+i+ks.length))]
 | [],i=>rfl
 |k::ks,i=>by
  show(key k,_)::kvO b (i+1) (ks++[n])=_;rw[Ka b n ks (i+1)];show _=(key k,_)::(kvO b (i+1) ks++_);rw[zI,show b+2+(i+1)+ks.length=b+2+i+(ks.length+1) by omega]
theorem Kc(b:Nat):∀(ks:List Nd) (i:Nat),(kvO b i ks).length=ks.length
 | [],i=>rfl
 |k::ks,i=>by show(kvO b (i+1) ks).length+1=_;rw[Kc b ks (i+1)];rfl
theorem Kd{kvs:List (List Key×D)}{k:List Key}{d:D}(h:bf kvs k=none):dD kvs k d=kvs++[(k,d)]:=by
 unfold dD;rw[CP,h];rfl
def grp(ms:List Mv)(n:Nd):List D:=(ms.filter λm=>decide (m.one=n)).map d3
theorem sU(ms:List Mv)(m:Mv)(n:Nd):grp (ms++[m]) n=if m.one=n then grp ms n++[d3 m] else grp ms n:=by
 unfold grp;rw[List.filter_append]
 by_cases h:m.one=n<;>simp[h]
theorem Ke(ms:List Mv)(n:Nd):(grp ms n).length<=ms.length:=by
 unfold grp;rw[zj];exact List.length_filter_le _ _
theorem Kf(ms:List Mv)(n:Nd)(h:∀m∈ms,m.one≠n):grp ms n=[]:=by
 unfold grp;rw[List.filter_eq_nil_iff.mpr λm hm=>by simpa using h m hm];rfl
def tl(fs:List (Str×D))(b:Nat)(ks:List Nd)(ms:List Mv):aj:=.ins "Listed" fs :: .dt (kvO b 0 ks)::ks.map λn=>Ob.ml (grp ms n)
theorem jO{O R:aj}(i:Nat):(O++R)[O.length+i]?=R[i]?:=by
 rw[zJ (by omega),Nat.add_sub_cancel_left]
theorem v7{O R:aj}(i:Nat)(o:Ob):(O++R).set (O.length+i) o=O++R.set i o:=by
 rw[List.set_append_right _ _ (by omega),Nat.add_sub_cancel_left]
theorem Kg{ms:List Mv}{m:Mv}:∀(ks:List Nd) (j:Nat),ks.Nodup->ks[j]?=some m.one->(ks.map λn=>Ob.ml (grp ms n)).set j (.ml (grp ms m.one++[d3 m]))=ks.map λn=>Ob.ml (grp (ms++[m]) n)
 | [],j,_,h=>by simp at h
 |k::ks,0,hd,h=>by
  cases h;rw[zh,zh,jl,sU,if_pos rfl];congr 1
  refine ju λn hn=>?_
  rw[sU,if_neg (λz=>(List.nodup_cons.mp hd).1 (by rw[z];exact hn))]
 |k::ks,j+1,hd,h=>by
  have hj:ks[j]?=some m.one:=by simpa using h
  have hk:m.one≠k:=λz=>(List.nodup_cons.mp hd).1 (by rw[<-z];exact zO hj)
  rw[zh,zh,jn,Kg ks j (List.nodup_cons.mp hd).2 hj,sU,if_neg hk]
def sV:MS:=kh (nJ (dC ["Listed"] "moves_by_node" (aa 0)) (aq gIx (aa 4) (mC (.int 0))) (cD au)) (cM (ak (aq gIx (aa 4) (mC (.int 1))) (ak (aq gIx (aa 4) (mC (.int 2))) (ak (aq gIx (aa 4) (mC (.int 3))) au))))
theorem v8{mo m:L2.M D}{ρ:aA}{O O1:aj}{n:Nat}{d:D}{ds:List D}(h1:mo ρ O=.ok (.ob n) O1)(h2:O1[n]?=some (.ml ds))(h3:m ρ O1=.ok d O1)(hl:ds.length<1000000):kh mo m ρ O=.nx ρ (O1.set n (.ml (ds++[d]))):=by
 unfold kh;rw[h1];dsimp only;rw[h2];dsimp only;rw[h3];dsimp only;rw[h2];dsimp only;rw[if_pos hl]
theorem YT{mo my mz:L2.M D}{ρ:aA}{O:aj}{n:Nat}{kvs:List (List Key×D)}{y:Nd}{d:D}(h1:mo ρ O=.ok (.ob n) O)(h2:O[n]?=some (.dt kvs))(h3:my ρ O=.ok (dN y) O)(h4:mz ρ O=.ok (.lst []) O)(hl:kvs.length<1000000)(hv:bf kvs (key y)=some d):nJ mo my mz ρ O=.ok d O:=by
 unfold nJ;rw[h1];dsimp only[aD];rw[h2];dsimp only;rw[h3];dsimp only[aD];rw[h4];dsimp only[aD];rw[iM,h2];dsimp only;rw[if_pos hl,hv]
theorem YW{mo my mz:L2.M D}{ρ:aA}{O:aj}{n:Nat}{kvs:List (List Key×D)}{y:Nd}(h1:mo ρ O=.ok (.ob n) O)(h2:O[n]?=some (.dt kvs))(h3:my ρ O=.ok (dN y) O)(h4:mz ρ O=.ok (.lst []) O)(hl:kvs.length<1000000)(hv:bf kvs (key y)=none):nJ mo my mz ρ O=.ok (.ob O.length) (List.set (O++[Ob.ml []]) n (.dt (dD kvs (key y) (.ob O.length)))):=by
 unfold nJ;rw[h1];dsimp only[aD];rw[h2];dsimp only;rw[h3];dsimp only[aD];rw[h4];dsimp only[aD];rw[iM,h2];dsimp only;rw[if_pos hl,hv]
theorem Kh(m:Mv):gIx (dM m) (.int 0)=some (dN m.one):=rfl
theorem Kl(m:Mv):gIx (dM m) (.int 1)=some (.int m.cost):=rfl
theorem Km(m:Mv):gIx (dM m) (.int 2)=some (.str m.name):=rfl
theorem Ko(m:Mv):gIx (dM m) (.int 3)=some (dN m.other):=rfl
theorem YX{a b c:L2.M D}{ρ:aA}{O:aj}{x y z:D}(ha:a ρ O=.ok x O)(hb:b ρ O=.ok y O)(hc:c ρ O=.ok z O):cM (ak a (ak b (ak c au))) ρ O=.ok (.tup [x,y,z]) O:=by
 rw[yH,fB,ha,aD,fB,hb,aD,fB,hc,aD,iY];rfl
theorem YZ(O:aj)(fs:List (Str×D))(hf:fs.lookup ("moves_by_node":Str)=some (D.ob (O.length+1)))(ks:List Nd)(ms:List Mv)(hd:ks.Nodup)(hm:∀m∈ms,m.one∈ks)(hk:ks.length<=100)(hl:ms.length<=100)(m:Mv)(ρ:aA)(h0:ρ[0]?=some (some (.ob O.length)))(h4:ρ[4]?=some (some (dM m))):
  ∃ks2:List Nd,ks2.Nodup/\ks2.length<=ks.length+1/\(∀x∈ms++[m],x.one∈ks2)/\sV ρ (O++tl fs O.length ks ms)=.nx ρ (O++tl fs O.length ks2 (ms++[m])):=by
 have b3:∀O',cM (ak (aq gIx (aa 4) (mC (.int 1))) (ak (aq gIx (aa 4) (mC (.int 2))) (ak (aq gIx (aa 4) (mC (.int 3))) au))) ρ O'=.ok (d3 m) O':=λO' =>
  YX (bh (x:=dM m) (by rw[dO,h4]) rfl (Kl m)) (bh (x:=dM m) (by rw[dO,h4]) rfl (Km m)) (bh (x:=dM m) (by rw[dO,h4]) rfl (Ko m))
 have bk:aq gIx (aa 4) (mC (.int 0)) ρ (O++tl fs O.length ks ms)=.ok (dN m.one) (O++tl fs O.length ks ms):=bh (x:=dM m) (by rw[dO,h4]) rfl (Kh m);have bo:dC ["Listed"] "moves_by_node" (aa 0) ρ (O++tl fs O.length ks ms)=.ok (.ob (O.length+1)) (O++tl fs O.length ks ms):=qj (n:=O.length) (c:="Listed") (fs:=fs) (by rw[dO,h0]) (jO (R:=tl fs O.length ks ms) 0) zr hf;have bd:(O++tl fs O.length ks ms)[O.length+1]?=some (.dt (kvO O.length 0 ks)):=jO (R:=tl fs O.length ks ms) 1
 have kl:(kvO O.length 0 ks).length<1000000:=by rw[Kc];omega
 by_cases hin:m.one∈ks
 ·obtain⟨j,hj⟩:=List.mem_iff_getElem?.mp hin;have hv:=Dd O.length m.one ks 0 j hd hj;have e1:=YT (mz:=cD au) bo bd bk rfl kl hv
  have hO:(O++tl fs O.length ks ms)[O.length+2+0+j]?=some (.ml (grp ms m.one)):=by
   rw[show O.length+2+0+j=O.length+(j+2) by omega,jO];show(ks.map λn=>Ob.ml (grp ms n))[j]?=_;rw[zy,hj];rfl
  have e2:=v8 e1 hO (b3 _) (by have:=Ke ms m.one;omega);refine⟨ks,hd,by omega,λx hx=>?_,?_⟩
  ·rcases zA.mp hx with hx | hx
   ·exact hm x hx
   ·rw[zz.mp hx];exact hin
  ·unfold sV;rw[e2,show O.length+2+0+j=O.length+(j+2) by omega,v7];show Fl.nx ρ (O++(Ob.ins "Listed" fs::Ob.dt (kvO O.length 0 ks)::(ks.map λn=>Ob.ml (grp ms n)).set j (.ml (grp ms m.one++[d3 m]))))=_;rw[Kg ks j hd hj];rfl
 ·have hv:=Dc O.length m.one ks 0 hin;have e1:=YW (mz:=cD au) bo bd bk rfl kl hv
  have hlen:(O++tl fs O.length ks ms).length=O.length+(ks.length+2):=by
   rw[zv];show O.length+((ks.map λn=>Ob.ml (grp ms n)).length+1+1)=_;rw[zj]
  have hst:List.set ((O++tl fs O.length ks ms)++[Ob.ml []]) (O.length+1) (.dt (dD (kvO O.length 0 ks) (key m.one) (.ob (O++tl fs O.length ks ms).length)))=O++(Ob.ins "Listed" fs::Ob.dt (kvO O.length 0 (ks++[m.one]))::((ks.map λn=>Ob.ml (grp ms n))++[Ob.ml []])):=by
   rw[zM,v7,Kd hv,Ka,hlen,show O.length+(ks.length+2)=O.length+2+0+ks.length by omega];rfl
  rw[hst] at e1;rw[hlen] at e1
  have hO:(O++(Ob.ins "Listed" fs::Ob.dt (kvO O.length 0 (ks++[m.one]))::((ks.map λn=>Ob.ml (grp ms n))++[Ob.ml []])))[O.length+(ks.length+2)]?=some (.ml []):=by
   rw[jO];show((ks.map λn=>Ob.ml (grp ms n))++[Ob.ml []])[ks.length]?=_;rw[zJ (by rw[zj];exact zd _),zj,Nat.sub_self];rfl
  have e2:=v8 e1 hO (b3 _) (by decide);refine⟨ks++[m.one],FT hd hin,by rw[zv];exact zd _,λx hx=>?_,?_⟩
  ·rcases zA.mp hx with hx | hx
   ·exact jv _ (hm x hx)
   ·rw[zz.mp hx];exact zU _ zr
  ·unfold sV;rw[e2,v7]
   have hg:grp ms m.one=[]:=Kf ms m.one λx hx z=>hin (by rw[<-z];exact hm x hx)
   have h1:(ks++[m.one]).map (λn=>Ob.ml (grp (ms++[m]) n))=(ks.map λn=>Ob.ml (grp ms n))++[Ob.ml ([]++[d3 m])]:=by
    rw[zN];congr 1
    ·refine ju λn hn=>?_
     rw[sU,if_neg (λz=>hin (by rw[z];exact hn))]
    ·show[Ob.ml (grp (ms++[m]) m.one)]=_;rw[sU,if_pos rfl,hg]
   unfold tl;rw[h1];show Fl.nx ρ (O++(Ob.ins "Listed" fs::Ob.dt (kvO O.length 0 (ks++[m.one]))::List.set ((ks.map λn=>Ob.ml (grp ms n))++[Ob.ml []]) ks.length (.ml ([]++[d3 m]))))=_;rw[List.set_append_right _ _ (by rw[zj];exact zd _),zj,Nat.sub_self];rfl
structure Tr(O:aj)(n:Nat)(sz:List Int)(ms:List Mv)(es:List Nd) where
 a:Nat
 b:Nat
 kv:List (List Key×D)
 ekv:List (List Key×D)
 ob:O[n]?=some (.ins "Listed" [("sizes",.lst (sz.map D.int)),("moves_by_node",.ob a),("end_nodes",.ob b)])
 oa:O[a]?=some (.dt kv)
 oe:O[b]?=some (.dt ekv)
 en:∀n,(bf ekv (key n)).isSome=decide (n∈es)
 mv:∀n,(bf kv (key n)=none/\grp ms n=[])\/∃i,bf kv (key n)=some (.ob i)/\O[i]?=some (.ml (grp ms n))
def fs1(sz:List Int):List (Str×D):=[("sizes",.lst (sz.map D.int))]
def fs2(sz:List Int)(a:Nat):List (Str×D):=[("sizes",.lst (sz.map D.int)),("moves_by_node",.ob a)]
def fs3(sz:List Int)(a b:Nat):List (Str×D):=[("sizes",.lst (sz.map D.int)),("moves_by_node",.ob a),("end_nodes",.ob b)]
theorem pf1(sz:List Int):putD "sizes" (.lst (sz.map D.int)) []=fs1 sz:=rfl
theorem pf2(sz:List Int)(a:Nat):putD "moves_by_node" (.ob a) (fs1 sz)=fs2 sz a:=rfl
theorem pf3(sz:List Int)(a b:Nat):putD "end_nodes" (.ob b) (fs2 sz a)=fs3 sz a b:=rfl
theorem lk2(sz:List Int)(a:Nat):(fs2 sz a).lookup ("moves_by_node":Str)=some (.ob a):=rfl
theorem lk3(sz:List Int)(a b:Nat):(fs3 sz a b).lookup ("end_nodes":Str)=some (.ob b):=rfl
theorem Kp{α:Type}{l:List α}{i:Nat}{x:α}(h:l[i]?=some x):l.take (i+1)=l.take i++[x]:=by
 obtain⟨hi,rfl⟩:=zl.mp h;rw[List.take_succ_eq_append_getElem hi]
theorem v9{O:aj}{o:Ob}{n:Nat}(h:O.length=n):(O++[o])[n]?=some o:=by
 subst h;exact lB
theorem Y0{O:aj}{o o':Ob}{n:Nat}(h:O.length=n):(O++[o]).set n o'=O++[o']:=by
 subst h;exact CW
theorem Kq{O R:aj}(o:Ob):(O++R).set O.length o=O++R.set 0 o:=v7 0 o
def wg:MS:=cV (dC ["Listed"] "end_nodes" (aa 0)) (aa 5) (mC (.bl true))
theorem De{all pre ds:List D}{d:D}(ha:all=pre++d::ds):all[all.length - (ds.length+1)]?=some d:=by
 rw[ha,zv,zI,Nat.add_sub_cancel,zJ (zd _),Nat.sub_self];rfl
theorem Kr{n:Nat}{all:List D}{g:MG}{b:MS}{pre:List D}{d:D}{ds:List D}{ρ ρ1 ρ2:aA}{O O2:aj}(h:O[n]?=some (.ml all))(ha:all=pre++d::ds)(hg:g d ρ=some ρ1)(hb:b ρ1 O=.nx ρ2 O2):dF n all g b (d::ds) ρ O=dF n all g b ds ρ2 O2:=by
 conv=>lhs;unfold dF
 rw[h];dsimp only;rw[De ha];dsimp only;rw[hg];dsimp only;rw[hb]
theorem Y4{n:Nat}{all:List D}{g:MG}{b:MS}{pre:List D}{d:D}{ds:List D}{ρ ρ1 ρ2:aA}{O O2:aj}(h:O[n]?=some (.ml all))(ha:all=pre++d::ds)(hg:g d ρ=some ρ1)(hb:b ρ1 O=.ct ρ2 O2):dF n all g b (d::ds) ρ O=dF n all g b ds ρ2 O2:=by
 conv=>lhs;unfold dF
 rw[h];dsimp only;rw[De ha];dsimp only;rw[hg];dsimp only;rw[hb]
theorem Y5{n:Nat}{all:List D}{g:MG}{b:MS}{pre:List D}{d x:D}{ds:List D}{ρ ρ1:aA}{O O2:aj}(h:O[n]?=some (.ml all))(ha:all=pre++d::ds)(hg:g d ρ=some ρ1)(hb:b ρ1 O=.rt x O2):dF n all g b (d::ds) ρ O=.rt x O2:=by
 conv=>lhs;unfold dF
 rw[h];dsimp only;rw[De ha];dsimp only;rw[hg];dsimp only;rw[hb]
theorem Ks{n:Nat}{all:List D}{g:MG}{b:MS}{ρ:aA}{O:aj}(h:O[n]?=some (.ml all)):dF n all g b [] ρ O=.nx ρ O:=by
 unfold dF;rw[h];dsimp only;rw[if_pos rfl]
theorem Dg{n:Nat}{all:List D}{g:MG}{b:MS}(Pv:Nat->aA->aj->Prop)(hO:∀k ρ O,Pv k ρ O->O[n]?=some (.ml all)):∀(ds pre:List D) (k:Nat) (ρ:aA) (O:aj),all=pre++ds->Pv k ρ O ->
  (∀i d ρ O,ds[i]?=some d->Pv (k+i) ρ O->∃ρ1,g d ρ=some ρ1/\∃ρ2 O2,(b ρ1 O=.nx ρ2 O2\/b ρ1 O=.ct ρ2 O2)/\Pv (k+i+1) ρ2 O2)->∃ρ' O',dF n all g b ds ρ O=.nx ρ' O'/\Pv (k+ds.length) ρ' O'
 | [],pre,k,ρ,O,_,h,_=>⟨ρ,O,Ks (hO _ _ _ h),h⟩
 |d::ds,pre,k,ρ,O,ha,h,hs=>by
  obtain⟨ρ1,e1,ρ2,O2,e2,h2⟩:=hs 0 d ρ O rfl h
  obtain⟨ρ',O',e3,h3⟩:=Dg Pv hO ds (pre++[d]) (k+1) ρ2 O2 (by rw[ha,zM];rfl) h2 λi d' ρ' O' hi hp=>by
   have:=hs (i+1) d' ρ' O' (by simpa using hi) (by rw[show k+(i+1)=k+1+i by omega];exact hp)
   rw[show k+(i+1)+1=k+1+i+1 by omega] at this;exact this
  refine⟨ρ',O',?_,by rw[zI,show k+(ds.length+1)=k+1+ds.length by omega];exact h3⟩
  rcases e2 with e2 | e2
  ·rw[Kr (hO _ _ _ h) ha e1 e2];exact e3
  ·rw[Y4 (hO _ _ _ h) ha e1 e2];exact e3
theorem Dh{m:L2.M D}{g:MG}{b:MS}{ρ:aA}{O:aj}{n:Nat}{ds:List D}(h:m ρ O=.ok (.ob n) O)(h2:O[n]?=some (.ml ds)):jF m g b ρ O=dF n ds g b ds ρ O:=by
 unfold jF;rw[h];dsimp only;rw[h2]
theorem Ku(b:Nat)(n:Nd):∀(ks:List Nd) (i j:Nat),bf (kvO b i ks) (key n)=some (.ob j)->b<=j
 | [],_,_,h=>(nomatch h)
 |k::ks,i,j,h=>by
  have h':bf ((key k,.ob (b+2+i))::kvO b (i+1) ks) (key n)=some (.ob j):=h;rw[iQ] at h';split at h'
  ·cases h';omega
  ·exact Ku b n ks (i+1) j h'
theorem dq{O R:aj}{j:Nat}{x:Ob}(h:O[j]?=some x):(O++R)[j]?=some x:=by
 rw[zK (zl.mp h).1];exact h
theorem Di{O:aj}{n:Nat}{ds:List D}(h:O[n]?=some (.ml ds)):bz O (.ob n)=.lst ds:=by unfold bz;dsimp only;rw[h]
theorem Y6(O:aj)(sz:List Int)(ms:List Mv)(es:List Nd)(hm:ms.length<=40)(he:es.length<=16){b1 b2 b3:Nat}(h1:O[b1]?=some (.ml (sz.map D.int)))(h2:O[b2]?=some (.ml (ms.map dM)))(h3:O[b3]?=some (.ml (es.map dN))):∃(O':aj) (T:Tr O' O.length sz ms es),(∀(j:Nat) (x:Ob),O[j]?=some x->O'[j]?=some x)/\(O.length<=T.a/\O.length<=T.b/\∀n i,bf T.kv (key n)=some (.ob i)->O.length<=i)/\rP [.ob O.length,.ob b1,.ob b2,.ob b3] (O++[.ins "Listed" []])=.ok .non O':=by
 have s1:gk ["Listed"] "sizes" (aa 0) (bB dI (ak (aa 1) au)) [some (.ob O.length),some (.ob b1),some (.ob b2),some (.ob b3),none,none] (O++[.ins "Listed" []])=.nx [some (.ob O.length),some (.ob b1),some (.ob b2),some (.ob b3),none,none] (O++[.ins "Listed" (fs1 sz)]):=by
  rw[CZ (d:=.lst (sz.map D.int)) (n:=O.length) (c:="Listed") (fs:=[]) (sH (xs:=[.ob b1]) rfl (by rw[zh,jf,Di (dq h1),yP])) rfl lB zr (by decide),CW,pf1]
 have s2:gk ["Listed"] "moves_by_node" (aa 0) dJ [some (.ob O.length),some (.ob b1),some (.ob b2),some (.ob b3),none,none] (O++[.ins "Listed" (fs1 sz)])=.nx [some (.ob O.length),some (.ob b1),some (.ob b2),some (.ob b3),none,none] (O++tl (fs2 sz (O.length+1)) O.length [] []):=by
  have hd:dJ [some (.ob O.length),some (.ob b1),some (.ob b2),some (.ob b3),none,none] (O++[.ins "Listed" (fs1 sz)])=.ok (.ob (O.length+1)) (O++[.ins "Listed" (fs1 sz),.dt []]):=by
   show Res.ok (D.ob (O++[Ob.ins "Listed" (fs1 sz)]).length) ((O++[Ob.ins "Listed" (fs1 sz)])++[Ob.dt []])=_;rw[zv,zM];rfl
  rw[CZ (n:=O.length) (c:="Listed") (fs:=fs1 sz) hd rfl (jO (R:=[.ins "Listed" (fs1 sz),.dt []]) 0) zr (show(1:Nat)<900 by decide),pf2];rw[Kq];rfl
 obtain⟨ρ1,O1,e1,ks,a4,hd,hkl,hks,rfl,rfl⟩:=Dg (n:=b2) (all:=ms.map dM) (g:=mgN 4) (b:=sV)
  (λk ρ O'=>∃(ks:List Nd) (a4:Option D),ks.Nodup/\ks.length<=k/\(∀x∈ms.take k,x.one∈ks)/\O'=O++tl (fs2 sz (O.length+1)) O.length ks (ms.take k)/\ρ=[some (.ob O.length),some (.ob b1),some (.ob b2),some (.ob b3),a4,none])
  (by rintro k ρ O' ⟨ks,a4,_,_,_,rfl,_⟩;exact dq h2) (ms.map dM) [] 0 [some (.ob O.length),some (.ob b1),some (.ob b2),some (.ob b3),none,none] (O++tl (fs2 sz (O.length+1)) O.length [] []) rfl ⟨[],none,List.nodup_nil,zd _,λx hx=>by rw[List.take_zero] at hx;exact(nomatch hx),rfl,rfl⟩ (by
   rintro i d ρ O' hi ⟨ks,a4,hd,hkl,hks,rfl,rfl⟩;rw[zP] at hkl hks;have hi2:=(zl.mp hi).1;rw[zj] at hi2;rw[zy,zu hi2] at hi;cases hi;have hi3:ms[i]?=some ms[i]:=zu hi2;obtain⟨ks2,q1,q2,q3,q4⟩:=YZ O (fs2 sz (O.length+1)) (lk2 _ _) ks (ms.take i) hd hks (by omega) (by rw[List.length_take];omega) ms[i] [some (.ob O.length),some (.ob b1),some (.ob b2),some (.ob b3),some (dM ms[i]),none] rfl rfl;rw[<-Kp hi3] at q3 q4;refine⟨_,rfl,_,_,.inl ?_,ks2,some (dM ms[i]),q1,by omega,by rw[zP];exact q3,rfl,rfl⟩;rw[zP]
   exact q4)
 rw[zj,zP] at hkl hks e1;rw[List.take_of_length_le (zd _)] at hks e1
 have hE:(O++tl (fs2 sz (O.length+1)) O.length ks ms).length=O.length+(ks.length+2):=by
  rw[zv];show O.length+((ks.map λn=>Ob.ml (grp ms n)).length+1+1)=_;rw[zj]
 have s3:gk ["Listed"] "end_nodes" (aa 0) dJ [some (.ob O.length),some (.ob b1),some (.ob b2),some (.ob b3),a4,none] (O++tl (fs2 sz (O.length+1)) O.length ks ms)=.nx [some (.ob O.length),some (.ob b1),some (.ob b2),some (.ob b3),a4,none] ((O++tl (fs3 sz (O.length+1) (O.length+(ks.length+2))) O.length ks ms)++[.dt []]):=by
  have hdn:dJ [some (.ob O.length),some (.ob b1),some (.ob b2),some (.ob b3),a4,none] (O++tl (fs2 sz (O.length+1)) O.length ks ms)=.ok (.ob (O.length+(ks.length+2))) (O++(tl (fs2 sz (O.length+1)) O.length ks ms++[.dt []])):=by
   show Res.ok (D.ob (O++tl (fs2 sz (O.length+1)) O.length ks ms).length) ((O++tl (fs2 sz (O.length+1)) O.length ks ms)++[.dt []])=_;rw[hE,zM]
  rw[CZ (n:=O.length) (c:="Listed") (fs:=fs2 sz (O.length+1)) hdn rfl (jO (R:=tl (fs2 sz (O.length+1)) O.length ks ms++[.dt []]) 0) zr (show(2:Nat)<900 by decide),pf3];rw[Kq,zM];rfl
 have hE3:(O++tl (fs3 sz (O.length+1) (O.length+(ks.length+2))) O.length ks ms).length=O.length+(ks.length+2):=by
  rw[zv];show O.length+((ks.map λn=>Ob.ml (grp ms n)).length+1+1)=_;rw[zj]
 obtain⟨ρ2,O2,e2,ekv,a5,hek,hel,rfl,rfl⟩:=Dg (n:=b3) (all:=es.map dN) (g:=mgN 5) (b:=wg)
  (λk ρ O'=>∃(ekv:List (List Key×D)) (a5:Option D),(∀n,(bf ekv (key n)).isSome=decide (n∈es.take k))/\ekv.length<=k/\O'=(O++tl (fs3 sz (O.length+1) (O.length+(ks.length+2))) O.length ks ms)++[.dt ekv]/\ρ=[some (.ob O.length),some (.ob b1),some (.ob b2),some (.ob b3),a4,a5])
  (by rintro k ρ O' ⟨ekv,a5,_,_,rfl,_⟩;exact dq (dq h3)) (es.map dN) [] 0 [some (.ob O.length),some (.ob b1),some (.ob b2),some (.ob b3),a4,none] ((O++tl (fs3 sz (O.length+1) (O.length+(ks.length+2))) O.length ks ms)++[.dt []]) rfl ⟨[],none,λn=>by simp[J2],zd _,rfl,rfl⟩ (by
   rintro i d ρ O' hi ⟨ekv,a5,hek,hel,rfl,rfl⟩;rw[zP] at hel hek;have hi2:=(zl.mp hi).1;rw[zj] at hi2;rw[zy,zu hi2] at hi;cases hi;have hi3:es[i]?=some es[i]:=zu hi2;refine⟨_,rfl,_,_,.inl ?_,dD ekv (key es[i]) (.bl true),some (dN es[i]),λn=>?_,by have:=CT ekv (key es[i]) (.bl true);omega,rfl,rfl⟩
   ·show wg [some (.ob O.length),some (.ob b1),some (.ob b2),some (.ob b3),a4,some (dN es[i])] _=_;unfold wg
    have g1:dC ["Listed"] "end_nodes" (aa 0) [some (.ob O.length),some (.ob b1),some (.ob b2),some (.ob b3),a4,some (dN es[i])] ((O++tl (fs3 sz (O.length+1) (O.length+(ks.length+2))) O.length ks ms)++[.dt ekv])=.ok (.ob (O.length+(ks.length+2))) ((O++tl (fs3 sz (O.length+1) (O.length+(ks.length+2))) O.length ks ms)++[.dt ekv]):=by
     refine qj (n:=O.length) (c:="Listed") (fs:=fs3 sz (O.length+1) (O.length+(ks.length+2))) rfl ?_ zr (lk3 _ _ _);rw[zM];exact jO (R:=tl (fs3 sz (O.length+1) (O.length+(ks.length+2))) O.length ks ms++[.dt ekv]) 0
    have g2:((O++tl (fs3 sz (O.length+1) (O.length+(ks.length+2))) O.length ks ms)++[.dt ekv])[O.length+(ks.length+2)]?=some (.dt ekv):=by
     exact v9 hE3
    rw[vW (d:=.bl true) (n:=O.length+(ks.length+2)) (kvs:=ekv) (y:=es[i]) rfl g1 g2 rfl (by omega)];rw[Y0 hE3]
   ·rw[CQ,zP,Kp hi3]
    by_cases hq:n=es[i]
    ·rw[if_pos (by rw[hq]),zx (zU _ (by rw[hq];exact zr))];rfl
    ·rw[if_neg (λz=>hq (qd z)),hek]
     by_cases hq2:n∈es.take i
     ·rw[zx hq2,zx (jv _ hq2)]
     ·rw[zp hq2,zp];intro z
      rcases zA.mp z with z | z
      ·exact hq2 z
      ·exact hq (zz.mp z))
 rw[zj,zP] at hek;rw[List.take_of_length_le (zd _)] at hek;refine⟨(O++tl (fs3 sz (O.length+1) (O.length+(ks.length+2))) O.length ks ms)++[Ob.dt ekv],⟨O.length+1,O.length+(ks.length+2),kvO O.length 0 ks,ekv,?_,?_,?_,hek,λn=>?_⟩,λj x hx=>dq (dq hx),⟨jx _ _,jx _ _,λn i h=>Ku _ _ _ _ _ h⟩,?_⟩
 ·rw[zM];exact jO (R:=tl (fs3 sz (O.length+1) (O.length+(ks.length+2))) O.length ks ms++[.dt ekv]) 0
 ·rw[zM];exact jO (R:=tl (fs3 sz (O.length+1) (O.length+(ks.length+2))) O.length ks ms++[.dt ekv]) 1
 ·exact v9 hE3
 ·by_cases hn:n∈ks
  ·obtain⟨j,hj⟩:=List.mem_iff_getElem?.mp hn;refine .inr ⟨O.length+2+0+j,Dd O.length n ks 0 j hd hj,?_⟩;rw[show O.length+2+0+j=O.length+(j+2) by omega,zM,jO];show((ks.map λn=>Ob.ml (grp ms n))++[Ob.dt ekv])[j]?=_;rw[zK (by rw[zj];exact(zl.mp hj).1),zy,hj];rfl
  ·exact .inl ⟨Dc _ _ _ _ hn,Kf _ _ λm hm z=>hn (by rw[<-z];exact hks m hm)⟩
 ·show bu (aB (gk ["Listed"] "sizes" (aa 0) (bB dI (ak (aa 1) au))) (aB (gk ["Listed"] "moves_by_node" (aa 0) dJ) (aB (jF (aa 2) (mgN 4) sV) (aB (gk ["Listed"] "end_nodes" (aa 0) dJ) (jF (aa 3) (mgN 5) wg)))) [some (.ob O.length),some (.ob b1),some (.ob b2),some (.ob b3),none,none] (O++[.ins "Listed" []]))=_;rw[cz,s1,cP,cz,s2,cP,cz,Dh (n:=b2) (ds:=ms.map dM) rfl (dq h2),e1,cP,cz,s3,cP,Dh (n:=b3) (ds:=es.map dN) rfl (dq (dq h3)),e2,WK]
section
variable {O:aj}{n:Nat}{sz:List Int}{ms:List Mv}{es:List Nd}
theorem Kv(T:Tr O n sz ms es):nU [.ob n] O=.ok (dN (0,0)) O:=rfl
theorem Kw(T:Tr O n sz ms es):pM [.ob n] O=.ok (.int ((sz.length:Int) - 1)) O:=by
 show bu (aQ (aq qO (bB dg (ak (dC ["Listed"] "sizes" (aa 0)) au)) (mC (.int 1))) [some (.ob n)] O)=_;have h:dC ["Listed"] "sizes" (aa 0) [some (.ob n)] O=.ok (.lst (sz.map D.int)) O:=qj (n:=n) rfl T.ob zr rfl;have hl:=oA h;rw[zj] at hl;rw[fM,bh (g:=qO) (b:=mC (.int 1)) (z:=.int ((sz.length:Int) - 1)) hl rfl rfl,uL,uM]
theorem Y7(T:Tr O n sz ms es)(k:Nat)(hk:k<sz.length)(h3:1<=sz[k]/\sz[k]<=3):lg [.ob n,.int (k:Int)] O=.ok (.lst ((List.range sz[k].toNat).map λi:Nat=>dN ((k:Int),(i:Int)))) O:=by
 show bu (aQ (cN (fj (ak (aq gIx (dC ["Listed"] "sizes" (aa 0)) (aa 1)) au)) 1 [1] (mgN 0) eY (cM (ak (mG (aa 1)) (ak (aa 0) au)))) [some (.ob n),some (.int (k:Int))] O)=_;have h:dC ["Listed"] "sizes" (aa 0) [some (.ob n),some (.int (k:Int))] O=.ok (.lst (sz.map D.int)) O:=qj (n:=n) rfl T.ob zr rfl
 have hx:gIx (.lst (sz.map D.int)) (.int (k:Int))=some (.int ((sz[k].toNat:Nat):Int)):=by
  rw[lV,pL,zy,zu hk,Int.toNat_of_nonneg (by omega)];rfl
 have hr:=qb (n:=sz[k].toNat) (bh (g:=gIx) (b:=aa 1) h rfl hx) (by omega)
 have ec:=rM (g:=mgN 0) (t:=eY) (m:=cM (ak (mG (aa 1)) (ak (aa 0) au))) (λρ=>∃a,ρ=[a,some (.int (k:Int))]) (λi:Nat=>D.int (i:Int)) (λi:Nat=>dN ((k:Int),(i:Int))) (List.range sz[k].toNat) [none,some (.int (k:Int))] O [] ⟨_,rfl⟩ (by
  rintro i hi ρ ⟨a,rfl⟩
  exact⟨_,rfl,⟨_,rfl⟩,rfl,rfl⟩)
 have hl:(d7 0 sz[k].toNat).length<=1000000:=by rw[iD];omega
 rw[qe] at hr hl;have ec':dw (mgN 0) eY (cM (ak (mG (aa 1)) (ak (aa 0) au))) ((List.range sz[k].toNat).map λi:Nat=>D.int (i:Int)) (iT 1 [1] [some (.ob n),some (.int (k:Int))]) O []=_:=ec;rw[fM,rK,hr,aD,if_pos hl,ec',aD,zV,uL,uM]
theorem wj(T:Tr O n sz ms es)(y:Nd):fY [.ob n,dN y] O=.ok (.lst (grp ms y)) O:=by
 show bu (aQ (bB dI (ak (iU (dC ["Listed"] "moves_by_node" (aa 0)) (mG (aa 1)) (cD au)) au)) [some (.ob n),some (dN y)] O)=_;have h:dC ["Listed"] "moves_by_node" (aa 0) [some (.ob n),some (dN y)] O=.ok (.ob T.a) O:=qj (n:=n) rfl T.ob zr rfl;have g:=J6 (mo:=dC ["Listed"] "moves_by_node" (aa 0)) (my:=mG (aa 1)) (mz:=cD au) (z:=.lst []) h T.oa (y:=y) rfl rfl;rw[fM,pK,fB,g,aD,iY,aD,aD,zh,jf]
 rcases T.mv y with⟨e1,e2⟩ | ⟨i,e1,e2⟩
 ·rw[e1,e2];rfl
 ·rw[e1]
  have hd:bz O (.ob i)=.lst (grp ms y):=by unfold bz;dsimp only;rw[e2]
  show bu (kJ (ofO (dI [bz O (.ob i)]) O))=_;rw[hd];rfl
theorem wu(T:Tr O n sz ms es)(y:Nd):fC [.ob n,dN y] O=.ok (.bl (decide (y∈es))) O:=by
 show bu (aQ (ig false (mG (aa 1)) (dC ["Listed"] "end_nodes" (aa 0))) [some (.ob n),some (dN y)] O)=_;have h:dC ["Listed"] "end_nodes" (aa 0) [some (.ob n),some (dN y)] O=.ok (.ob T.b) O:=qj (n:=n) rfl T.ob zr rfl;rw[fM,J7 h T.oe (y:=y) rfl,T.en,uL,uM]
end
def tk(ms:List Mv)(nd:Nd)(nm:List Nat):List Mv:=ms.filter λm=>decide (m.one=nd)&&decide (m.name=nm)
def wk(ms:List Mv):Nd->Int->List (List Nat)->Option (Int×Nd)
 |nd,c,[]=>some (c,nd)
 |nd,c,nm::r=>match tk ms nd nm with
  | []=>none
  |m::_=>wk ms m.other (c+m.cost) r
def wkD(ms:List Mv)(es:List Nd)(nms:List (List Nat)):D:=match wk ms (0,0) 0 nms with
 |none=>.non
 |some x=>if x.2∈es then .int x.1 else .non
theorem Ky{ms:List Mv}{nd:Nd}{c:Int}{nm:List Nat}{r:List (List Nat)}(h:tk ms nd nm=[]):wk ms nd c (nm::r)=none:=by
 show(match tk ms nd nm with | []=>none | m::_=>wk ms m.other (c+m.cost) r)=_;rw[h]
theorem Dj{ms:List Mv}{nd:Nd}{c:Int}{nm:List Nat}{r:List (List Nat)}{m:Mv}{t:List Mv}(h:tk ms nd nm=m::t):wk ms nd c (nm::r)=wk ms m.other (c+m.cost) r:=by
 show(match tk ms nd nm with | []=>none | m::_=>wk ms m.other (c+m.cost) r)=_;rw[h]
def B_w:MS:=aB (aH 5 (cN (cg (bA "Listed" "moves_from" fY (mG (aa 0)) (ak (aa 2) au))) 1 [4] (mgN 0) (aJ (aq gEq (aq gIx (aa 0) (mC (.int 1))) (aa 1))) (aa 0)))
  (aB (bj (aJ (aq gEq (bB dg (ak (aa 5) au)) (mC (.int 0)))) (aQ (mC .non)) bC)
  (aB (aH 3 (aq bQ (aa 3) (aq gIx (aq gIx (aa 5) (mC (.int 0))) (mC (.int 0)))))
  (aH 2 (aq gIx (aq gIx (aa 5) (mC (.int 0))) (mC (.int 2))))))
theorem Y8(m:Mv):gIx (d3 m) (.int 0)=some (.int m.cost):=rfl
theorem Y9(m:Mv):gIx (d3 m) (.int 1)=some (.str m.name):=rfl
theorem Za(m:Mv):gIx (d3 m) (.int 2)=some (dN m.other):=rfl
theorem Kz(d:D)(l:List D):gIx (.lst (d::l)) (.int 0)=some d:=by
 rw[lV];exact pL (xs:=d::l) (j:=0)
section
variable {O:aj}{n:Nat}{sz:List Int}{ms:List Mv}{es:List Nd}
theorem Zb(T:Tr O n sz ms es)(hm:ms.length<=40)(L:D)(nd:Nd)(c:Int)(nm:List Nat)(a5:Option D):aH 5 (cN (cg (bA "Listed" "moves_from" fY (mG (aa 0)) (ak (aa 2) au))) 1 [4] (mgN 0) (aJ (aq gEq (aq gIx (aa 0) (mC (.int 1))) (aa 1))) (aa 0)) [some (.ob n),some L,some (dN nd),some (.int c),some (.str nm),a5] O
  = .nx [some (.ob n),some L,some (dN nd),some (.int c),some (.str nm),some (.lst ((tk ms nd nm).map d3))] O:=by
 have m1:bA "Listed" "moves_from" fY (mG (aa 0)) (ak (aa 2) au) [some (.ob n),some L,some (dN nd),some (.int c),some (.str nm),a5] O=.ok (.lst (grp ms nd)) O:=by
  rw[gD (n:=n) (ds:=[dN nd]) rfl T.ob rfl (ma1 rfl),wj T nd]
 have ec:=sS (g:=mgN 0) (t:=aJ (aq gEq (aq gIx (aa 0) (mC (.int 1))) (aa 1))) (m:=aa 0) (λρ=>∃a,ρ=[a,some (.str nm)]) d3 d3 (λm=>decide (m.name=nm)) (ms.filter λm=>decide (m.one=nd)) [none,some (.str nm)] O [] ⟨_,rfl⟩ (by
  rintro x hx ρ ⟨a,rfl⟩
  exact⟨_,rfl,⟨_,rfl⟩,d9 (bh (bh (x:=d3 x) (z:=.str x.name) rfl rfl (Y9 x)) rfl Io),rfl⟩)
 have m2:=sI (own:=1) (cap:=[4]) (iK m1) (by have:=Ke ms nd;omega) (ρ0:=[none,some (.str nm)]) rfl ec
 have ef:((ms.filter λm=>decide (m.one=nd)).filter λm=>decide (m.name=nm))=tk ms nd nm:=by
  unfold tk;rw[List.filter_filter]
  exact List.filter_congr λx _=>Bool.and_comm _ _
 rw[dR m2,zV,ef];rfl
theorem KD(T:Tr O n sz ms es)(hm:ms.length<=40)(L:D):∀(nms:List (List Nat)) (nd:Nd) (c:Int) (a4 a5:Option D),∃p4 p5,bJ (mgN 4) B_w (nms.map D.str) [some (.ob n),some L,some (dN nd),some (.int c),a4,a5] O=match wk ms nd c nms with
  |none=>.rt .non O
  |some x=>.nx [some (.ob n),some L,some (dN x.2),some (.int x.1),p4,p5] O
 | [],nd,c,a4,a5=>⟨a4,a5,rfl⟩
 |nm::r,nd,c,a4,a5=>by
  have s1:=Zb T hm L nd c nm a5
  cases ht:tk ms nd nm with
  |nil =>
   rw[ht] at s1
   have eb:B_w [some (.ob n),some L,some (dN nd),some (.int c),some (.str nm),a5] O=.rt .non O:=by
    unfold B_w;rw[cz,s1,cP,cz,lA (d9 (bh (g:=gEq) (b:=mC (.int 0)) (z:=.bl true) (oA (m:=aa 5) (l:=[]) rfl) rfl rfl))];rfl
   refine⟨none,none,?_⟩;rw[Ky ht,zh];exact Ys rfl eb
  |cons m t =>
   rw[ht] at s1;obtain⟨p4,p5,ih⟩:=KD T hm L r m.other (c+m.cost) (some (.str nm)) (some (.lst ((m::t).map d3)))
   have eb:B_w [some (.ob n),some L,some (dN nd),some (.int c),some (.str nm),a5] O=.nx [some (.ob n),some L,some (dN m.other),some (.int (c+m.cost)),some (.str nm),some (.lst ((m::t).map d3))] O:=by
    have b1:∀x y,aq gIx (aa 5) (mC (.int 0)) [some (.ob n),some L,x,y,some (.str nm),some (.lst ((m::t).map d3))] O=.ok (d3 m) O:=λx y=>bh (x:=.lst ((m::t).map d3)) rfl rfl (Kz _ _)
    have hl:=oA (m:=aa 5) (ρ:=[some (.ob n),some L,some (dN nd),some (.int c),some (.str nm),some (.lst ((m::t).map d3))]) (O:=O) (l:=(m::t).map d3) rfl
    have hz:¬(((m::t).map d3).length:Int)=0:=by rw[zj,zI];omega
    have s2:=if_no (a:=aQ (mC .non)) (b:=bC) (d9 (bh (g:=gEq) (b:=mC (.int 0)) (z:=.bl false) hl rfl (by rw[dj,dj,nP,zp hz])));have s3:=dR (i:=3) (bh (g:=bQ) (a:=aa 3) (z:=.int (c+m.cost)) rfl (bh (b1 (some (dN nd)) (some (.int c))) (b:=mC (.int 0)) rfl (Y8 m)) rfl);have s4:=dR (i:=2) (bh (b1 (some (dN nd)) (some (.int (c+m.cost)))) (b:=mC (.int 2)) rfl (Za m));unfold B_w;rw[cz,s1,cP,cz,s2,uK,cP,cz,s3,cP];exact s4
   refine⟨p4,p5,?_⟩;rw[Dj ht,zh,vR rfl eb];exact ih
theorem Zc(T:Tr O n sz ms es)(hm:ms.length<=40)(nms:List (List Nat)):u6 [.ob n,.lst (nms.map D.str)] O=.ok (wkD ms es nms) O:=by
 obtain⟨p4,p5,e⟩:=KD T hm (.lst (nms.map D.str)) nms (0,0) 0 none none
 have s1:aH 2 (bA "Listed" "first_node" nU (mG (aa 0)) au) [some (.ob n),some (.lst (nms.map D.str)),none,none,none,none] O=.nx [some (.ob n),some (.lst (nms.map D.str)),some (dN (0,0)),none,none,none] O:=by
  rw[dR (d:=dN (0,0)) (by rw[gD (n:=n) (ds:=[]) rfl T.ob rfl rfl,Kv T])];rfl
 have s2:aH 3 (mC (.int 0)) [some (.ob n),some (.lst (nms.map D.str)),some (dN (0,0)),none,none,none] O=.nx [some (.ob n),some (.lst (nms.map D.str)),some (dN (0,0)),some (.int 0),none,none] O:=rfl;show bu (aB (aH 2 (bA "Listed" "first_node" nU (mG (aa 0)) au)) (aB (aH 3 (mC (.int 0))) (aB (cu (cg (aa 1)) (mgN 4) B_w) (aQ (mIf (bW (bA "Listed" "is_end" fC (mG (aa 0)) (ak (aa 2) au))) (aa 3) (mC .non))))) [some (.ob n),some (.lst (nms.map D.str)),none,none,none,none] O)=_;rw[cz,s1,cP,cz,s2,cP,cz,fW,iK (l:=nms.map D.str) rfl,fX,e];unfold wkD
 cases wk ms (0,0) 0 nms with
 |none=>rfl
 |some x =>
  dsimp only
  have m1:bA "Listed" "is_end" fC (mG (aa 0)) (ak (aa 2) au) [some (.ob n),some (.lst (nms.map D.str)),some (dN x.2),some (.int x.1),p4,p5] O=.ok (.bl (decide (x.2∈es))) O:=by
   rw[gD (n:=n) (ds:=[dN x.2]) rfl T.ob rfl (ma1 rfl),wu T x.2]
  rw[cP,fM,Ih,rG,m1,aD,uG,uI,uH,aD]
  by_cases h:x.2∈es
  ·rw[zx h,if_pos rfl,if_pos h];rfl
  ·rw[zp h,if_neg zq,if_neg h];rfl
end
def qm:MS:=aB (aH 6 (cN (cg (aa 0)) 1 [3,5] (mgN 0) (cH (aJ (aq gEq (aq gIx (aa 0) (mC (.int 0))) (aa 1))) (aJ (aq gEq (aq gIx (aa 0) (mC (.int 2))) (aa 2)))) (aa 0)))
  (aB (bj (aJ (aq gEq (aa 6) (cD au))) (aQ (mC .non)) bC)
  (aB (aH 4 (aq bQ (aa 4) (aq gIx (aq gIx (aa 6) (mC (.int 0))) (mC (.int 1)))))
  (aH 3 (aq gIx (aq gIx (aa 6) (mC (.int 0))) (mC (.int 3))))))
theorem Zd{l:List Mv}(h:∀m∈l,NOk m.name):okE (.lst (l.map dM))=true:=WY (n:=5) (by decide) λd hd=>by
 obtain⟨x,hx,rfl⟩:=zX.mp hd;refine⟨rfl,?_,Nat.le_of_ble_eq_true rfl⟩;have q:=W0 (h x hx);show(true&&(true&&((PyData.str (S x.name)).canLay0&&(true&&true))))=true;rw[q];rfl
theorem Ze{l:List D}(h:okE (.lst l)=true):gEq (.lst l) (.lst [])=some (.bl l.isEmpty):=by
 rw[WQ,h,show okE (.lst [])=true from rfl,Bool.and_self,if_pos rfl]
 cases l with
 |nil=>rfl
 |cons=>rfl
section
variable {ms:List Mv}{es:List Nd}
theorem Zf(hm:ms.length<=40)(E L:D)(nd:Nd)(c:Int)(nm:List Nat)(a6:Option D)(O:aj):aH 6 (cN (cg (aa 0)) 1 [3,5] (mgN 0) (cH (aJ (aq gEq (aq gIx (aa 0) (mC (.int 0))) (aa 1))) (aJ (aq gEq (aq gIx (aa 0) (mC (.int 2))) (aa 2)))) (aa 0)) [some (.lst (ms.map dM)),some E,some L,some (dN nd),some (.int c),some (.str nm),a6] O
  = .nx [some (.lst (ms.map dM)),some E,some L,some (dN nd),some (.int c),some (.str nm),some (.lst ((tk ms nd nm).map dM))] O:=by
 have ec:=sS (g:=mgN 0) (t:=cH (aJ (aq gEq (aq gIx (aa 0) (mC (.int 0))) (aa 1))) (aJ (aq gEq (aq gIx (aa 0) (mC (.int 2))) (aa 2)))) (m:=aa 0) (λρ=>∃a,ρ=[a,some (dN nd),some (.str nm)]) dM dM (λm=>decide (m.one=nd)&&decide (m.name=nm)) ms [none,some (dN nd),some (.str nm)] O [] ⟨_,rfl⟩ (by
  rintro x hx ρ ⟨a,rfl⟩;refine⟨_,rfl,⟨_,rfl⟩,?_,rfl⟩;rw[gq,d9 (bh (bh (x:=dM x) (z:=dN x.one) rfl rfl (Kh x)) rfl (Yt x.one nd)),aD]
  by_cases h:x.one=nd
  ·rw[zx h,if_pos rfl,Bool.true_and,d9 (bh (bh (x:=dM x) (z:=.str x.name) rfl rfl (Km x)) rfl Io)]
  ·rw[zp h,if_neg zq,Bool.false_and])
 have m2:=sI (own:=1) (cap:=[3,5]) (ρ:=[some (.lst (ms.map dM)),some E,some L,some (dN nd),some (.int c),some (.str nm),a6]) (iK (m:=aa 0) (l:=ms.map dM) rfl) (by rw[zj];omega) (ρ0:=[none,some (dN nd),some (.str nm)]) rfl ec;rw[dR m2,zV];rfl
theorem KH(hm:ms.length<=40)(hn:∀m∈ms,NOk m.name)(E:D)(O:aj){nn:Nat}{all:List D}(hO:O[nn]?=some (.ml all)):∀(nms:List (List Nat)) (pre:List D) (ha:all=pre++nms.map D.str) (nd:Nd) (c:Int) (a5 a6:Option D),∃p5 p6,dF nn all (mgN 5) qm (nms.map D.str) [some (.lst (ms.map dM)),some E,some (.ob nn),some (dN nd),some (.int c),a5,a6] O=match wk ms nd c nms with
  |none=>.rt .non O
  |some x=>.nx [some (.lst (ms.map dM)),some E,some (.ob nn),some (dN x.2),some (.int x.1),p5,p6] O
 | [],pre,ha,nd,c,a5,a6=>⟨a5,a6,Ks hO⟩
 |nm::r,pre,ha,nd,c,a5,a6=>by
  have s1:=Zf hm E (.ob nn) nd c nm a6 O
  have ok:=Zd (l:=tk ms nd nm) λm h=>hn m (List.mem_filter.mp h).1
  cases ht:tk ms nd nm with
  |nil =>
   rw[ht] at s1
   have eb:qm [some (.lst (ms.map dM)),some E,some (.ob nn),some (dN nd),some (.int c),some (.str nm),a6] O=.rt .non O:=by
    unfold qm;rw[cz,s1,cP,cz,lA (d9 (bh (g:=gEq) (a:=aa 6) (b:=cD au) (x:=.lst []) (z:=.bl true) rfl rfl rfl))];rfl
   refine⟨none,none,?_⟩;rw[Ky ht,zh];exact Y5 hO ha rfl eb
  |cons m t =>
   rw[ht] at s1 ok;obtain⟨p5,p6,ih⟩:=KH hm hn E O hO r (pre++[.str nm]) (by rw[ha,zM];rfl) m.other (c+m.cost) (some (.str nm)) (some (.lst ((m::t).map dM)))
   have eb:qm [some (.lst (ms.map dM)),some E,some (.ob nn),some (dN nd),some (.int c),some (.str nm),a6] O=.nx [some (.lst (ms.map dM)),some E,some (.ob nn),some (dN m.other),some (.int (c+m.cost)),some (.str nm),some (.lst ((m::t).map dM))] O:=by
    have b1:∀x y,aq gIx (aa 6) (mC (.int 0)) [some (.lst (ms.map dM)),some E,some (.ob nn),x,y,some (.str nm),some (.lst ((m::t).map dM))] O=.ok (dM m) O:=λx y=>bh (x:=.lst ((m::t).map dM)) rfl rfl (Kz _ _)
    have s2:=if_no (a:=aQ (mC .non)) (b:=bC) (d9 (bh (g:=gEq) (a:=aa 6) (b:=cD au) (ρ:=[some (.lst (ms.map dM)),some E,some (.ob nn),some (dN nd),some (.int c),some (.str nm),some (.lst ((m::t).map dM))]) (O:=O) (x:=.lst ((m::t).map dM)) (z:=.bl false) rfl rfl (Ze ok)));have s3:=dR (i:=4) (bh (g:=bQ) (a:=aa 4) (z:=.int (c+m.cost)) rfl (bh (b1 (some (dN nd)) (some (.int c))) (b:=mC (.int 1)) rfl (Kl m)) rfl);have s4:=dR (i:=3) (bh (b1 (some (dN nd)) (some (.int (c+m.cost)))) (b:=mC (.int 3)) rfl (Ko m));unfold qm;rw[cz,s1,cP,cz,s2,uK,cP,cz,s3,cP];exact s4
   refine⟨p5,p6,?_⟩;rw[Dj ht,zh,Kr hO ha rfl eb];exact ih
theorem Zg(hm:ms.length<=40)(hn:∀m∈ms,NOk m.name)(nms:List (List Nat))(O:aj){nn:Nat}(hO:O[nn]?=some (.ml (nms.map D.str))):vJ [.lst (ms.map dM),.lst (es.map dN),.ob nn] O=.ok (wkD ms es nms) O:=by
 obtain⟨p5,p6,e⟩:=KH hm hn (.lst (es.map dN)) O hO nms [] rfl (0,0) 0 none none;have s1:aH 3 (cM (ak (mC (.int 0)) (ak (mC (.int 0)) au))) [some (.lst (ms.map dM)),some (.lst (es.map dN)),some (.ob nn),none,none,none,none] O=.nx [some (.lst (ms.map dM)),some (.lst (es.map dN)),some (.ob nn),some (dN (0,0)),none,none,none] O:=rfl;have s2:aH 4 (mC (.int 0)) [some (.lst (ms.map dM)),some (.lst (es.map dN)),some (.ob nn),some (dN (0,0)),none,none,none] O=.nx [some (.lst (ms.map dM)),some (.lst (es.map dN)),some (.ob nn),some (dN (0,0)),some (.int 0),none,none] O:=rfl;show bu (aB (aH 3 (cM (ak (mC (.int 0)) (ak (mC (.int 0)) au)))) (aB (aH 4 (mC (.int 0))) (aB (jF (aa 2) (mgN 5) qm) (aB (bj (aJ (aq (gm true) (aa 3) (aa 1))) (aQ (mC .non)) bC) (aQ (aa 4))))) [some (.lst (ms.map dM)),some (.lst (es.map dN)),some (.ob nn),none,none,none,none] O)=_
 rw[cz,s1,cP,cz,s2,cP,cz,Dh (n:=nn) (ds:=nms.map D.str) rfl hO,e];unfold wkD
 cases wk ms (0,0) 0 nms with
 |none=>rfl
 |some x =>
  dsimp only;have t1:=d9 (bh (a:=aa 3) (b:=aa 1) (ρ:=[some (.lst (ms.map dM)),some (.lst (es.map dN)),some (.ob nn),some (dN x.2),some (.int x.1),p5,p6]) (O:=O) (x:=dN x.2) rfl rfl (CN true x.2 es));rw[cP,cz]
  by_cases h:x.2∈es
  ·rw[zx h] at t1;rw[if_no t1,if_pos h];rfl
  ·rw[zp h] at t1;rw[lA t1,if_neg h];rfl
end
theorem sq{a b:MS}{ρ ρ':aA}{O O':aj}(h:a ρ O=.nx ρ' O'):aB a b ρ O=b ρ' O':=by
 rw[cz,h,cP]
theorem fO{i:Nat}{m:L2.M D}{ρ:aA}{O O':aj}{d:D}(h:m ρ O=.ok d O'):aH i m ρ O=.nx (ρ.set i (some d)) O':=by
 rw[kO,h,kW]
def pD:Option Int->D
 |none=>.non
 |some i=>.int i
abbrev Tb:=List (Nd×Option Int)
def tab(ps:Tb):List (List Key×D):=ps.map λx=>(key x.1,pD x.2)
def lk(ps:Tb)(n:Nd):Option (Option Int):=(ps.find? λx=>decide (x.1=n)).map (·.2)
def put(ps:Tb)(n:Nd)(v:Option Int):Tb:=if(ps.any λx=>decide (x.1=n))=true then ps.map (λx=>if x.1=n then(x.1,v) else x) else ps++[(n,v)]
theorem sW{a b:Nd}:key a=key b↔a=b:=by
 obtain⟨a1,a2⟩:=a;obtain⟨b1,b2⟩:=b;unfold key;simp
theorem wy(n:Nd):∀ps:Tb,bf (tab ps) (key n)=(lk ps n).map pD
 | []=>rfl
 |x::ps=>by
  have ih:=wy n ps;unfold bf lk tab at *;rw[zh,List.find?_cons,List.find?_cons]
  by_cases h:x.1=n
  ·simp[h]
  ·have h':¬key x.1=key n:=λz=>h (sW.mp z)
   simp only[h,h',decide_false];exact ih
theorem KJ(n:Nd):∀ps:Tb,((tab ps).any λp=>decide (p.1=key n))=ps.any λx=>decide (x.1=n)
 | []=>rfl
 |x::ps=>by
  have ih:=KJ n ps;unfold tab at *;rw[zh,List.any_cons,List.any_cons,ih];congr 1;exact decide_eq_decide.mpr sW
theorem Zh(ps:Tb)(n:Nd)(v:Option Int):dD (tab ps) (key n) (pD v)=tab (put ps n v):=by
 unfold dD put;rw[KJ]
 split
 ·unfold tab;rw[jj,jj]
  refine ju λx _=>?_
  by_cases h:x.1=n
  ·simp[h]
  ·have h':¬key x.1=key n:=λz=>h (sW.mp z)
   simp[h,h']
 ·unfold tab;rw[zN];rfl
theorem Dk{n:Nd}:∀{ps:Tb},(ps.any λx=>decide (x.1=n))=false->lk ps n=none
 | [],_=>rfl
 |x::ps,h=>by
  rw[List.any_cons,Bool.or_eq_false_iff] at h
  have:=Dk h.2
  unfold lk at *;rw[List.find?_cons,h.1];exact this
theorem qp(x:Nd×Option Int)(ps:Tb)(n:Nd):lk (x::ps) n=if x.1=n then some x.2 else lk ps n:=by
 unfold lk;rw[List.find?_cons]
 by_cases h:x.1=n
 ·simp[h]
 ·simp[h]
theorem KN(n:Nd)(y:Nd×Option Int):∀ps:Tb,lk (ps++[y]) n=if(lk ps n).isSome=true then lk ps n else if y.1=n then some y.2 else none
 | []=>by
  rw[zV,qp];rfl
 |x::ps=>by
  rw[List.cons_append,qp,qp,KN n y ps]
  by_cases h:x.1=n
  ·simp[h]
  ·simp[h]
theorem KQ(n m:Nd)(v:Option Int):∀ps:Tb,lk (ps.map λx=>if x.1=n then(x.1,v) else x) m=if m=n then(lk ps m).map λ_=>v else lk ps m
 | []=>by simp[lk]
 |x::ps=>by
  rw[zh,qp,qp,KQ n m v ps]
  by_cases h:x.1=n
  ·by_cases hm:m=n
   ·subst hm;simp[h]
   ·have:¬n=m:=λz=>hm z.symm
    simp[h,hm,this]
  ·by_cases hx:x.1=m
   ·have:¬m=n:=λz=>h (hx.trans z)
    simp[h,hx,this]
   ·simp[h,hx]
theorem Dl{n:Nd}:∀{ps:Tb},(ps.any λx=>decide (x.1=n))=true->(lk ps n).isSome=true
 |x::ps,h=>by
  rw[qp]
  by_cases hx:x.1=n
  ·simp[hx]
  ·rw[if_neg hx];rw[List.any_cons,zp hx,Bool.false_or] at h;exact Dl h
theorem oF(ps:Tb)(n m:Nd)(v:Option Int):lk (put ps n v) m=if m=n then some v else lk ps m:=by
 unfold put
 split
 ·rename_i h;rw[KQ]
  split
  ·rename_i hm;subst hm
   have:=Dl h
   cases e:lk ps m with
   |none=>rw[e] at this;cases this
   |some w=>rfl
  ·rfl
 ·rename_i h;have h0:=Dk (Bool.eq_false_iff.mpr h);rw[KN]
  by_cases hm:m=n
  ·subst hm;simp[h0]
  ·have:¬n=m:=λz=>hm z.symm
   simp[hm,this]
   cases lk ps m<;>simp
theorem KR(ps:Tb)(n:Nd)(v:Option Int):(put ps n v).length<=ps.length+1:=by
 unfold put
 split
 ·rw[zj];omega
 ·rw[zv];exact zd _
theorem mF{mo my:L2.M D}{ρ:aA}{O:aj}{p:Nat}{ps:Tb}{n:Nd}{v:Option Int}(h1:mo ρ O=.ok (.ob p) O)(h2:O[p]?=some (.dt (tab ps)))(h3:my ρ O=.ok (dN n) O)(h4:lk ps n=some v):aZ mo my ρ O=.ok (pD v) O:=by
 unfold aZ;rw[h1];dsimp only[aD];rw[h3];dsimp only[aD];unfold tsG;rw[iM,h2];dsimp only;unfold tsF;rw[iM,h2];dsimp only;rw[wy,h4];rfl
theorem qt{mo my mv:L2.M D}{ρ:aA}{O:aj}{p:Nat}{ps:Tb}{n:Nd}{v:Option Int}(h0:mv ρ O=.ok (pD v) O)(h1:mo ρ O=.ok (.ob p) O)(h2:O[p]?=some (.dt (tab ps)))(h3:my ρ O=.ok (dN n) O)(hl:ps.length<1000000):cV mo my mv ρ O=.nx ρ (O.set p (.dt (tab (put ps n v)))):=by
 unfold cV;rw[h0];dsimp only;rw[h1];dsimp only;rw[h3];dsimp only;rw[iM,h2];dsimp only;rw[if_pos (by unfold tab;rw[zj];exact hl),Zh]
def co(ps:Tb)(m:Mv):Option Int:=match lk ps m.other with
 |some (some b)=>some (m.cost+b)
 | _=>none
def lc(ps:Tb)(ms:List Mv):Option Int:=mdI none (ms.filterMap (co ps))
theorem KY{O:aj}{p:Nat}{ps:Tb}{m:Mv}(hp:O[p]?=some (.dt (tab ps)))(hm:(lk ps m.other).isSome=true):lq [d3 m,.ob p] O=.ok (pD (co ps m)) O:=by
 obtain⟨v,hv⟩:=Option.isSome_iff_exists.mp hm;have s1:aZ (mG (aa 1)) (aq gIx (aa 0) (mC (.int 2))) [some (d3 m),some (.ob p),none] O=.ok (pD v) O:=mF rfl hp (bh rfl rfl rfl) hv;show bu (uR [some (d3 m),some (.ob p),none] O)=_;unfold uR;rw[sq (dR s1),fM];unfold co;rw[hv]
 cases v with
 |none=>rfl
 |some b=>rfl
theorem ints_map:∀is:List Int,j6 (is.map D.int)=some is
 | []=>rfl
 |i::is=>by
  show(j6 (is.map D.int)).map (i :: ·)=_;rw[ints_map is];rfl
theorem KZ(ps:Tb):∀ms:List Mv,(ms.map λm=>pD (co ps m)).filter (λd=>!isNon d)=(ms.filterMap (co ps)).map D.int
 | []=>rfl
 |m::ms=>by
  rw[zh,List.filter_cons,List.filterMap_cons,KZ ps ms]
  cases co ps m<;>rfl
theorem Dm{O:aj}{p:Nat}{ps:Tb}{ms:List Mv}(hp:O[p]?=some (.dt (tab ps)))(hm:∀m∈ms,(lk ps m.other).isSome=true)(hl:ms.length<=1000):lr [.lst (ms.map d3),.ob p] O=.ok (pD (lc ps ms)) O:=by
 have c1:dw (mgN 0) eY (aO lq (ak (aa 0) (ak (aa 1) au))) (ms.map d3) [none,some (.ob p)] O []=.ok (ms.map λm=>pD (co ps m)) O:=by
  rw[rM (λρ=>∃a,ρ=[a,some (.ob p)]) d3 (λm=>pD (co ps m)) ms _ _ _ ⟨none,rfl⟩ (by
   rintro m hm' ρ ⟨a,rfl⟩
   exact⟨_,rfl,⟨_,rfl⟩,rfl,(cI (maS rfl (ma1 rfl))).trans (KY hp (hm m hm'))⟩)]
  rw[zV]
 have s1:cN (cg (aa 0)) 1 [1] (mgN 0) eY (aO lq (ak (aa 0) (ak (aa 1) au))) [some (.lst (ms.map d3)),some (.ob p),none] O=.ok (.lst (ms.map λm=>pD (co ps m))) O:=sI (iK rfl) (by rw[zj];omega) rfl c1
 have c2:dw (mgN 0) (aJ (di (aa 0))) (aa 0) (ms.map λm=>pD (co ps m)) [none] O []=.ok ((ms.filterMap (co ps)).map D.int) O:=by
  rw[Ir (λρ=>∃a,ρ=[a]) (λd=>!isNon d) _ _ _ _ ⟨none,rfl⟩ (by
   rintro d hd ρ ⟨a,rfl⟩
   exact⟨_,rfl,⟨_,rfl⟩,rfl,rfl⟩)]
  rw[zV,KZ]
 have s2:cN (cg (aa 2)) 1 [] (mgN 0) (aJ (di (aa 0))) (aa 0) [some (.lst (ms.map d3)),some (.ob p),some (.lst (ms.map λm=>pD (co ps m)))] O=.ok (.lst ((ms.filterMap (co ps)).map D.int)) O:=sI (iK rfl) (by rw[zj];omega) rfl c2
 have s3:bB uy (ak (cN (cg (aa 2)) 1 [] (mgN 0) (aJ (di (aa 0))) (aa 0)) au) [some (.lst (ms.map d3)),some (.ob p),some (.lst (ms.map λm=>pD (co ps m)))] O=.ok (pD (lc ps ms)) O:=sH (ma1 s2) (by
  show(j6 ((ms.filterMap (co ps)).map D.int)).map _=_;rw[ints_map];show some (match mdI none (ms.filterMap (co ps)) with | some m=>D.int m | none=>D.non)=some (pD (mdI none (ms.filterMap (co ps))))
  cases mdI none (ms.filterMap (co ps))<;>rfl)
 show bu (uT [some (.lst (ms.map d3)),some (.ob p),none] O)=_;unfold uT;rw[sq (dR s1),fM];exact congrArg (λr=>bu (kJ r)) s3
def cj(mv:Nd->List Mv)(ns:List Nd):List (List Key×D):=ns.map λn=>(key n,D.lst ((mv n).map d3))
theorem K1(mv:Nd->List Mv)(n:Nd):∀ns:List Nd,((cj mv ns).any λp=>decide (p.1=key n))=decide (n∈ns)
 | []=>rfl
 |x::ns=>by
  have ih:=K1 mv n ns;unfold cj at *;rw[zh,List.any_cons,ih]
  by_cases h:x=n
  ·subst h;simp
  ·have h1:¬key x=key n:=λz=>h (sW.mp z)
   have h2:¬n=x:=λz=>h z.symm
   simp[h1,h2]
theorem Zi{mv:Nd->List Mv}{ns:List Nd}{n:Nd}(h:n∉ns):dD (cj mv ns) (key n) (.lst ((mv n).map d3))=cj mv (ns++[n]):=by
 unfold dD;rw[K1,zp h,if_neg zq];unfold cj;rw[zN];rfl
theorem K3(mv:Nd->List Mv)(n:Nd):∀ns:List Nd,n∈ns->bf (cj mv ns) (key n)=some (.lst ((mv n).map d3))
 |x::ns,h=>by
  unfold bf cj;rw[zh,List.find?_cons]
  by_cases hx:x=n
  ·subst hx;simp
  ·have h1:¬key x=key n:=λz=>hx (sW.mp z)
   simp only[h1,decide_false]
   rcases zF.mp h with rfl | h
   ·exact absurd rfl hx
   ·exact K3 mv n ns h
theorem Zj(mv:Nd->List Mv)(ns:List Nd):(cj mv ns).map uA=ns.map dN:=by
 unfold cj;rw[jj];rfl
def B_1:MS:=(aB (cV (aa 3) (aa 4) (bA "Listed" "moves_from" fY (mG (aa 0)) (ak (aa 4) au)))
  (cV (mG (aa 2)) (aa 4) (mIf (bW (bA "Listed" "is_end" fC (mG (aa 0)) (ak (aa 4) au))) (mC (.int 0)) (mC .non))))
theorem fP{O:aj}{i:Nat}{x y:Ob}(e:O[i]?=some x):(O.set i y)[i]?=some y:=by
 obtain⟨h,_⟩:=zl.mp e;simp[h]
theorem K4{mo my:L2.M D}{ρ:aA}{O:aj}{q:Nat}{kvs:List (List Key×D)}{n:Nd}{d:D}(h1:mo ρ O=.ok (.ob q) O)(h2:O[q]?=some (.df kvs))(h3:my ρ O=.ok (dN n) O)(h4:bf kvs (key n)=some d):aZ mo my ρ O=.ok d O:=by
 unfold aZ;rw[h1];dsimp only[aD];rw[h3];dsimp only[aD];unfold tsG;rw[iM,h2];dsimp only;rw[h4]
def B_r:MS:=(aB (aH 6 (aO lr (ak (aZ (aa 3) (aa 4)) (ak (aa 2) au))))
  (bj (cH (aJ (di (aa 6))) (du (aJ (cU (aZ (mG (aa 2)) (aa 4)))) (aJ (aq gLt (aa 6) (aZ (mG (aa 2)) (aa 4)))))) (aB (cV (mG (aa 2)) (aa 4) (aa 6))
  (aH 5 (mC (.bl true)))) bC))
def better(v L:Option Int):Bool:=match L with
 |none=>false
 |some c=>match v with
  |none=>true
  |some w=>decide (c<w)
def B_n:MS:=(aB (aH 5 (mC (.bl false)))
  (iW 3 (cu (iC (aa 3)) (mgN 4) B_r)))
theorem wz{t:L2.M Bool}{b:MS}{k:Nat}{ρ ρ2:aA}{O O2:aj}(h:t ρ O=.ok true O)(hb:b ρ O=.nx ρ2 O2):fQ t b (k+1) ρ O=fQ t b k ρ2 O2:=by
 show(match t ρ O with | .ok true O1=>(match b ρ O1 with | .nx ρ2 O2=>fQ t b k ρ2 O2 | .ct ρ2 O2=>fQ t b k ρ2 O2 | .bk ρ2 O2=>Fl.nx ρ2 O2 | r=>r) | .ok false O1=>.nx ρ O1 | .ex x O'=>.ex x O' | .no=>.no)=_;rw[h];dsimp only;rw[hb]
theorem Dn{t:L2.M Bool}{b:MS}{k:Nat}{ρ:aA}{O:aj}(h:t ρ O=.ok false O):fQ t b (k+1) ρ O=.nx ρ O:=by
 show(match t ρ O with | .ok true O1=>(match b ρ O1 with | .nx ρ2 O2=>fQ t b k ρ2 O2 | .ct ρ2 O2=>fQ t b k ρ2 O2 | .bk ρ2 O2=>Fl.nx ρ2 O2 | r=>r) | .ok false O1=>.nx ρ O1 | .ex x O'=>.ex x O' | .no=>.no)=_;rw[h]
theorem Zk(b:Nat):iV (((b+1:Nat):Int) - 1) (b+1)=.int (b:Int)::iV ((b:Int) - 1) b:=by
 unfold iV;rw[List.range_succ_eq_map,zh,jj];congr 1
 ·show D.int _=_;congr 1;omega
 ·refine ju λi _=>?_
  show D.int _=D.int _;congr 1;omega
def B_p:MS:=(qL (aO uW (ak (aa 0) (ak (aa 2) (ak (aa 1) au)))))
theorem wA:∀(l:List Int) (b:Option Int) (c:Int),mdI b l=some c->b=some c\/c∈l
 | [],b,c,h=>.inl (by cases b<;>exact h)
 |n::r,none,c,h=>by
  rcases wA r (some n) c h with h | h
  ·exact .inr (by rw[zE h];exact zr)
  ·exact .inr (zD _ h)
 |n::r,some m,c,h=>by
  rcases wA r (some (if n<m then n else m)) c h with h | h
  ·split at h
   ·exact .inr (by rw[zE h];exact zr)
   ·exact .inl h
  ·exact .inr (zD _ h)
theorem K5:∀(l:List Int) (b:Int),∃c,mdI (some b) l=some c
 | [],b=>⟨b,rfl⟩
 |n::r,b=>K5 r (if n<b then n else b)
theorem Zm{l:List Int}(h:l≠[]):∃c,mdI none l=some c:=by
 cases l with
 |nil=>exact absurd rfl h
 |cons n r=>exact K5 r n
theorem Zn(x y:Option Int):gEq (pD x) (pD y)=some (.bl (decide (x=y))):=by
 cases x with
 |none=>cases y<;>rfl
 |some i =>
  cases y with
  |none=>rfl
  |some j =>
   show some (D.bl (decide (i=j)))=_;congr 2;exact decide_eq_decide.mpr ⟨λh=>by rw[h],λh=>zE h⟩
theorem K6{α:Type}(f:α->Bool)(g:α->D)(h:α->Bool):∀(ms:List α) (m:α),ms.find? f=some m->((ms.filter f).map g)[0]?=some (g m)
 |x::ms,m,e=>by
  rw[List.find?_cons] at e
  cases hx:f x with
  |true =>
   rw[hx] at e;cases e;simp[hx]
  |false =>
   rw[hx] at e;rw[List.filter_cons,hx];exact K6 f g h ms m e
def mf(ms:List Mv)(n:Nd):List Mv:=ms.filter λm=>decide (m.one=n)
theorem oG{ms:List Mv}{n:Nd}{m:Mv}:m∈mf ms n↔m∈ms/\m.one=n:=by
 unfold mf;rw[List.mem_filter];constructor
 ·rintro⟨h1,h2⟩;exact⟨h1,ji h2⟩
 ·rintro⟨h1,h2⟩;exact⟨h1,zx h2⟩
def Wkn(ms:List Mv)(es:List Nd):Nat->Nd->Int->Prop
 | 0,v,c=>v∈es/\c=0
 |k+1,v,c=>∃m,m∈ms/\m.one=v/\∃c',c=m.cost+c'/\Wkn ms es k m.other c'
def Wk(ms:List Mv)(es:List Nd)(v:Nd)(c:Int):Prop:=∃k,Wkn ms es k v c
def Ds(ms:List Mv)(es:List Nd)(v:Nd):Option Int->Prop
 |none=>∀c,¬Wk ms es v c
 |some c=>Wk ms es v c/\∀c',Wk ms es v c'->c<=c'
section
variable {ns:List Nd}{ms:List Mv}{es:List Nd}{d:Nd->Option Int}
theorem Wk.fin{v:Nd}(h:v∈es):Wk ms es v 0:=⟨0,h,rfl⟩
theorem Wk.step{m:Mv}{c:Int}(h:m∈ms)(w:Wk ms es m.other c):Wk ms es m.one (m.cost+c):=by
 obtain⟨k,hk⟩:=w;exact⟨k+1,m,h,rfl,c,rfl,hk⟩
theorem Wk.inv{v:Nd}{c:Int}(w:Wk ms es v c):(v∈es/\c=0)\/∃m,m∈ms/\m.one=v/\∃c',c=m.cost+c'/\Wk ms es m.other c':=by
 obtain⟨k,hk⟩:=w
 cases k with
 |zero=>exact .inl hk
 |succ k =>
  obtain⟨m,h1,h2,c',h3,h4⟩:=hk;exact .inr ⟨m,h1,h2,c',h3,k,h4⟩
theorem Wkn.nn(hm:∀m∈ms,MOk ns m):∀(k:Nat) (v:Nd) (c:Int),Wkn ms es k v c->0<=c
 | 0,v,c,h=>by rw[h.2];exact Int.le_refl _
 |k+1,v,c,⟨m,h1,h2,c',h3,h4⟩=>by
  have:=Wkn.nn hm k _ _ h4
  have:=(hm m h1).2.2.2.1
  omega
theorem Wk.nn(hm:∀m∈ms,MOk ns m){v:Nd}{c:Int}(w:Wk ms es v c):0<=c:=by
 obtain⟨k,hk⟩:=w;exact Wkn.nn hm k v c hk
theorem Zo(hm:∀m∈ms,MOk ns m)(v:Nd):∀(n:Nat) (c:Int),c.toNat=n->Wk ms es v c->∃c0,Ds ms es v (some c0):=by
 intro n
 induction n using Nat.strongRecOn with
 | _ n ih =>
  intro c hn w
  by_cases h:∃c',Wk ms es v c'/\c'<c
  ·obtain⟨c',w',hlt⟩:=h
   have:=w'.nn hm
   exact ih c'.toNat (by omega) c' rfl w'
  ·exact⟨c,w,λc' w'=>by
    by_cases z:c<=c'
    ·exact z
    ·exact absurd ⟨c',w',by omega⟩ h⟩
theorem K7(hm:∀m∈ms,MOk ns m)(v:Nd):∃x,Ds ms es v x:=by
 by_cases h:∃c,Wk ms es v c
 ·obtain⟨c,w⟩:=h;obtain⟨c0,h0⟩:=Zo hm v _ c rfl w;exact⟨some c0,h0⟩
 ·exact⟨none,λc w=>h ⟨c,w⟩⟩
structure Cx(ns:List Nd)(ms:List Mv)(es:List Nd)(d:Nd->Option Int):Prop where
 mo:∀m∈ms,MOk ns m
 dd:∀v,Ds ms es v (d v)
theorem Zq(hm:∀m∈ms,MOk ns m):∃d,Cx ns ms es d:=⟨λv=>Classical.choose (K7 (es:=es) hm v),hm,λv=>Classical.choose_spec (K7 (es:=es) hm v)⟩
theorem Cx.wk(C:Cx ns ms es d){v:Nd}{c:Int}(w:Wk ms es v c):∃c0,d v=some c0/\c0<=c:=by
 have h:=C.dd v
 cases e:d v with
 |none=>rw[e] at h;exact absurd w (h c)
 |some c0=>rw[e] at h;exact⟨c0,rfl,h.2 c w⟩
theorem Cx.kw(C:Cx ns ms es d){v:Nd}{c:Int}(e:d v=some c):Wk ms es v c:=by
 have h:=C.dd v;rw[e] at h;exact h.1
theorem Cx.end(C:Cx ns ms es d){v:Nd}(h:v∈es):d v=some 0:=by
 obtain⟨c,e,hc⟩:=C.wk (Wk.fin h)
 have:=(C.kw e).nn C.mo
 rw[e];congr 1;omega
def mu(d:Nd->Option Int)(v:Nd):Int:=(d v).getD 0 - v.1
def rk(ns:List Nd)(d:Nd->Option Int)(v:Nd):Nat:=(ns.filter λu=>decide (mu d u<mu d v)).length
theorem Cx.succ(C:Cx ns ms es d){v:Nd}{c:Int}(e:d v=some c):(v∈es/\c=0)\/∃m,m∈ms/\m.one=v/\∃c',d m.other=some c'/\c=m.cost+c'/\mu d m.other<mu d v:=by
 rcases(C.kw e).inv with h | ⟨m,h1,h2,c',h3,h4⟩
 ·exact .inl h
 ·obtain⟨c0,e0,hc0⟩:=C.wk h4;obtain⟨c1,e1,hc1⟩:=C.wk (Wk.step h1 (C.kw e0));rw[h2,e] at e1;have e1':=zE e1
  have hc':c'=c0:=by omega
  refine .inr ⟨m,h1,h2,c',by rw[hc'];exact e0,h3,?_⟩;have q:=C.mo m h1;obtain⟨_,_,q3,q4,q5⟩:=q;unfold mu;rw[e0,e,<-h2,<-hc'];show c' - m.other.1<c - m.one.1
  by_cases z:m.one.1=m.other.1
  ·have:=q5 z;omega
  ·omega
theorem K8{α:Type}{p q:α->Bool}:∀(l:List α),(∀x∈l,p x=true->q x=true)->(l.filter p).length<=(l.filter q).length
 | [],_=>zd _
 |y::l,h=>by
  have ih:=K8 l λx hx=>h x (zD _ hx)
  rw[List.filter_cons,List.filter_cons]
  cases hp:p y with
  |true=>rw[h y zr hp];simpa using ih
  |false =>
   cases q y with
   |true=>simp;omega
   |false=>simpa using ih
theorem Do{α:Type}{p q:α->Bool}:∀(l:List α),(∀x∈l,p x=true->q x=true)->(∃x,x∈l/\q x=true/\p x=false)->(l.filter p).length<(l.filter q).length
 | [],_,⟨x,h,_⟩=>(nomatch h)
 |y::l,h,⟨x,hx,hq,hp⟩=>by
  have hl:=λx hx=>h x (zD y hx)
  rw[List.filter_cons,List.filter_cons]
  rcases zF.mp hx with rfl | hx
  ·have:=K8 l hl
   rw[hq,hp];simp;omega
  ·have ih:=Do l hl ⟨x,hx,hq,hp⟩
   cases hp:p y with
   |true=>rw[h y zr hp];simpa using ih
   |false =>
    cases q y with
    |true=>simp;omega
    |false=>simpa using ih
theorem K9{u v:Nd}(hu:u∈ns)(h:mu d u<mu d v):rk ns d u<rk ns d v :=
 Do ns (λx _ hx=>zx (Int.lt_trans (ji hx) h)) ⟨u,hu,zx h,zp (Int.lt_irrefl _)⟩
theorem wB{v:Nd}(hv:v∈ns):rk ns d v<ns.length:=by
 have:=Do (p:=λu=>decide (mu d u<mu d v)) (q:=λ_=>true) ns (λ_ _ _=>rfl) ⟨v,hv,rfl,zp (Int.lt_irrefl _)⟩
 rwa [List.filter_eq_self.mpr (λ_ _=>rfl)] at this
def Snd(ms:List Mv)(es:List Nd)(ps:Tb):Prop:=∀v c,lk ps v=some (some c)->Wk ms es v c
def Fi(d:Nd->Option Int)(ps:Tb)(v:Nd):Prop:=lk ps v=some (d v)
def rl(cur:Tb)(n:Nd)(v L:Option Int):Tb:=if better v L=true then put cur n L else cur
theorem La{cur:Tb}{n:Nd}{v L:Option Int}(h:Snd ms es cur)(hL:∀c,L=some c->Wk ms es n c):Snd ms es (rl cur n v L):=by
 unfold rl
 split
 ·intro u c hu;rw[oF] at hu;split at hu
  ·rename_i e;rw[e];exact hL c (zE hu)
  ·exact h u c hu
 ·exact h
theorem Lb(C:Cx ns ms es d){cur:Tb}{n u:Nd}{v L:Option Int}(hv:lk cur n=some v)(hL:∀c,L=some c->Wk ms es n c)(hu:Fi d cur u):Fi d (rl cur n v L) u:=by
 unfold rl
 split
 ·rename_i hb;unfold Fi;rw[oF]
  split
  ·rename_i e;exfalso;rw[e] at hu;have e2:v=d n:=zE (hv.symm.trans hu);unfold better at hb
   cases L with
   |none=>cases hb
   |some c =>
    obtain⟨c0,e0,hc0⟩:=C.wk (hL c rfl);rw[e2,e0] at hb
    have:=ji hb
    omega
  ·exact hu
 ·exact hu
theorem Ld(C:Cx ns ms es d){cur:Tb}{n:Nd}{v L:Option Int}(hs:Snd ms es cur)(hv:lk cur n=some v)(hL:L=d n):Fi d (rl cur n v L) n:=by
 unfold rl
 split
 ·unfold Fi;rw[oF,if_pos rfl,hL]
 ·rename_i hb;unfold Fi;rw[hv,<-hL];congr 1
  cases hL':L with
  |none =>
   cases v with
   |none=>rfl
   |some w =>
    obtain⟨c0,e0,_⟩:=C.wk (hs n w hv);rw[<-hL,hL'] at e0;cases e0
  |some c =>
   cases v with
   |none=>rw[hL'] at hb;exact absurd rfl hb
   |some w =>
    obtain⟨c0,e0,h0⟩:=C.wk (hs n w hv);rw[<-hL,hL'] at e0;have e0':=zE e0;rw[hL'] at hb
    have hw:¬c<w:=λz=>hb (zx z)
    congr 1;omega
def ky(ps:Tb):List Nd:=ps.map (·.1)
theorem sX(n:Nd):∀ps:Tb,(ps.any λx=>decide (x.1=n))=decide (n∈ky ps)
 | []=>by simp[ky]
 |x::ps=>by
  rw[List.any_cons,sX n ps];unfold ky;rw[zh]
  by_cases h:x.1=n
  ·simp[h]
  ·have h':¬n=x.1:=λz=>h z.symm
   simp[h,h']
theorem Le{ps:Tb}{n:Nd}{v:Option Int}(h:n∈ky ps):ky (put ps n v)=ky ps:=by
 unfold put;rw[sX,zx h,if_pos rfl];unfold ky;rw[jj]
 refine ju λx _=>?_
 show(if x.1=n then(x.1,v) else x).1=x.1
 split<;>rfl
theorem Lf{ps:Tb}{n:Nd}{v:Option Int}(h:n∉ky ps):ky (put ps n v)=ky ps++[n]:=by
 unfold put;rw[sX,zp h,if_neg zq];unfold ky;rw[zN];rfl
theorem gG{ps:Tb}{n:Nd}:(lk ps n).isSome=true↔n∈ky ps:=by
 constructor
 ·intro h
  by_cases z:n∈ky ps
  ·exact z
  ·have:=Dk (n:=n) (ps:=ps) (by rw[sX];exact zp z)
   rw[this] at h;cases h
 ·intro h;exact Dl (by rw[sX];exact zx h)
theorem gH(ps:Tb):(ky ps).length=ps.length:=zj _
theorem Lg{cur:Tb}{n:Nd}{v L:Option Int}(h:lk cur n=some v):ky (rl cur n v L)=ky cur:=by
 unfold rl
 split
 ·exact Le (gG.mp (by rw[h];rfl))
 ·rfl
theorem Dp:∀(l:List Int) (b:Option Int) (c:Int),mdI b l=some c->(∀x∈l,c<=x)/\∀y,b=some y->c<=y
 | [],b,c,h=>⟨λx hx=>(nomatch hx),λy hy=>by
  have h':b=some c:=by cases b<;>exact h
  rw[hy] at h'
  have:=zE h'
  omega⟩
 |n::r,none,c,h=>by
  obtain⟨h1,h2⟩:=Dp r (some n) c h;refine⟨λx hx=>?_,λy hy=>(nomatch hy)⟩
  rcases zF.mp hx with rfl | hx
  ·exact h2 _ rfl
  ·exact h1 x hx
 |n::r,some m,c,h=>by
  obtain⟨h1,h2⟩:=Dp r (some (if n<m then n else m)) c h;have h3:=h2 _ rfl;refine⟨λx hx=>?_,λy hy=>?_⟩
  ·rcases zF.mp hx with rfl | hx
   ·split at h3<;>omega
   ·exact h1 x hx
  ·have:=zE hy
   split at h3<;>omega
theorem Lh{cur:Tb}(hs:Snd ms es cur){m:Mv}(hm:m∈ms){c:Int}(h:co cur m=some c):Wk ms es m.one c:=by
 unfold co at h;split at h
 ·rename_i b e;rw[<-zE h];exact Wk.step hm (hs _ _ e)
 ·cases h
theorem Dq{cur:Tb}(hs:Snd ms es cur){n:Nd}{c:Int}(h:lc cur (mf ms n)=some c):Wk ms es n c:=by
 rcases wA _ _ _ h with h | h
 ·cases h
 ·obtain⟨m,h1,h2⟩:=List.mem_filterMap.mp h;obtain⟨h3,h4⟩:=oG.mp h1;rw[<-h4];exact Lh hs h3 h2
def Rdy(ms:List Mv)(d:Nd->Option Int)(cur:Tb)(v:Nd):Prop:=∃m,m∈ms/\m.one=v/\∃c',d m.other=some c'/\d v=some (m.cost+c')/\Fi d cur m.other
theorem Li{cur:Tb}{m:Mv}{c':Int}(h1:d m.other=some c')(h2:Fi d cur m.other):co cur m=some (m.cost+c'):=by
 unfold co;unfold Fi at h2;rw[h2,h1]
theorem Lj(C:Cx ns ms es d){cur:Tb}(hs:Snd ms es cur){v:Nd}(h:Rdy ms d cur v):lc cur (mf ms v)=d v:=by
 obtain⟨m,h1,h2,c',h3,h4,h5⟩:=h;have hc:=Li h3 h5;have hmem:m.cost+c'∈(mf ms v).filterMap (co cur):=List.mem_filterMap.mpr ⟨m,oG.mpr ⟨h1,h2⟩,hc⟩;obtain⟨c1,e1⟩:=Zm (l:=(mf ms v).filterMap (co cur)) (List.ne_nil_of_mem hmem);have hle:=(Dp _ _ _ e1).1 _ hmem;obtain⟨c0,e0,h0⟩:=C.wk (Dq hs e1);rw[h4] at e0;have e0':=zE e0;show mdI none ((mf ms v).filterMap (co cur))=d v;rw[e1,h4];congr 1;omega
structure St(ns:List Nd)(ms:List Mv)(es:List Nd)(d:Nd->Option Int)(a:Nat)(cur:Tb):Prop where
 so:Snd ms es cur
 dm:∀v∈ns,(a:Int)<=v.1->(lk cur v).isSome=true
 en:∀v∈ns,(a:Int)<=v.1->v∈es->Fi d cur v
def Pk(ns:List Nd)(d:Nd->Option Int)(a k:Nat)(cur:Tb):Prop:=∀v∈ns,(a:Int)<=v.1->rk ns d v<k->Fi d cur v
theorem St.none(C:Cx ns ms es d){a:Nat}{cur:Tb}(S:St ns ms es d a cur){v:Nd}(hv:v∈ns)(ha:(a:Int)<=v.1)(h:d v=none):Fi d cur v:=by
 obtain⟨x,hx⟩:=Option.isSome_iff_exists.mp (S.dm v hv ha);unfold Fi;rw[hx,h]
 cases x with
 |none=>rfl
 |some c =>
  obtain⟨c0,e0,_⟩:=C.wk (S.so v c hx);rw[h] at e0;cases e0
theorem ready(C:Cx ns ms es d){a k:Nat}{cur:Tb}(S:St ns ms es d a cur)(hP:Pk ns d a k cur){v:Nd}(hv:v∈ns)(ha:(a:Int)<=v.1)(hk:rk ns d v<k+1):Fi d cur v\/Rdy ms d cur v:=by
 cases e:d v with
 |none=>exact .inl (S.none C hv ha e)
 |some c =>
  rcases C.succ e with⟨h1,h2⟩ | ⟨m,h1,h2,c',h3,h4,h5⟩
  ·exact .inl (S.en v hv ha h1)
  ·have q:=C.mo m h1;have hr:=K9 q.2.1 h5;refine .inr ⟨m,h1,h2,c',h3,by rw[e,h4],hP _ q.2.1 ?_ (by omega)⟩
   have:=q.2.2.1
   rw[h2] at this;omega
end
def Ext(B O:aj):Prop:=∀(j:Nat) (x:Ob),B[j]?=some x->O[j]?=some x
theorem Ext.refl(B:aj):Ext B B:=λ_ _ h=>h
theorem Ext.set{B O:aj}(h:Ext B O){p:Nat}(hp:B.length<=p)(x:Ob):Ext B (O.set p x):=λj y hj=>by
 have:=(zl.mp hj).1
 rw[zm (by omega)];exact h j y hj
theorem Ext.ne{B O O':aj}(h:Ext B O){p q:Nat}(hp:B.length<=p)(hq:B.length<=q)(hs:∀j,j≠p->j≠q->O'[j]?=O[j]?):Ext B O':=λj y hj=>by
 have:=(zl.mp hj).1
 rw[hs j (by omega) (by omega)];exact h j y hj
def Tr.ext{B O:aj}{n:Nat}{sz:List Int}{ms:List Mv}{es:List Nd}(T:Tr B n sz ms es)(h:Ext B O):Tr O n sz ms es where
 a:=T.a
 b:=T.b
 kv:=T.kv
 ekv:=T.ekv
 ob:=h _ _ T.ob
 oa:=h _ _ T.oa
 oe:=h _ _ T.oe
 en:=T.en
 mv:=λn=>(T.mv n).imp id λ⟨i,e1,e2⟩=>⟨i,e1,h _ _ e2⟩
def ini(es:List Nd)(n:Nd):Option Int:=if decide (n∈es)=true then some 0 else none
theorem Ln{O:aj}{n:Nat}{sz:List Int}{ms:List Mv}{es:List Nd}(T:Tr O n sz ms es){k:Nat}(hk:k<sz.length)(hs:∀s∈sz,1<=s/\s<=3):lg [.ob n,.int (k:Int)] O=.ok (.lst ((lay sz k).map dN)) O:=by
 rw[Y7 T k hk (hs _ (jk hk))];unfold lay;rw[zY,zu hk,jj];rfl
section
variable {B:aj}{t:Nat}{sz:List Int}{ms:List Mv}{es:List Nd}{p q:Nat}{d:Nd->Option Int}{ns:List Nd}
theorem Zr(T:Tr B t sz ms es){n:Nd}{pre:List Nd}(hp':n∉pre){O:aj}{cur:Tb}(hE:Ext B O)(bq:B.length<=q)(hp:O[p]?=some (.dt (tab cur)))(hq:O[q]?=some (.dt (cj (mf ms) pre)))(hpq:p≠q)(hl:cur.length<1000000)(hl2:pre.length<1000000)(a1 o5 o6:Option D):
  B_1 [some (.ob t),a1,some (.ob p),some (.ob q),some (dN n),o5,o6] O=.nx [some (.ob t),a1,some (.ob p),some (.ob q),some (dN n),o5,o6] ((O.set q (.dt (cj (mf ms) (pre++[n])))).set p (.dt (tab (put cur n (ini es n))))):=by
 have e1:bA "Listed" "moves_from" fY (mG (aa 0)) (ak (aa 4) au) [some (.ob t),a1,some (.ob p),some (.ob q),some (dN n),o5,o6] O=.ok (.lst ((mf ms n).map d3)) O:=(gD rfl (T.ext hE).ob rfl (ma1 rfl)).trans (wj (T.ext hE) n)
 have s1:cV (aa 3) (aa 4) (bA "Listed" "moves_from" fY (mG (aa 0)) (ak (aa 4) au)) [some (.ob t),a1,some (.ob p),some (.ob q),some (dN n),o5,o6] O=.nx [some (.ob t),a1,some (.ob p),some (.ob q),some (dN n),o5,o6] (O.set q (.dt (cj (mf ms) (pre++[n])))):=by
  rw[vW (n:=q) (kvs:=cj (mf ms) pre) (y:=n) e1 rfl hq rfl (by unfold cj;rw[zj];exact hl2),Zi hp']
 have hE2:=hE.set bq (.dt (cj (mf ms) (pre++[n])))
 have hp2:(O.set q (.dt (cj (mf ms) (pre++[n]))))[p]?=some (.dt (tab cur)):=by rw[zm (Ne.symm hpq)];exact hp
 have e2:bA "Listed" "is_end" fC (mG (aa 0)) (ak (aa 4) au) [some (.ob t),a1,some (.ob p),some (.ob q),some (dN n),o5,o6] (O.set q (.dt (cj (mf ms) (pre++[n]))))=.ok (.bl (decide (n∈es))) (O.set q (.dt (cj (mf ms) (pre++[n])))):=(gD rfl (T.ext hE2).ob rfl (ma1 rfl)).trans (wu (T.ext hE2) n)
 have e3:mIf (bW (bA "Listed" "is_end" fC (mG (aa 0)) (ak (aa 4) au))) (mC (.int 0)) (mC .non) [some (.ob t),a1,some (.ob p),some (.ob q),some (dN n),o5,o6] (O.set q (.dt (cj (mf ms) (pre++[n]))))=.ok (pD (ini es n)) (O.set q (.dt (cj (mf ms) (pre++[n])))):=by
  rw[Ih,rG,e2,aD,uG,uI,uH,aD];unfold ini
  cases decide (n∈es)<;>rfl
 unfold B_1;rw[sq s1];exact qt e3 rfl hp2 rfl hl
theorem Lp(T:Tr B t sz ms es)(hpq:p≠q)(bp:B.length<=p)(bq:B.length<=q)(a1 o5 o6:Option D):∀(rest pre:List Nd) (O:aj) (cur:Tb) (o4:Option D),(pre++rest).Nodup->(∀n∈rest,n∉ky cur)->Ext B O->O[p]?=some (.dt (tab cur))->O[q]?=some (.dt (cj (mf ms) pre))->cur.length+rest.length<1000000->pre.length+rest.length<1000000 ->
  ∃O' cur' o4',bJ (mgN 4) B_1 (rest.map dN) [some (.ob t),a1,some (.ob p),some (.ob q),o4,o5,o6] O=.nx [some (.ob t),a1,some (.ob p),some (.ob q),o4',o5,o6] O'/\O'[p]?=some (.dt (tab cur'))/\O'[q]?=some (.dt (cj (mf ms) (pre++rest)))/\(∀j,j≠p->j≠q->O'[j]?=O[j]?)/\(∀n,lk cur' n=if n∈rest then some (ini es n) else lk cur n)/\ky cur'=ky cur++rest
 | [],pre,O,cur,o4,_,_,_,hp,hq,_,_=>⟨O,cur,o4,rfl,hp,by rw[je];exact hq,λ_ _ _=>rfl,λn=>by simp,by rw[je]⟩
 |n::rest,pre,O,cur,o4,hd,hk,hE,hp,hq,hl,hl2=>by
  rw[zI] at hl hl2
  have hnp:n∉pre:=λz=>(jc.mp hd).2.2 n z n zr rfl
  have hnr:n∉rest:=λz=>(List.nodup_cons.mp (jc.mp hd).2.1).1 z
  have eb:=Zr T hnp hE bq hp hq hpq (by omega) (by omega) a1 o5 o6;have hpl:=KR cur n (ini es n);have hkn:=Lf (v:=ini es n) (hk n zr)
  obtain⟨O',cur',o4',e,h1,h2,h3,h4,h5⟩:=Lp T hpq bp bq a1 o5 o6 rest (pre++[n]) ((O.set q (.dt (cj (mf ms) (pre++[n])))).set p (.dt (tab (put cur n (ini es n))))) (put cur n (ini es n)) (some (dN n)) (by rw[zM];exact hd) (λm hm z=>by
    rw[hkn] at z
    rcases zA.mp z with z | z
    ·exact hk m (zD _ hm) z
    ·exact hnr (by rw[<-zz.mp z];exact hm))
   ((hE.set bq _).set bp _) (fP (by rw[zm (Ne.symm hpq)];exact hp)) (by rw[zm hpq];exact fP hq) (by omega) (by rw[zv,jo];omega)
  refine⟨O',cur',o4',?_,h1,by rw[zM] at h2;exact h2,λj j1 j2=>?_,λm=>?_,by rw[h5,hkn,zM];rfl⟩
  ·rw[zh];unfold bJ;rw[mg_n];dsimp only
   show(match B_1 [some (.ob t),a1,some (.ob p),some (.ob q),some (dN n),o5,o6] O with
    | .nx ρ' O'=>bJ _ _ (rest.map dN) ρ' O' | .ct ρ' O'=>bJ _ _ (rest.map dN) ρ' O' | .bk ρ' O'=>Fl.nx ρ' O' | r=>r)=_
   rw[eb];exact e
  ·rw[h3 j j1 j2,zm (Ne.symm j1),zm (Ne.symm j2)]
  ·rw[h4 m,oF]
   by_cases hm:m=n
   ·subst hm;simp[hnr]
   ·simp[hm]
theorem Zt{ns:List Nd}{n:Nd}(hn:n∈ns){O:aj}{cur:Tb}{v:Option Int}(hp:O[p]?=some (.dt (tab cur)))(hq:O[q]?=some (.df (cj (mf ms) ns)))(hv:lk cur n=some v)(hm:∀m∈mf ms n,(lk cur m.other).isSome=true)(hml:(mf ms n).length<=1000)(hl:cur.length<1000000)(b:Bool)(a0 a1 o6:Option D):
  B_r [a0,a1,some (.ob p),some (.ob q),some (dN n),some (.bl b),o6] O=.nx [a0,a1,some (.ob p),some (.ob q),some (dN n),some (.bl (b || better v (lc cur (mf ms n)))),some (pD (lc cur (mf ms n)))] (if better v (lc cur (mf ms n))=true then O.set p (.dt (tab (put cur n (lc cur (mf ms n))))) else O):=by
 have s1:aZ (aa 3) (aa 4) [a0,a1,some (.ob p),some (.ob q),some (dN n),some (.bl b),o6] O=.ok (.lst ((mf ms n).map d3)) O:=K4 rfl hq rfl (K3 (mf ms) n ns hn);have s2:aO lr (ak (aZ (aa 3) (aa 4)) (ak (aa 2) au)) [a0,a1,some (.ob p),some (.ob q),some (dN n),some (.bl b),o6] O=.ok (pD (lc cur (mf ms n))) O:=(cI (maS s1 (ma1 rfl))).trans (Dm hp hm hml)
 have e2:∀o6':Option D,aZ (mG (aa 2)) (aa 4) [a0,a1,some (.ob p),some (.ob q),some (dN n),some (.bl b),o6'] O=.ok (pD v) O:=λo6'=>mF rfl hp rfl hv
 unfold B_r;rw[sq (dR s2)];show bj _ _ _ [a0,a1,some (.ob p),some (.ob q),some (dN n),some (.bl b),some (pD (lc cur (mf ms n)))] O=_
 cases hL:lc cur (mf ms n) with
 |none =>
  refine(if_no ?_).trans ?_
  ·rw[gq];rfl
  ·show Fl.nx _ O=_;simp[better]
 |some c =>
  have hput:(aB (cV (mG (aa 2)) (aa 4) (aa 6)) (aH 5 (mC (.bl true)))) [a0,a1,some (.ob p),some (.ob q),some (dN n),some (.bl b),some (pD (some c))] O=.nx [a0,a1,some (.ob p),some (.ob q),some (dN n),some (.bl true),some (pD (some c))] (O.set p (.dt (tab (put cur n (some c))))):=by
   rw[sq (qt (v:=some c) rfl rfl hp rfl hl)];rfl
  have tA:aJ (di (aa 6)) [a0,a1,some (.ob p),some (.ob q),some (dN n),some (.bl b),some (pD (some c))] O=.ok true O:=rfl
  have tB:aJ (cU (aZ (mG (aa 2)) (aa 4))) [a0,a1,some (.ob p),some (.ob q),some (dN n),some (.bl b),some (pD (some c))] O=.ok (isNon (pD v)) O:=by
   rw[fL,rF,e2,aD,aD,fK]
  cases v with
  |none =>
   refine(lA ?_).trans ?_
   ·rw[gq,tA,aD,if_pos rfl,rH,tB,aD];rfl
   ·rw[hput];simp[better]
  |some w =>
   have tC:aJ (aq gLt (aa 6) (aZ (mG (aa 2)) (aa 4))) [a0,a1,some (.ob p),some (.ob q),some (dN n),some (.bl b),some (pD (some c))] O=.ok (decide (c<w)) O:=d9 (bh (x:=.int c) rfl (e2 _) rfl)
   have tD:cH (aJ (di (aa 6))) (du (aJ (cU (aZ (mG (aa 2)) (aa 4)))) (aJ (aq gLt (aa 6) (aZ (mG (aa 2)) (aa 4))))) [a0,a1,some (.ob p),some (.ob q),some (dN n),some (.bl b),some (pD (some c))] O=.ok (decide (c<w)) O:=by
    rw[gq,tA,aD,if_pos rfl,rH,tB,aD];exact tC
   by_cases hw:c<w
   ·rw[zx hw] at tD;rw[lA tD,hput];simp[better,hw]
   ·rw[zp hw] at tD;rw[if_no tD];show Fl.nx _ O=_;simp[better,hw]
theorem Zu(C:Cx ns ms es d){cur:Tb}{n:Nd}{v L:Option Int}(hv:lk cur n=some v)(hL:∀c,L=some c->Wk ms es n c)(hu:Fi d cur n):better v L=false:=by
 have e2:v=d n:=zE (hv.symm.trans hu);unfold better
 cases L with
 |none=>rfl
 |some c =>
  obtain⟨c0,e0,hc0⟩:=C.wk (hL c rfl);rw[e2,e0];exact zp (by omega)
theorem Rdy.mono{cur cur':Tb}{v:Nd}(h:∀u,Fi d cur u->Fi d cur' u)(r:Rdy ms d cur v):Rdy ms d cur' v:=by
 obtain⟨m,h1,h2,c',h3,h4,h5⟩:=r;exact⟨m,h1,h2,c',h3,h4,h _ h5⟩
theorem Lq(C:Cx ns ms es d)(hml:ms.length<=40){nl:List Nd}(hpq:p≠q)(a0 a1:Option D):
  ∀(rest:List Nd) (O:aj) (cur:Tb) (b:Bool) (o4 o6:Option D),(∀n∈rest,n∈nl)->O[p]?=some (.dt (tab cur))->O[q]?=some (.df (cj (mf ms) nl))->Snd ms es cur->(∀n∈rest,n∈ky cur)->(∀n∈rest,∀m∈mf ms n,m.other∈ky cur)->cur.length<1000000 ->
  ∃O' cur' o4' o6' ch,bJ (mgN 4) B_r (rest.map dN) [a0,a1,some (.ob p),some (.ob q),o4,some (.bl b),o6] O=.nx [a0,a1,some (.ob p),some (.ob q),o4',some (.bl (b || ch)),o6'] O'/\O'[p]?=some (.dt (tab cur'))/\(∀j,j≠p->O'[j]?=O[j]?)/\Snd ms es cur'/\(∀u,Fi d cur u->Fi d cur' u)/\ky cur'=ky cur/\(∀v∈rest,Rdy ms d cur v->Fi d cur' v)/\(ch=false->cur'=cur)/\((∀v∈rest,Fi d cur v)->ch=false)
 | [],O,cur,b,o4,o6,_,hp,_,hs,_,_,_=>⟨O,cur,o4,o6,false,by simp[bJ],hp,λ_ _=>rfl,hs,λ_ h=>h,rfl,λv hv=>(nomatch hv),λ_=>rfl,λ_=>rfl⟩
 |n::rest,O,cur,b,o4,o6,hr,hp,hq,hs,hk,hm,hl=>by
  obtain⟨v,hv⟩:=Option.isSome_iff_exists.mp (gG.mpr (hk n zr))
  have hL:∀c,lc cur (mf ms n)=some c->Wk ms es n c:=λc h=>Dq hs h
  have eb:=Zt (hr n zr) hp hq hv (λm h=>gG.mpr (hm n zr m h)) (zH (List.length_filter_le _ _) (by omega)) hl b a0 a1 o6;obtain⟨O1,hO1⟩:∃O1,O1=(if better v (lc cur (mf ms n))=true then O.set p (.dt (tab (put cur n (lc cur (mf ms n))))) else O):=⟨_,rfl⟩;rw[<-hO1] at eb
  have k1:O1[p]?=some (.dt (tab (rl cur n v (lc cur (mf ms n))))):=by
   rw[hO1];unfold rl
   split
   ·exact fP hp
   ·exact hp
  have k2:∀j,j≠p->O1[j]?=O[j]?:=λj hj=>by
   rw[hO1]
   split
   ·rw[zm (Ne.symm hj)]
   ·rfl
  have hs1:=La (v:=v) hs hL;have hky:=Lg (L:=lc cur (mf ms n)) hv
  have hf1:∀u,Fi d cur u->Fi d (rl cur n v (lc cur (mf ms n))) u:=λu hu=>Lb C hv hL hu
  have hln:(rl cur n v (lc cur (mf ms n))).length<1000000:=by rw[<-gH,hky,gH];exact hl
  obtain⟨O',cur',o4',o6',ch,e,g1,g2,g3,g4,g5,g6,g7,g8⟩:=Lq C hml hpq a0 a1 rest O1 (rl cur n v (lc cur (mf ms n))) (b || better v (lc cur (mf ms n))) (some (dN n)) (some (pD (lc cur (mf ms n)))) (λm hm=>hr m (zD _ hm)) k1 ((k2 q (Ne.symm hpq)).trans hq) hs1 (λm hm=>by rw[hky];exact hk m (zD _ hm)) (λm hm' x hx=>by rw[hky];exact hm m (zD _ hm') x hx) hln;refine⟨O',cur',o4',o6',better v (lc cur (mf ms n)) || ch,?_,g1,λj hj=>(g2 j hj).trans (k2 j hj),g3,λu hu=>g4 u (hf1 u hu),g5.trans hky,λu hu hR=>?_,λhc=>?_,λha=>?_⟩
  ·rw[zh];unfold bJ;rw[mg_n];dsimp only
   show(match B_r [a0,a1,some (.ob p),some (.ob q),some (dN n),some (.bl b),o6] O with
    | .nx ρ' O'=>bJ _ _ (rest.map dN) ρ' O' | .ct ρ' O'=>bJ _ _ (rest.map dN) ρ' O' | .bk ρ' O'=>Fl.nx ρ' O' | r=>r)=_
   rw[eb,<-Bool.or_assoc];exact e
  ·rcases zF.mp hu with rfl | hu
   ·exact g4 _ (Ld C hs hv (Lj C hs hR))
   ·exact g6 u hu (hR.mono hf1)
  ·rw[Bool.or_eq_false_iff] at hc;rw[g7 hc.2];unfold rl;rw[hc.1,if_neg zq]
  ·have hb:=Zu C hv hL (ha n zr);rw[hb,Bool.false_or]
   exact g8 λu hu=>hf1 u (ha u (zD _ hu))
theorem Lr(C:Cx ns ms es d)(hml:ms.length<=40){nl:List Nd}(hpq:p≠q)(a0 a1 o4 o5 o6:Option D){O:aj}{cur:Tb}
  (hp:O[p]?=some (.dt (tab cur))) (hq:O[q]?=some (.dt (cj (mf ms) nl))) (hs:Snd ms es cur) (hk:∀n∈nl,n∈ky cur) (hm:∀n∈nl,∀m∈mf ms n,m.other∈ky cur) (hl:cur.length<1000000):
  ∃O' cur' o4' o6' ch,B_n [a0,a1,some (.ob p),some (.ob q),o4,o5,o6] O=.nx [a0,a1,some (.ob p),some (.ob q),o4',some (.bl ch),o6'] O'/\O'[p]?=some (.dt (tab cur'))/\O'[q]?=some (.dt (cj (mf ms) nl))/\(∀j,j≠p->j≠q->O'[j]?=O[j]?)/\Snd ms es cur'/\(∀u,Fi d cur u->Fi d cur' u)/\ky cur'=ky cur/\(∀v∈nl,Rdy ms d cur v->Fi d cur' v)/\(ch=false->cur'=cur)/\((∀v∈nl,Fi d cur v)->ch=false):=by
 have hq1:(O.set q (.df (cj (mf ms) nl)))[q]?=some (.df (cj (mf ms) nl)):=fP hq
 have hp1:(O.set q (.df (cj (mf ms) nl)))[p]?=some (.dt (tab cur)):=by rw[zm (Ne.symm hpq)];exact hp
 obtain⟨O',cur',o4',o6',ch,e,g1,g2,g3,g4,g5,g6,g7,g8⟩:=Lq C hml hpq a0 a1 nl (O.set q (.df (cj (mf ms) nl))) cur false o4 o6 (λn h=>h) hp1 hq1 hs hk hm hl;rw[Bool.false_or] at e;have hq2:O'[q]?=some (.df (cj (mf ms) nl)):=(g2 q (Ne.symm hpq)).trans hq1;refine⟨O'.set q (.dt (cj (mf ms) nl)),cur',o4',o6',ch,?_,?_,fP hq2,λj j1 j2=>?_,g3,g4,g5,g6,g7,g8⟩
 ·have ek:iC (aa 3) [a0,a1,some (.ob p),some (.ob q),o4,some (.bl false),o6] O=.ok (nl.map dN) (O.set q (.df (cj (mf ms) nl))):=by
   unfold iC;rw[show(aa 3) [a0,a1,some (.ob p),some (.ob q),o4,some (.bl false),o6] O=.ok (.ob q) O from rfl];dsimp only[aD];rw[hq];dsimp only;rw[Zj]
  have ef:cu (iC (aa 3)) (mgN 4) B_r [a0,a1,some (.ob p),some (.ob q),o4,some (.bl false),o6] O=.nx [a0,a1,some (.ob p),some (.ob q),o4',some (.bl ch),o6'] O':=by
   rw[fW,ek,fX,e]
  unfold B_n;rw[sq (dR (m_c (d:=.bl false)))];show iW 3 _ [a0,a1,some (.ob p),some (.ob q),o4,some (.bl false),o6] O=_;unfold iW;show(match O[q]? with | some (.dt _)=>_ | _=>Fl.no)=_;rw[hq];dsimp only;rw[ef];dsimp only;rw[hq2]
 ·rw[zm (Ne.symm hpq)];exact g1
 ·rw[zm (Ne.symm j2),g2 j j1,zm (Ne.symm j2)]
theorem Zv(C:Cx ns ms es d)(hml:ms.length<=40){nl:List Nd}{a:Nat}(hnl:∀v∈ns,v.1=(a:Int)->v∈nl)(hnl2:∀v∈nl,v∈ns/\v.1=(a:Int))(hpq:p≠q)(a0 a1:Option D):∀(j k f:Nat) (O:aj) (cur:Tb) (o4 o6:Option D),ns.length<=k+j->j+2<=f->O[p]?=some (.dt (tab cur))->O[q]?=some (.dt (cj (mf ms) nl))->St ns ms es d a cur->(∀v∈ns,(a:Int)<v.1->Fi d cur v)->Pk ns d a k cur->cur.length<1000000 ->
  ∃O' cur' o4' o5' o6',fQ (bW (aa 5)) B_n f [a0,a1,some (.ob p),some (.ob q),o4,some (.bl true),o6] O=.nx [a0,a1,some (.ob p),some (.ob q),o4',o5',o6'] O'/\O'[p]?=some (.dt (tab cur'))/\(∀j,j≠p->j≠q->O'[j]?=O[j]?)/\Snd ms es cur'/\(∀v∈ns,(a:Int)<=v.1->Fi d cur' v)/\ky cur'=ky cur:=by
 intro j
 induction j with
 |zero =>
  intro k f O cur o4 o6 hk hf hp hq S hhi hP hl;obtain⟨f',rfl⟩:∃f',f=f'+2:=⟨f - 2,by omega⟩
  obtain⟨O',cur',o4',o6',ch,e,g1,g2,g3,g4,g5,g6,g7,g8,g9⟩:=Lr C hml hpq a0 a1 o4 (some (.bl true)) o6 hp hq S.so (λn hn=>gG.mp (S.dm n (hnl2 n hn).1 (by have:=(hnl2 n hn).2;omega))) (λn hn m hm=>by
   have hh:=oG.mp hm;have q':=C.mo m hh.1
   have:=(hnl2 n hn).2
   have h2:=hh.2
   exact gG.mp (S.dm _ q'.2.1 (by have:=q'.2.2.1;rw[h2] at this;omega))) hl
  have hfin:∀v∈ns,(a:Int)<=v.1->Fi d cur v:=λv hv ha=>hP v hv ha (zL (wB hv) hk)
  have hch:=g9 λv hv=>hfin v (hnl2 v hv).1 (by have:=(hnl2 v hv).2;omega)
  rw[hch] at e;refine⟨O',cur',o4',some (.bl false),o6',?_,g1,g3,g4,λv hv ha=>g5 v (hfin v hv ha),g6⟩;rw[wz rfl e];exact Dn rfl
 |succ j ih =>
  intro k f O cur o4 o6 hk hf hp hq S hhi hP hl;obtain⟨f',rfl⟩:∃f',f=f'+1:=⟨f - 1,by omega⟩
  obtain⟨O',cur',o4',o6',ch,e,g1,g2,g3,g4,g5,g6,g7,g8,g9⟩:=Lr C hml hpq a0 a1 o4 (some (.bl true)) o6 hp hq S.so (λn hn=>gG.mp (S.dm n (hnl2 n hn).1 (by have:=(hnl2 n hn).2;omega))) (λn hn m hm=>by
   have hh:=oG.mp hm;have q':=C.mo m hh.1
   have:=(hnl2 n hn).2
   have h2:=hh.2
   exact gG.mp (S.dm _ q'.2.1 (by have:=q'.2.2.1;rw[h2] at this;omega))) hl
  have hstep:∀i,Pk ns d a i cur->Pk ns d a (i+1) cur':=λi hPi v hv ha hr=>by
   by_cases z:v.1=(a:Int)
   ·rcases ready C S hPi hv ha hr with h | h
    ·exact g5 v h
    ·exact g7 v (hnl v hv z) h
   ·exact g5 v (hhi v hv (by omega))
  cases ch with
  |false =>
   have ec:=g8 rfl
   have hall:∀i,Pk ns d a (k+i) cur:=λi=>by
    induction i with
    |zero=>exact hP
    |succ i ih2 =>
     have:=hstep _ ih2
     rw[ec] at this;exact this
   refine⟨O',cur',o4',some (.bl false),o6',?_,g1,g3,g4,λv hv ha=>?_,g6⟩
   ·obtain⟨f2,rfl⟩:∃f2,f'=f2+1:=⟨f' - 1,by omega⟩;rw[wz rfl e];exact Dn rfl
   ·rw[ec];exact hall (j+1) v hv ha (zL (wB hv) hk)
  |true =>
   have S':St ns ms es d a cur':=⟨g4,λv hv ha=>gG.mpr (by rw[g6];exact gG.mp (S.dm v hv ha)),λv hv ha he=>g5 v (S.en v hv ha he)⟩;obtain⟨O2,cur2,p4,p5,p6,e2,k1,k2,k3,k4,k5⟩:=ih (k+1) f' O' cur' o4' o6' (by omega) (by omega) g1 g2 S' (λv hv ha=>g5 v (hhi v hv ha)) (hstep k hP) (by rw[<-gH,g6,gH];exact hl);refine⟨O2,cur2,p4,p5,p6,?_,k1,λj j1 j2=>(k2 j j1 j2).trans (g3 j j1 j2),k3,k4,k5.trans g6⟩;rw[wz rfl e];exact e2
end
theorem sub_len{α:Type}[DecidableEq α]:∀(l n:List α),l.Nodup->(∀x∈l,x∈n)->l.length<=n.length
 | [],_,_,_=>Nat.zero_le _
 |x::l,n,hd,h=>by
  have hx:=h x zr;obtain⟨h1,h2⟩:=List.nodup_cons.mp hd
  have:=sub_len l (n.erase x) h2 (λy hy=>(List.mem_erase_of_ne (λe:y=x=>h1 (e ▸ hy))).mpr (h y (zD _ hy)))
  rw[List.length_erase_of_mem hx] at this;have hp:0<n.length:=List.length_pos_of_mem hx;rw[zI];omega
theorem Ext.len{B O:aj}(h:Ext B O):B.length<=O.length:=by
 cases hb:B.length with
 |zero=>exact Nat.zero_le _
 |succ k =>
  have e:B[k]?=some B[k]:=zu (by omega)
  have:=(zl.mp (h k _ e)).1
  omega
theorem Ext.app{B O:aj}(h:Ext B O)(R:aj):Ext B (O++R):=λj x hj=>dq (h j x hj)
theorem Ext.trans{A B O:aj}(h:Ext A B)(h2:Ext B O):Ext A O:=λj x hj=>h2 j x (h j x hj)
structure PrS(ns:List Nd)(ms:List Mv)(es:List Nd)(d:Nd->Option Int)(a:Nat)(cur:Tb):Prop where
 so:Snd ms es cur
 fi:∀v∈ns,(a:Int)<=v.1->Fi d cur v
 nd:(ky cur).Nodup
 km:∀v,v∈ky cur↔v∈ns/\(a:Int)<=v.1
theorem PrS.len{ns:List Nd}{ms:List Mv}{es:List Nd}{d:Nd->Option Int}{a:Nat}{cur:Tb}(P:PrS ns ms es d a cur):cur.length<=ns.length:=by
 rw[<-gH]
 exact sub_len _ _ P.nd λv hv=>((P.km v).mp hv).1
theorem Dr{sz:List Int}{v:Nd}{a:Nat}(h:v∈ndk sz sz.length)(e:v.1=(a:Int)):v∈lay sz a:=by
 obtain⟨b,h1,h2⟩:=qg.mp h
 have:=mD h2
 have hb:b=a:=by omega
 rw[<-hb];exact h2
theorem sY{sz:List Int}{v:Nd}(h:v∈ndk sz sz.length):0<=v.1/\v.1<sz.length:=by
 obtain⟨b,h1,h2⟩:=qg.mp h
 have:=mD h2
 omega
section
variable {B:aj}{t:Nat}{sz:List Int}{ms:List Mv}{es:List Nd}{p q:Nat}{d:Nd->Option Int}
theorem Zw(T:Tr B t sz ms es)(C:Cx (ndk sz sz.length) ms es d)(hml:ms.length<=40)(h5:sz.length<=5)(hsz:∀s∈sz,1<=s/\s<=3){a:Nat}(ha:a<sz.length){O:aj}{cur:Tb}(hE:Ext B O)(bp:B.length<=p)(hp:O[p]?=some (.dt (tab cur)))(P:PrS (ndk sz sz.length) ms es d (a+1) cur):
  ∃O' cur',uW [.ob t,.int a,.ob p] O=.ok .non O'/\O'[p]?=some (.dt (tab cur'))/\(∀(j:Nat) (x:Ob),j≠p->O[j]?=some x->O'[j]?=some x)/\PrS (ndk sz sz.length) ms es d a cur':=by
 have hnl:=oE sz hsz sz.length;have hcl:=P.len;have hpl:=(zl.mp hp).1;have hpq:p≠O.length:=zC hpl;have bq:=hE.len;have hp1:(O++[Ob.dt []])[p]?=some (.dt (tab cur)):=dq hp;have hq1:(O++[Ob.dt []])[O.length]?=some (.dt (cj (mf ms) [])):=lB;have hE1:=hE.app [Ob.dt []]
 have hin:∀v∈lay sz a,v∈ndk sz sz.length/\v.1=(a:Int):=λv hv=>⟨qg.mpr ⟨a,ha,hv⟩,mD hv⟩
 have hll:(lay sz a).length<=15:=zH (sub_len _ _ (vV sz a) λv hv=>(hin v hv).1) (by omega)
 obtain⟨O1,cur1,o4,e1,f1,f2,f3,f4,f5⟩:=Lp T hpq bp bq (some (.int a)) none none (lay sz a) [] (O++[Ob.dt []]) cur none (vV sz a) (λv hv z=>by
  have h1:=((P.km v).mp z).2;have h2:=mD hv
  omega) hE1 hp1 hq1 (by omega) (by rw[jg];omega)
 rw[zV] at f2
 have hfar:∀v,(a:Int)<v.1->lk cur1 v=lk cur v:=λv hv=>by
  rw[f4 v,if_neg];intro z
  have:=mD z
  omega
 have hnear:∀v∈ndk sz sz.length,v.1=(a:Int)->lk cur1 v=some (ini es v):=λv hv e=>by
  rw[f4 v,if_pos (Dr hv e)]
 have hhi:∀v∈ndk sz sz.length,(a:Int)<v.1->Fi d cur1 v:=λv hv h=>by
  unfold Fi;rw[hfar v h];exact P.fi v hv (by omega)
 have S:St (ndk sz sz.length) ms es d a cur1:=by
  refine⟨λv c hc=>?_,λv hv h=>?_,λv hv h he=>?_⟩
  ·rw[f4 v] at hc;split at hc
   ·have hc':=zE hc;unfold ini at hc';split at hc'
    ·rename_i z;rw[<-zE hc'];exact Wk.fin (ji z)
    ·cases hc'
   ·exact P.so v c hc
  ·by_cases e:v.1=(a:Int)
   ·rw[hnear v hv e];rfl
   ·have:=hhi v hv (by omega)
    unfold Fi at this;rw[this];rfl
  ·by_cases e:v.1=(a:Int)
   ·unfold Fi;rw[hnear v hv e,C.end he];unfold ini;rw[zx he,if_pos rfl]
   ·exact hhi v hv (by omega)
 obtain⟨O2,cur2,p4,p5,p6,e2,g1,g2,g3,g4,g5⟩:=Zv C hml (λv hv e=>Dr hv e) hin hpq (some (.ob t)) (some (.int a)) (ndk sz sz.length).length 0 fuP O1 cur1 o4 none (by omega) (zH (show(ndk sz sz.length).length+2<=17 by omega) (Nat.le_of_ble_eq_true rfl)) f1 f2 S hhi (λv _ _ h=>absurd h (Nat.not_lt_zero _)) (by rw[<-gH,f5,zv,gH];omega);refine⟨O2,cur2,?_,g1,λj x hj hx=>?_,g3,g4,?_,λv=>?_⟩
 ·have hnew:dJ [some (.ob t),some (.int a),some (.ob p),none,none,none,none] O=.ok (.ob O.length) (O++[Ob.dt []]):=rfl;have s2:(cg (bA "Listed" "nodes_at" lg (mG (aa 0)) (ak (aa 1) au))) [some (.ob t),some (.int a),some (.ob p),some (.ob O.length),none,none,none] (O++[Ob.dt []])=.ok ((lay sz a).map dN) (O++[Ob.dt []]):=iK ((gD rfl (T.ext hE1).ob rfl (ma1 rfl)).trans (Ln (T.ext hE1) ha hsz))
  have s3:cu (cg (bA "Listed" "nodes_at" lg (mG (aa 0)) (ak (aa 1) au))) (mgN 4) B_1 [some (.ob t),some (.int a),some (.ob p),some (.ob O.length),none,none,none] (O++[Ob.dt []])=.nx [some (.ob t),some (.int a),some (.ob p),some (.ob O.length),o4,none,none] O1:=by
   rw[fW,s2,fX,e1]
  unfold B_1 at s3;unfold B_n B_r at e2;show bu (uV [some (.ob t),some (.int a),some (.ob p),none,none,none,none] O)=_;unfold uV;rw[sq (fO hnew)];show bu (aB _ _ [some (.ob t),some (.int a),some (.ob p),some (.ob O.length),none,none,none] (O++[Ob.dt []]))=_;rw[sq s3,sq (dR (m_c (d:=.bl true)))];show bu (j0 fuP _ _ [some (.ob t),some (.int a),some (.ob p),some (.ob O.length),o4,some (.bl true),none] O1)=_;unfold j0;rw[e2];rfl
 ·have hjl:=(zl.mp hx).1;rw[g2 j hj (by omega),f3 j hj (by omega)];exact dq hx
 ·rw[g5,f5]
  exact jc.mpr ⟨P.nd,vV sz a,λu hu w hw z=>by
   have h1:=((P.km u).mp hu).2;have h2:=mD hw;rw[<-z] at h2
   omega⟩
 ·rw[g5,f5,zA,P.km v];constructor
  ·rintro(⟨h1,h2⟩ | h)
   ·exact⟨h1,by omega⟩
   ·exact⟨(hin v h).1,by have:=(hin v h).2;omega⟩
  ·rintro⟨h1,h2⟩
   by_cases e:v.1=(a:Int)
   ·exact .inr (Dr h1 e)
   ·exact .inl ⟨h1,by omega⟩
theorem Ls(T:Tr B t sz ms es)(C:Cx (ndk sz sz.length) ms es d)(hml:ms.length<=40)(h5:sz.length<=5)(hsz:∀s∈sz,1<=s/\s<=3)(bp:B.length<=p):∀(b:Nat) (O:aj) (cur:Tb) (o2:Option D),b<=sz.length->Ext B O->O[p]?=some (.dt (tab cur))->PrS (ndk sz sz.length) ms es d b cur ->
  ∃O' cur' o2',bJ (mgN 2) B_p (iV ((b:Int) - 1) b) [some (.ob t),some (.ob p),o2] O=.nx [some (.ob t),some (.ob p),o2'] O'/\O'[p]?=some (.dt (tab cur'))/\(∀(j:Nat) (x:Ob),j≠p->O[j]?=some x->O'[j]?=some x)/\PrS (ndk sz sz.length) ms es d 0 cur'
 | 0,O,cur,o2,_,_,hp,hP=>⟨O,cur,o2,rfl,hp,λ_ _ _ h=>h,hP⟩
 |a+1,O,cur,o2,hb,hE,hp,hP=>by
  obtain⟨O1,cur1,e,g1,g2,hP1⟩:=Zw T C hml h5 hsz (show a<sz.length by omega) hE bp hp hP
  have hE1:Ext B O1:=λj x hj=>g2 j x (by have:=(zl.mp hj).1;omega) (hE j x hj)
  obtain⟨O',cur',o2',e2,k1,k2,k3⟩:=Ls T C hml h5 hsz bp a O1 cur1 (some (.int (a:Int))) (by omega) hE1 g1 hP1;refine⟨O',cur',o2',?_,k1,λj x hj hx=>k2 j x hj (g2 j x hj hx),k3⟩;rw[Zk];unfold bJ;rw[mg_n];dsimp only
  have eb:B_p [some (.ob t),some (.ob p),some (.int (a:Int))] O=.nx [some (.ob t),some (.ob p),some (.int (a:Int))] O1:=by
   unfold B_p;rw[Wx,cI (maS rfl (maS rfl (ma1 rfl))),e,Wz]
  show(match B_p [some (.ob t),some (.ob p),some (.int (a:Int))] O with
   | .nx ρ' O'=>bJ _ _ (iV ((a:Int) - 1) a) ρ' O' | .ct ρ' O'=>bJ _ _ (iV ((a:Int) - 1) a) ρ' O' | .bk ρ' O'=>Fl.nx ρ' O' | r=>r)=_
  rw[eb];exact e2
theorem Dt(T:Tr B t sz ms es)(C:Cx (ndk sz sz.length) ms es d)(hml:ms.length<=40)(h1:1<=sz.length)(h5:sz.length<=5)(hsz:∀s∈sz,1<=s/\s<=3){O:aj}(hE:Ext B O):∃O' cur,lX [.ob t] O=.ok (.ob O.length) O'/\O'[O.length]?=some (.dt (tab cur))/\Ext O O'/\PrS (ndk sz sz.length) ms es d 0 cur:=by
 have hE1:=hE.app [Ob.dt []]
 obtain⟨O',cur,o2,e,g1,g2,g3⟩:=Ls (p:=O.length) T C hml h5 hsz hE.len sz.length (O++[Ob.dt []]) [] none (zd _) hE1 (lB (o:=.dt (tab []))) ⟨λv c h=>(nomatch h),λv hv h=>by
   have:=sY hv
   omega,List.nodup_nil,λv=>⟨λh=>(nomatch h),λ⟨hv,h⟩=>by
   have:=sY hv
   omega⟩⟩
 refine⟨O',cur,?_,g1,λj x hx=>?_,g3⟩
 ·have er:uz (ak (bA "Listed" "last_at" pM (mG (aa 0)) au) (ak (mUn eO (mC (.int 1))) (ak (mUn eO (mC (.int 1))) au))) [some (.ob t),some (.ob O.length),none] (O++[Ob.dt []])=.ok (iV ((sz.length:Int) - 1) sz.length) (O++[Ob.dt []]):=by
   unfold uz;rw[maS ((gD rfl (T.ext hE1).ob rfl rfl).trans (Kw (T.ext hE1))) (maS (x:=.int (-1)) rfl (ma1 (x:=.int (-1)) rfl))];dsimp only[aD];rw[if_pos ⟨rfl,by omega,by omega,by decide,by decide⟩];congr 2;omega
  unfold B_p at e;show bu (uX [some (.ob t),none,none] O)=_;unfold uX;rw[sq (fO (show dJ [some (.ob t),none,none] O=.ok (.ob O.length) (O++[Ob.dt []]) from rfl))];show bu (aB _ _ [some (.ob t),some (.ob O.length),none] (O++[Ob.dt []]))=_;rw[cz,fW,er,fX,e,cP];rfl
 ·have:=(zl.mp hx).1
  exact g2 j x (by omega) (dq hx)
theorem Zx{O:aj}{ps:Tb}{ms:List Mv}{c:Int}(hp:O[p]?=some (.dt (tab ps)))(hm:∀m∈ms,(lk ps m.other).isSome=true)(hl:ms.length<=1000)(hc:lc ps ms=some c):
  ∃m,ms.find? (λm=>decide (co ps m=lc ps ms))=some m/\m∈ms/\co ps m=some c/\rY [.lst (ms.map d3),.ob p] O=.ok (d3 m) O:=by
 obtain⟨x,hx,hxc⟩:∃x∈ms,co ps x=some c:=by
  rcases wA _ _ _ hc with h | h
  ·cases h
  ·exact List.mem_filterMap.mp h
 obtain⟨m,em⟩:∃m,ms.find? (λm=>decide (co ps m=lc ps ms))=some m:=by
  cases e:ms.find? (λm=>decide (co ps m=lc ps ms)) with
  |some m=>exact⟨m,rfl⟩
  |none =>
   have:=List.find?_eq_none.mp e x hx
   rw[hxc,hc] at this;simp at this
 have hmm:=List.mem_of_find?_eq_some em
 have hmc:co ps m=some c:=by
  have:=List.find?_some em
  rw[<-hc];exact ji this
 refine⟨m,em,hmm,hmc,?_⟩;have s1:aO lr (ak (aa 0) (ak (aa 1) au)) [some (.lst (ms.map d3)),some (.ob p),none] O=.ok (pD (lc ps ms)) O:=(cI (maS rfl (ma1 rfl))).trans (Dm hp hm hl)
 have c1:dw (mgN 0) (aJ (aq gEq (aO lq (ak (aa 0) (ak (aa 1) au))) (aa 2))) (aa 0) (ms.map d3) [none,some (.ob p),some (pD (lc ps ms))] O []=.ok ((ms.filter λm=>decide (co ps m=lc ps ms)).map d3) O:=by
  rw[sS (λρ=>∃a,ρ=[a,some (.ob p),some (pD (lc ps ms))]) d3 d3 (λm=>decide (co ps m=lc ps ms)) ms _ _ _ ⟨none,rfl⟩ (by
   rintro m' hm' ρ ⟨a,rfl⟩
   exact⟨_,rfl,⟨_,rfl⟩,d9 (bh ((cI (maS rfl (ma1 rfl))).trans (KY hp (hm m' hm'))) (y:=pD (lc ps ms)) rfl (by
    rw[show bz O (pD (co ps m'))=pD (co ps m') by cases co ps m'<;>rfl,show bz O (pD (lc ps ms))=pD (lc ps ms) by cases lc ps ms<;>rfl,Zn])),rfl⟩)]
  rw[zV]
 have s2:cN (cg (aa 0)) 1 [1,2] (mgN 0) (aJ (aq gEq (aO lq (ak (aa 0) (ak (aa 1) au))) (aa 2))) (aa 0) [some (.lst (ms.map d3)),some (.ob p),some (pD (lc ps ms))] O=.ok (.lst ((ms.filter λm=>decide (co ps m=lc ps ms)).map d3)) O:=sI (iK rfl) (by rw[zj];omega) rfl c1
 have s3:aq gIx (cN (cg (aa 0)) 1 [1,2] (mgN 0) (aJ (aq gEq (aO lq (ak (aa 0) (ak (aa 1) au))) (aa 2))) (aa 0)) (mC (.int 0)) [some (.lst (ms.map d3)),some (.ob p),some (pD (lc ps ms))] O=.ok (d3 m) O:=bh s2 m_c (by
  rw[lQ,dj,lV]
  exact(pL (j:=0)).trans (K6 _ d3 (λ_=>true) ms m em))
 show bu (uZ [some (.lst (ms.map d3)),some (.ob p),none] O)=_;unfold uZ;rw[sq (dR s1),fM];exact congrArg (λr=>bu (kJ r)) s3
end
def Wy(ms:List Mv)(es:List Nd):Nd->List Mv->Int->Prop
 |v,[],c=>v∈es/\c=0
 |v,m::l,c=>m∈ms/\m.one=v/\∃c',c=m.cost+c'/\Wy ms es m.other l c'
theorem Cx.mu_lt{ns:List Nd}{ms:List Mv}{es:List Nd}{d:Nd->Option Int}(C:Cx ns ms es d){m:Mv}{c':Int}(h:m∈ms)(h1:d m.other=some c')(h2:d m.one=some (m.cost+c')):mu d m.other<mu d m.one:=by
 obtain⟨_,_,q3,q4,q5⟩:=C.mo m h;unfold mu;rw[h1,h2];show c' - m.other.1<m.cost+c' - m.one.1
 by_cases z:m.one.1=m.other.1
 ·have:=q5 z;omega
 ·omega
def B_y:MS:=(aB (aH 5 (aO rY (ak (bA "Listed" "moves_from" fY (mG (aa 0)) (ak (aa 2) au)) (ak (aa 1) au))))
  (aB (kh (aa 4) (aq gIx (aa 5) (mC (.int 1))))
  (aH 2 (aq gIx (aa 5) (mC (.int 2))))))
section
variable {B:aj}{t:Nat}{sz:List Int}{ms:List Mv}{es:List Nd}{p q w:Nat}{d:Nd->Option Int}{ns:List Nd}
theorem Lw(T:Tr B t sz ms es)(C:Cx ns ms es d)(hml:ms.length<=40){ps:Tb}(hso:Snd ms es ps)(hfi:∀v∈ns,Fi d ps v)(hpw:p≠w)(bw:B.length<=w)(a3:Option D):∀(f:Nat) (n:Nd) (c:Int) (nm:List D) (O:aj) (o5:Option D),n∈ns->d n=some c->rk ns d n<f->Ext B O->O[p]?=some (.dt (tab ps))->O[w]?=some (.ml nm)->nm.length+rk ns d n<1000000 ->
  ∃l n' o5' O',fQ (dH (bW (bA "Listed" "is_end" fC (mG (aa 0)) (ak (aa 2) au)))) B_y f [some (.ob t),some (.ob p),some (dN n),a3,some (.ob w),o5] O=.nx [some (.ob t),some (.ob p),some (dN n'),a3,some (.ob w),o5'] O'/\O'[w]?=some (.ml (nm++l.map λm=>.str m.name))/\(∀j,j≠w->O'[j]?=O[j]?)/\Wy ms es n l c/\l.length<=rk ns d n
 | 0,n,c,nm,O,o5,_,_,hf,_,_,_,_=>absurd hf (Nat.not_lt_zero _)
 |f+1,n,c,nm,O,o5,hn,hc,hf,hE,hp,hw,hl=>by
  have te:dH (bW (bA "Listed" "is_end" fC (mG (aa 0)) (ak (aa 2) au))) [some (.ob t),some (.ob p),some (dN n),a3,some (.ob w),o5] O=.ok (!decide (n∈es)) O:=by
   rw[Ig,rG,(gD rfl (T.ext hE).ob rfl (ma1 rfl)).trans (wu (T.ext hE) n),aD,uG,uI,uH,aD]
  by_cases hfin:n∈es
  ·rw[zx hfin] at te;refine⟨[],n,o5,O,by rw[Dn te],by simpa using hw,λ_ _=>rfl,⟨hfin,?_⟩,Nat.zero_le _⟩
   have:=C.end hfin
   rw[hc] at this;exact zE this
  ·rw[zp hfin] at te
   have hR:Rdy ms d ps n:=by
    rcases C.succ hc with⟨z,_⟩ | ⟨m,h1,h2,c',h3,h4,h5⟩
    ·exact absurd z hfin
    ·exact⟨m,h1,h2,c',h3,by rw[hc,h4],hfi _ (C.mo m h1).2.1⟩
   have hL:lc ps (mf ms n)=some c:=(Lj C hso hR).trans hc
   have hm:∀m∈mf ms n,(lk ps m.other).isSome=true:=λm hm=>by
    have:=hfi _ (C.mo m (oG.mp hm).1).2.1
    unfold Fi at this;rw[this];rfl
   obtain⟨m,_,hmm,hmc,e2⟩:=Zx hp hm (zH (List.length_filter_le _ _) (by omega)) hL;obtain⟨m1,m2⟩:=oG.mp hmm;have ho:=(C.mo m m1).2.1;have hfo:=hfi _ ho;unfold Fi at hfo
   obtain⟨c',hc',hcc⟩:∃c',d m.other=some c'/\c=m.cost+c':=by
    unfold co at hmc;rw[hfo] at hmc;split at hmc
    ·rename_i b e;exact⟨b,zE e,(zE hmc).symm⟩
    ·cases hmc
   have hmu:=C.mu_lt m1 hc' (by rw[m2,hc,hcc]);rw[m2] at hmu;have hrk:=K9 ho hmu;have s1:aO rY (ak (bA "Listed" "moves_from" fY (mG (aa 0)) (ak (aa 2) au)) (ak (aa 1) au)) [some (.ob t),some (.ob p),some (dN n),a3,some (.ob w),o5] O=.ok (d3 m) O:=(cI (maS ((gD rfl (T.ext hE).ob rfl (ma1 rfl)).trans (wj (T.ext hE) n)) (ma1 rfl))).trans e2
   have eb:B_y [some (.ob t),some (.ob p),some (dN n),a3,some (.ob w),o5] O=.nx [some (.ob t),some (.ob p),some (dN m.other),a3,some (.ob w),some (d3 m)] (O.set w (.ml (nm++[.str m.name]))):=by
    unfold B_y;rw[sq (dR s1)];show aB _ _ [some (.ob t),some (.ob p),some (dN n),a3,some (.ob w),some (d3 m)] O=_;rw[sq (v8 (n:=w) (d:=.str m.name) rfl hw (bh rfl rfl rfl) (by omega))];rfl
   obtain⟨l,n',o5',O',e3,g1,g2,w3,l3⟩:=Lw T C hml hso hfi hpw bw a3 f m.other c' (nm++[.str m.name]) (O.set w (.ml (nm++[.str m.name]))) (some (d3 m)) ho hc' (by omega) (hE.set bw _) (by rw[zm (Ne.symm hpw)];exact hp) (fP hw) (by rw[zv,jo];omega);refine⟨m::l,n',o5',O',?_,?_,λj hj=>?_,⟨m1,m2,c',hcc,w3⟩,by rw[zI];omega⟩
   ·rw[wz te eb,e3]
   ·rw[g1,zM];rfl
   ·rw[g2 j hj,zm (Ne.symm hj)]
theorem Zy(T:Tr B t sz ms es)(C:Cx (ndk sz sz.length) ms es d)(hml:ms.length<=40)(h1:1<=sz.length)(h5:sz.length<=5)(hsz:∀s∈sz,1<=s/\s<=3){O:aj}(hE:Ext B O):
  ∃O',Ext O O'/\((d (0,0)=none/\nY [.ob t] O=.ok .non O')\/∃c w l,d (0,0)=some c/\O.length<=w/\nY [.ob t] O=.ok (.tup [.int c,.ob w]) O'/\O'[w]?=some (.ml (l.map λm=>.str m.name))/\Wy ms es (0,0) l c/\l.length<=15):=by
 obtain⟨O1,ps,e1,g1,g2,P⟩:=Dt T C hml h1 h5 hsz hE;have h0:=J5 sz h1 hsz;have hE1:=hE.trans g2
 have hfi:∀v∈ndk sz sz.length,Fi d ps v:=λv hv=>P.fi v hv (by have:=sY hv;omega)
 have s1:aO lX (ak (aa 0) au) [some (.ob t),none,none,none,none,none] O=.ok (.ob O.length) O1:=(cI (ma1 rfl)).trans e1;have s2:bA "Listed" "first_node" nU (mG (aa 0)) au [some (.ob t),some (.ob O.length),none,none,none,none] O1=.ok (dN (0,0)) O1:=(gD rfl (T.ext hE1).ob rfl rfl).trans (Kv (T.ext hE1));have s3:aZ (aa 1) (aa 2) [some (.ob t),some (.ob O.length),some (dN (0,0)),none,none,none] O1=.ok (pD (d (0,0))) O1:=mF rfl g1 rfl (hfi _ h0)
 have pre:nY [.ob t] O=bu (aB (bj (aJ (cU (aa 3))) (aQ (mC .non)) bC) (aB (aH 4 (mMl (cD au))) (aB (j0 fuW (dH (bW (bA "Listed" "is_end" fC (mG (aa 0)) (ak (aa 2) au)))) B_y) (aQ (cM (ak (aa 3) (ak (aa 4) au)))))) [some (.ob t),some (.ob O.length),some (dN (0,0)),some (pD (d (0,0))),none,none] O1):=by
  unfold B_y;show bu (u0 [some (.ob t),none,none,none,none,none] O)=_;unfold u0;rw[sq (fO s1)];show bu (aB _ _ [some (.ob t),some (.ob O.length),none,none,none,none] O1)=_;rw[sq (dR s2)];show bu (aB _ _ [some (.ob t),some (.ob O.length),some (dN (0,0)),none,none,none] O1)=_;rw[sq (dR s3)];rfl
 cases hd:d (0,0) with
 |none =>
  refine⟨O1,g2,.inl ⟨rfl,?_⟩⟩;rw[pre,hd];rfl
 |some c =>
  have hE2:=hE1.app [Ob.ml []]
  have hne:O.length≠O1.length:=by
   have:=(zl.mp g1).1
   omega
  have hnl:=oE sz hsz sz.length;have hr:=wB (d:=d) h0;obtain⟨l,n',o5',O',e3,k1,k2,k3,k4⟩:=Lw (p:=O.length) (w:=O1.length) T C hml P.so hfi hne hE1.len (some (.int c)) fuW (0,0) c [] (O1++[Ob.ml []]) none h0 hd (zL hr (zH (show(ndk sz sz.length).length<=15 by omega) (Nat.le_of_ble_eq_true rfl))) hE2 (dq g1) lB (by rw[jg];omega);refine⟨O',λj x hj=>?_,.inr ⟨c,O1.length,l,rfl,g2.len,?_,k1,k3,by omega⟩⟩
  ·have h2:=g2 j x hj
   have:=(zl.mp h2).1
   rw[k2 j (by omega)];exact dq h2
  ·rw[pre,hd,sq (show bj (aJ (cU (aa 3))) (aQ (mC .non)) bC [some (.ob t),some (.ob O.length),some (dN (0,0)),some (pD (some c)),none,none] O1=.nx [some (.ob t),some (.ob O.length),some (dN (0,0)),some (.int c),none,none] O1 from rfl)];rw[sq (fO (show mMl (cD au) [some (.ob t),some (.ob O.length),some (dN (0,0)),some (.int c),none,none] O1=.ok (.ob O1.length) (O1++[Ob.ml []]) from rfl))];show bu (aB (j0 fuW _ _) _ [some (.ob t),some (.ob O.length),some (dN (0,0)),some (.int c),some (.ob O1.length),none] (O1++[Ob.ml []]))=_;unfold j0;rw[sq e3];rfl
end
def qw:MS:=(aB (cV (aa 3) (aa 4) (mC .non))
  (bj (aJ (aq (gm false) (aa 4) (aa 2))) (cV (aa 3) (aa 4) (mC (.int 0))) bC))
def sZ:MS:=(aB (aH 10 (aZ (aa 3) (aa 9)))
  (bj (cH (aJ (di (aa 10))) (du (aJ (cU (aZ (aa 3) (aa 6)))) (aJ (aq gLt (aq bQ (aa 7) (aa 10)) (aZ (aa 3) (aa 6)))))) (cV (aa 3) (aa 6) (aq bQ (aa 7) (aa 10))) bC))
def gMv:MG:=(m5 4 (fD (mgN 6) (fD (mgN 7) (fD (mgN 8) (fD (mgN 9) oU)))))
def wC:MS:=cu (cg (aa 1)) gMv sZ
section
variable {ms:List Mv}{es:List Nd}{p q:Nat}{d:Nd->Option Int}{ns:List Nd}
theorem Zz{O:aj}{cur:Tb}{n:Nd}(hp:O[p]?=some (.dt (tab cur)))(hn:n∉ky cur)(hl:cur.length+1<1000000)(a0 a1 a5 a6 a7 a8 a9 a10:Option D):∃O' cur',qw [a0,a1,some (.lst (es.map dN)),some (.ob p),some (dN n),a5,a6,a7,a8,a9,a10] O=.nx [a0,a1,some (.lst (es.map dN)),some (.ob p),some (dN n),a5,a6,a7,a8,a9,a10] O'/\O'[p]?=some (.dt (tab cur'))/\(∀j,j≠p->O'[j]?=O[j]?)/\(∀u,lk cur' u=if u=n then some (ini es n) else lk cur u)/\ky cur'=ky cur++[n]:=by
 have s1:=qt (mo:=aa 3) (my:=aa 4) (mv:=mC .non) (ρ:=[a0,a1,some (.lst (es.map dN)),some (.ob p),some (dN n),a5,a6,a7,a8,a9,a10]) (n:=n) (v:=none) rfl rfl hp rfl (by omega);have k1:=Lf (v:=none) hn;have hp1:(O.set p (.dt (tab (put cur n none))))[p]?=some (.dt (tab (put cur n none))):=fP hp;have t1:=d9 (bh (a:=aa 4) (b:=aa 2) (ρ:=[a0,a1,some (.lst (es.map dN)),some (.ob p),some (dN n),a5,a6,a7,a8,a9,a10]) (O:=O.set p (.dt (tab (put cur n none)))) (x:=dN n) rfl rfl (CN false n es))
 by_cases h:n∈es
 ·rw[zx h] at t1
  have hl2:(put cur n none).length<1000000:=by have:=KR cur n none;omega
  refine⟨(O.set p (.dt (tab (put cur n none)))).set p (.dt (tab (put (put cur n none) n (some 0)))),put (put cur n none) n (some 0),?_,fP hp1,λj hj=>?_,λu=>?_,?_⟩
  ·unfold qw;rw[sq s1,lA t1];exact qt (v:=some 0) rfl rfl hp1 rfl hl2
  ·rw[zm (Ne.symm hj),zm (Ne.symm hj)]
  ·rw[oF,oF];unfold ini;rw[zx h,if_pos rfl]
   by_cases z:u=n
   ·rw[if_pos z,if_pos z]
   ·rw[if_neg z,if_neg z,if_neg z]
  ·rw[Le (by rw[k1];exact zU _ zr),k1]
 ·rw[zp h] at t1;refine⟨O.set p (.dt (tab (put cur n none))),put cur n none,?_,hp1,λj hj=>?_,λu=>?_,k1⟩
  ·unfold qw;rw[sq s1,if_no t1];rfl
  ·rw[zm (Ne.symm hj)]
  ·rw[oF];unfold ini;rw[zp h,if_neg zq]
theorem Lx(a0 a1 a5 a6 a7 a8 a9 a10:Option D):∀(rest:List Nd) (O:aj) (cur:Tb) (o4:Option D),rest.Nodup->(∀n∈rest,n∉ky cur)->O[p]?=some (.dt (tab cur))->cur.length+rest.length<1000000 ->
  ∃O' cur' o4',bJ (mgN 4) qw (rest.map dN) [a0,a1,some (.lst (es.map dN)),some (.ob p),o4,a5,a6,a7,a8,a9,a10] O=.nx [a0,a1,some (.lst (es.map dN)),some (.ob p),o4',a5,a6,a7,a8,a9,a10] O'/\O'[p]?=some (.dt (tab cur'))/\(∀j,j≠p->O'[j]?=O[j]?)/\(∀u,lk cur' u=if u∈rest then some (ini es u) else lk cur u)/\ky cur'=ky cur++rest
 | [],O,cur,o4,_,_,hp,_=>⟨O,cur,o4,rfl,hp,λ_ _=>rfl,λu=>by simp,by rw[je]⟩
 |n::rest,O,cur,o4,hd,hk,hp,hl=>by
  rw[zI] at hl;obtain⟨O1,cur1,eb,f1,f2,f3,f4⟩:=Zz (es:=es) hp (hk n zr) (by omega) a0 a1 a5 a6 a7 a8 a9 a10;have hd':=List.nodup_cons.mp hd
  have hln:cur1.length=cur.length+1:=by rw[<-gH,f4,zv,gH];rfl
  obtain⟨O',cur',o4',e,g1,g2,g3,g4⟩:=Lx a0 a1 a5 a6 a7 a8 a9 a10 rest O1 cur1 (some (dN n)) hd'.2 (λm hm z=>by
   rw[f4] at z
   rcases zA.mp z with z | z
   ·exact hk m (zD _ hm) z
   ·exact hd'.1 (by rw[<-zz.mp z];exact hm)) f1 (by omega)
  refine⟨O',cur',o4',?_,g1,λj hj=>(g2 j hj).trans (f2 j hj),λu=>?_,by rw[g4,f4,zM];rfl⟩
  ·rw[zh];unfold bJ;rw[mg_n];dsimp only
   show(match qw [a0,a1,some (.lst (es.map dN)),some (.ob p),some (dN n),a5,a6,a7,a8,a9,a10] O with
    | .nx ρ' O'=>bJ _ _ (rest.map dN) ρ' O' | .ct ρ' O'=>bJ _ _ (rest.map dN) ρ' O' | .bk ρ' O'=>Fl.nx ρ' O' | r=>r)=_
   rw[eb];exact e
  ·rw[g3 u,f3 u]
   by_cases hm:u=n
   ·subst hm;simp[hd'.1]
   ·simp[hm]
theorem ZC{O:aj}{cur:Tb}{m:Mv}{v x:Option Int}(hp:O[p]?=some (.dt (tab cur)))(hv:lk cur m.one=some v)(hx:lk cur m.other=some x)(hl:cur.length<1000000)(a0 a1 a2 a4 a5 a10:Option D):
  sZ [a0,a1,a2,some (.ob p),a4,a5,some (dN m.one),some (.int m.cost),some (.str m.name),some (dN m.other),a10] O=.nx [a0,a1,a2,some (.ob p),a4,a5,some (dN m.one),some (.int m.cost),some (.str m.name),some (dN m.other),some (pD x)] (if better v (co cur m)=true then O.set p (.dt (tab (put cur m.one (co cur m)))) else O):=by
 have s1:aZ (aa 3) (aa 9) [a0,a1,a2,some (.ob p),a4,a5,some (dN m.one),some (.int m.cost),some (.str m.name),some (dN m.other),a10] O=.ok (pD x) O:=mF rfl hp rfl hx;have e2:aZ (aa 3) (aa 6) [a0,a1,a2,some (.ob p),a4,a5,some (dN m.one),some (.int m.cost),some (.str m.name),some (dN m.other),some (pD x)] O=.ok (pD v) O:=mF rfl hp rfl hv;unfold sZ;rw[sq (dR s1)];show bj _ _ _ [a0,a1,a2,some (.ob p),a4,a5,some (dN m.one),some (.int m.cost),some (.str m.name),some (dN m.other),some (pD x)] O=_
 cases x with
 |none =>
  have hco:co cur m=none:=by unfold co;rw[hx]
  rw[hco];refine(if_no ?_).trans ?_
  ·rw[gq];rfl
  ·show Fl.nx _ O=_;simp[better]
 |some b =>
  have hco:co cur m=some (m.cost+b):=by unfold co;rw[hx]
  rw[hco];have eA:aq bQ (aa 7) (aa 10) [a0,a1,a2,some (.ob p),a4,a5,some (dN m.one),some (.int m.cost),some (.str m.name),some (dN m.other),some (pD (some b))] O=.ok (.int (m.cost+b)) O:=JX rfl rfl;have hput:=qt (mo:=aa 3) (my:=aa 6) (v:=some (m.cost+b)) (n:=m.one) eA rfl hp rfl hl;have tA:aJ (di (aa 10)) [a0,a1,a2,some (.ob p),a4,a5,some (dN m.one),some (.int m.cost),some (.str m.name),some (dN m.other),some (pD (some b))] O=.ok true O:=rfl
  have tB:aJ (cU (aZ (aa 3) (aa 6))) [a0,a1,a2,some (.ob p),a4,a5,some (dN m.one),some (.int m.cost),some (.str m.name),some (dN m.other),some (pD (some b))] O=.ok (isNon (pD v)) O:=by
   rw[fL,rF,e2,aD,aD,fK]
  cases v with
  |none =>
   refine(lA ?_).trans ?_
   ·rw[gq,tA,aD,if_pos rfl,rH,tB,aD];rfl
   ·rw[hput];simp[better]
  |some w =>
   have tC:aJ (aq gLt (aq bQ (aa 7) (aa 10)) (aZ (aa 3) (aa 6))) [a0,a1,a2,some (.ob p),a4,a5,some (dN m.one),some (.int m.cost),some (.str m.name),some (dN m.other),some (pD (some b))] O=.ok (decide (m.cost+b<w)) O:=d9 (bh eA e2 rfl)
   have tD:cH (aJ (di (aa 10))) (du (aJ (cU (aZ (aa 3) (aa 6)))) (aJ (aq gLt (aq bQ (aa 7) (aa 10)) (aZ (aa 3) (aa 6))))) [a0,a1,a2,some (.ob p),a4,a5,some (dN m.one),some (.int m.cost),some (.str m.name),some (dN m.other),some (pD (some b))] O=.ok (decide (m.cost+b<w)) O:=by
    rw[gq,tA,aD,if_pos rfl,rH,tB,aD];exact tC
   by_cases hw:m.cost+b<w
   ·rw[zx hw] at tD;rw[lA tD,hput];simp[better,hw]
   ·rw[zp hw] at tD;rw[if_no tD];show Fl.nx _ O=_;simp[better,hw]
theorem Ly(C:Cx ns ms es d)(a0 a1 a2 a4 a5:Option D):∀(rest:List Mv) (O:aj) (cur:Tb) (a6 a7 a8 a9 a10:Option D),(∀m∈rest,m∈ms)->O[p]?=some (.dt (tab cur))->Snd ms es cur->(∀n∈ns,n∈ky cur)->cur.length<1000000 ->
  ∃O' cur' b6 b7 b8 b9 b10,bJ gMv sZ (rest.map dM) [a0,a1,a2,some (.ob p),a4,a5,a6,a7,a8,a9,a10] O=.nx [a0,a1,a2,some (.ob p),a4,a5,b6,b7,b8,b9,b10] O'/\O'[p]?=some (.dt (tab cur'))/\(∀j,j≠p->O'[j]?=O[j]?)/\Snd ms es cur'/\(∀u,Fi d cur u->Fi d cur' u)/\ky cur'=ky cur/\(∀m∈rest,∀c',d m.other=some c'->d m.one=some (m.cost+c')->Fi d cur m.other->Fi d cur' m.one)
 | [],O,cur,a6,a7,a8,a9,a10,_,hp,hs,_,_=>⟨O,cur,a6,a7,a8,a9,a10,rfl,hp,λ_ _=>rfl,hs,λ_ h=>h,rfl,λm hm=>(nomatch hm)⟩
 |m::rest,O,cur,a6,a7,a8,a9,a10,hr,hp,hs,hk,hl=>by
  have hm:=hr m zr;have q':=C.mo m hm;obtain⟨v,hv⟩:=Option.isSome_iff_exists.mp (gG.mpr (hk _ q'.1));obtain⟨x,hx⟩:=Option.isSome_iff_exists.mp (gG.mpr (hk _ q'.2.1))
  have hL:∀c,co cur m=some c->Wk ms es m.one c:=λc h=>Lh hs hm h
  have eb:=ZC hp hv hx hl a0 a1 a2 a4 a5 a10;obtain⟨O1,hO1⟩:∃O1,O1=(if better v (co cur m)=true then O.set p (.dt (tab (put cur m.one (co cur m)))) else O):=⟨_,rfl⟩;rw[<-hO1] at eb
  have k1:O1[p]?=some (.dt (tab (rl cur m.one v (co cur m)))):=by
   rw[hO1];unfold rl
   split
   ·exact fP hp
   ·exact hp
  have k2:∀j,j≠p->O1[j]?=O[j]?:=λj hj=>by
   rw[hO1]
   split
   ·rw[zm (Ne.symm hj)]
   ·rfl
  have hs1:=La (v:=v) hs hL;have hky:=Lg (L:=co cur m) hv
  have hf1:∀u,Fi d cur u->Fi d (rl cur m.one v (co cur m)) u:=λu hu=>Lb C hv hL hu
  have hln:(rl cur m.one v (co cur m)).length<1000000:=by rw[<-gH,hky,gH];exact hl
  obtain⟨O',cur',b6,b7,b8,b9,b10,e,g1,g2,g3,g4,g5,g6⟩:=Ly C a0 a1 a2 a4 a5 rest O1 (rl cur m.one v (co cur m)) (some (dN m.one)) (some (.int m.cost)) (some (.str m.name)) (some (dN m.other)) (some (pD x)) (λy hy=>hr y (zD _ hy)) k1 hs1 (λn hn=>by rw[hky];exact hk n hn) hln;refine⟨O',cur',b6,b7,b8,b9,b10,?_,g1,λj hj=>(g2 j hj).trans (k2 j hj),g3,λu hu=>g4 u (hf1 u hu),g5.trans hky,λy hy c' h1 h2 h3=>?_⟩
  ·rw[zh];unfold bJ;rw[show gMv (dM m) [a0,a1,a2,some (.ob p),a4,a5,a6,a7,a8,a9,a10]=some [a0,a1,a2,some (.ob p),a4,a5,some (dN m.one),some (.int m.cost),some (.str m.name),some (dN m.other),a10] from rfl];dsimp only;rw[eb];exact e
  ·rcases zF.mp hy with rfl | hy
   ·exact g4 _ (Ld C hs hv ((Li h1 h3).trans h2.symm))
   ·exact g6 y hy c' h1 h2 (hf1 _ h3)
theorem ZD(C:Cx ns ms es d)(hn:ns.Nodup)(hnl:ns.length<=15)(h0:∀v∈ns,0<=v.1)(O:aj):∃O' cur,vH [.lst (ns.map dN),.lst (ms.map dM),.lst (es.map dN)] O=.ok (.ob O.length) O'/\O'[O.length]?=some (.dt (tab cur))/\Ext O O'/\ky cur=ns/\∀v∈ns,Fi d cur v:=by
 obtain⟨O1,cur1,o4,e1,f1,f2,f3,f4⟩:=Lx (es:=es) (p:=O.length) (some (.lst (ns.map dN))) (some (.lst (ms.map dM))) none none none none none none ns (O++[Ob.dt []]) [] none hn (λn _ z=>(nomatch z)) (lB (o:=.dt (tab []))) (by rw[jg];omega);have hk1:ky cur1=ns:=f4
 have S1:St ns ms es d 0 cur1:=by
  refine⟨λv c hc=>?_,λv hv _=>gG.mpr (by rw[hk1];exact hv),λv hv _ he=>?_⟩
  ·rw[f3 v] at hc;split at hc
   ·have hc':=zE hc;unfold ini at hc';split at hc'
    ·rename_i z;rw[<-zE hc'];exact Wk.fin (ji z)
    ·cases hc'
   ·cases hc
  ·unfold Fi;rw[f3 v,if_pos hv,C.end he];unfold ini;rw[zx he,if_pos rfl]
 obtain⟨ρ2,O2,e2,cur2,b5,b6,b7,b8,b9,b10,rfl,g1,g2,S2,P2,g3⟩:=kY (g:=mgN 5) (b:=wC)
  (λk ρ O'=>∃(cur:Tb) (b5 b6 b7 b8 b9 b10:Option D),ρ=[some (.lst (ns.map dN)),some (.lst (ms.map dM)),some (.lst (es.map dN)),some (.ob O.length),o4,b5,b6,b7,b8,b9,b10]/\O'[O.length]?=some (.dt (tab cur))/\(∀j,j≠O.length->O'[j]?=O1[j]?)/\St ns ms es d 0 cur/\Pk ns d 0 k cur/\ky cur=ns) (d7 0 ns.length) 0 [some (.lst (ns.map dN)),some (.lst (ms.map dM)),some (.lst (es.map dN)),some (.ob O.length),o4,none,none,none,none,none,none] O1 ⟨cur1,none,none,none,none,none,none,rfl,f1,λ_ _=>rfl,S1,λv _ _ h=>absurd h (Nat.not_lt_zero _),hk1⟩ (by
   rintro i x ρ O' hi ⟨cur,b5,b6,b7,b8,b9,b10,rfl,g1,g2,S,P,g3⟩;obtain⟨O2,cur2,c6,c7,c8,c9,c10,e,k1,k2,k3,k4,k5,k6⟩:=Ly C (some (.lst (ns.map dN))) (some (.lst (ms.map dM))) (some (.lst (es.map dN))) o4 (some x) ms O' cur b6 b7 b8 b9 b10 (λm h=>h) g1 S.so (λn h=>by rw[g3];exact h) (by rw[<-gH,g3];omega);refine⟨_,rfl,_,_,.inl ?_,cur2,some x,c6,c7,c8,c9,c10,rfl,k1,λj hj=>(k2 j hj).trans (g2 j hj),⟨k3,λv hv h=>gG.mpr (by rw[k5];exact gG.mp (S.dm v hv h)),λv hv h he=>k4 v (S.en v hv h he)⟩,λv hv h hr=>?_,k5.trans g3⟩
   ·show wC [some (.lst (ns.map dN)),some (.lst (ms.map dM)),some (.lst (es.map dN)),some (.ob O.length),o4,some x,b6,b7,b8,b9,b10] O'=_;unfold wC;rw[fW,iK (l:=ms.map dM) rfl,fX,e]
   ·rcases ready C S P hv h hr with z | ⟨m,h1,h2,c',h3,h4,h5⟩
    ·exact k4 v z
    ·rw[<-h2]
     exact k6 m h1 c' h3 (by rw[h2];exact h4) h5)
 rw[iD,zP] at P2;refine⟨O2,cur2,?_,g1,λj x hx=>?_,g3,λv hv=>P2 v hv (h0 v hv) (wB hv)⟩
 ·unfold wC sZ gMv at e2;unfold qw at e1;show bu (vG [some (.lst (ns.map dN)),some (.lst (ms.map dM)),some (.lst (es.map dN)),none,none,none,none,none,none,none,none] O)=_;unfold vG;rw[sq (fO (show dJ [some (.lst (ns.map dN)),some (.lst (ms.map dM)),some (.lst (es.map dN)),none,none,none,none,none,none,none,none] O=.ok (.ob O.length) (O++[Ob.dt []]) from rfl))];show bu (aB _ _ [some (.lst (ns.map dN)),some (.lst (ms.map dM)),some (.lst (es.map dN)),some (.ob O.length),none,none,none,none,none,none,none] (O++[Ob.dt []]))=_;rw[cz,fW,iK (l:=ns.map dN) rfl,fX,e1,cP,cz,fW,qb (n:=ns.length) (by rw[oA (l:=ns.map dN) rfl,zj]) (by omega),fX,e2,cP]
  rfl
 ·have:=(zl.mp hx).1
  rw[g2 j (by omega),f2 j (by omega)];exact dq hx
end
theorem ZF{α:Type}:∀l:List α,j5 [.lst (l.map λ_=>.bl true)]=some (.bl true):=λl=>by
 have:∀l:List α,j4 (l.map λ_=>D.bl true)=some (l.map λ_=>true):=λl=>by
  induction l with
  |nil=>rfl
  |cons x l ih =>
   show(j4 (l.map λ_=>D.bl true)).map (true :: ·)=_;rw[ih];rfl
 show(j4 (l.map λ_=>D.bl true)).map (λbs=>D.bl (bs.all id))=_;rw[this l];show some (D.bl ((l.map λ_=>true).all id))=_;congr 2;rw[jq];intro x hx;obtain⟨y,_,rfl⟩:=zX.mp hx;rfl
theorem tE{a b:L2.M D}{ρ:aA}{O:aj}{r:Res D}(ha:a ρ O=.ok (.bl true) O)(hb:b ρ O=r):gh a b ρ O=r:=by
 unfold gh;rw[ha];exact hb
theorem wD{α:Type}{m:L2.M (List D)}{own:Nat}{cap:List Nat}{g:MG}{e:L2.M D}{ρ ρ0:aA}{O O1:aj}(Pv:aA->Prop)(f:α->D)(xs:List α)(h:m ρ O=.ok (xs.map f) O1)(hl:xs.length<=1000000)(h0:iT own cap ρ=ρ0)(hP:Pv ρ0)(hs:∀x∈xs,∀ρ,Pv ρ->∃ρ1,g (f x) ρ=some ρ1/\Pv ρ1/\e ρ1 O1=.ok (.bl true) O1):bB j5 (ak (cN m own cap g eY e) au) ρ O=.ok (.bl true) O1:=by
 have ec:=rM (g:=g) (t:=eY) (m:=e) Pv f (λ_=>D.bl true) xs ρ0 O1 [] hP λx hx ρ hρ=>by
  obtain⟨ρ1,a1,a2,a3⟩:=hs x hx ρ hρ;exact⟨ρ1,a1,a2,rfl,a3⟩
 rw[zV] at ec
 have e2:cN m own cap g eY e ρ O=.ok (.lst (xs.map λ_=>D.bl true)) O1:=by
  rw[rK,h,aD,if_pos (by rw[zj];exact hl),h0,ec,aD]
 rw[pK,CJ e2,aD];show ofO (j5 [.lst (xs.map λ_=>D.bl true)]) O1=_;rw[ZF,d8]
theorem Lz(i:Int)(O:aj):pU [.int i] O=.ok (.bl true) O:=rfl
theorem ZG(k:Nat)(i:Int)(O:aj):lY (k+1) [.int i,.int i] O=.ok (.bl true) O:=by
 show bu (pR (lY k) [some (.int i),some (.int i)] O)=_;unfold pR;rw[sq (show bj (cH (bW (fH "tuple" (aa 0))) (bW (fH "tuple" (aa 1)))) _ bC [some (.int i),some (.int i)] O=.nx [some (.int i),some (.int i)] O from if_no rfl),fM,tE (r:=.ok (.bl true) O) rfl (bh (x:=.int i) (y:=.int i) rfl rfl (by rw[dj,nP,zx rfl]))];rfl
theorem ZJ(n:Nd)(O:aj):sr [dN n,dN n] O=.ok (.bl true) O:=by
 show bu (pR (lY 2) [some (dN n),some (dN n)] O)=_;unfold pR;have t1:cH (bW (fH "tuple" (aa 0))) (bW (fH "tuple" (aa 1))) [some (dN n),some (dN n)] O=.ok true O:=rfl;have z:yG (mG (aa 0)) (mG (aa 1)) [some (dN n),some (dN n)] O=.ok ([n.1,n.2].map λi=>D.tup [.int i,.int i]) O:=rfl
 have al:=wD (own:=2) (cap:=[]) (g:=m5 2 (fD (mgN 0) (fD (mgN 1) oU))) (e:=aO (lY 2) (ak (aa 0) (ak (aa 1) au))) (λρ=>∃a b,ρ=[a,b]) (λi:Int=>D.tup [.int i,.int i]) [n.1,n.2] z (Nat.le_of_ble_eq_true rfl) rfl ⟨none,none,rfl⟩ (by
  rintro x hx ρ ⟨a,b,rfl⟩
  exact⟨[some (.int x),some (.int x)],rfl,⟨_,_,rfl⟩,(cI (maS rfl (ma1 rfl))).trans (ZG 1 x O)⟩)
 rw[cz,lA t1,fM,tE (r:=.ok (.bl true) O) rfl al];rfl
def wF:MS:=nC 1 (bA "Listed" "nodes_at" lg (mG (aa 0)) (ak (aa 2) au))
theorem ZK{O:aj}{t:Nat}{sz:List Int}{ms:List Mv}{es:List Nd}(T:Tr O t sz ms es)(h1:1<=sz.length)(h5:sz.length<=5)(hsz:∀s∈sz,1<=s/\s<=3):uQ [.ob t] O=.ok (.lst ((ndk sz sz.length).map dN)) O:=by
 obtain⟨ρ',O',e,hO,a2,rfl⟩:=kY (g:=mgN 2) (b:=wF)
  (λk ρ O'=>O'=O/\∃(a2:Option D),ρ=[some (.ob t),some (.lst ((ndk sz k).map dN)),a2]) (d7 0 sz.length) 0 [some (.ob t),some (.lst []),none] O ⟨rfl,none,rfl⟩ (by
   rintro i d ρ O' hi ⟨rfl,a2,rfl⟩
   have hi5:i<sz.length:=by
    have:=(zl.mp hi).1
    rwa [iD] at this
   rw[qe,zy,List.getElem?_range hi5] at hi;cases hi;rw[zP];refine⟨_,rfl,_,_,.inl ?_,rfl,some (.int (i:Int)),rfl⟩;show wF [some (.ob t),some (.lst ((ndk sz i).map dN)),some (.int (i:Int))] O'=_;have m1:bA "Listed" "nodes_at" lg (mG (aa 0)) (ak (aa 2) au) [some (.ob t),some (.lst ((ndk sz i).map dN)),some (.int (i:Int))] O'=.ok (.lst ((lay sz i).map dN)) O':=(gD rfl T.ob rfl (ma1 rfl)).trans (Ln T hi5 hsz);have hl:=oE sz hsz (i+1)
   have hl2:((ndk sz i).map dN).length+((lay sz i).map dN).length<=1000000:=by
    have e:(ndk sz (i+1)).length=(ndk sz i).length+(lay sz i).length:=zv;rw[zj,zj];omega
   unfold wF nC;rw[m1];dsimp only[zZ,zW,lQ];show(if((ndk sz i).map dN).length+((lay sz i).map dN).length<=1000000 then _ else Fl.no)=_;rw[if_pos hl2,<-zN]
   rfl)
 rw[iD,zP,hO] at e;unfold wF at e
 have la:aq bQ (bA "Listed" "last_at" pM (mG (aa 0)) au) (mC (.int 1)) [some (.ob t),some (.lst []),none] O=.ok (.int ((sz.length:Nat):Int)) O:=by
  rw[JX ((gD rfl T.ob rfl rfl).trans (Kw T)) rfl];congr 2;omega
 show bu (uP [some (.ob t),none,none] O)=_;unfold uP;rw[sq (show aH 1 (cD au) [some (.ob t),none,none] O=.nx [some (.ob t),some (.lst []),none] O from rfl),cz,fW,qb la (by omega),fX,e,cP];rfl
def kd(K:List Nd):List (List Key×D):=K.map λv=>(key v,dN v)
theorem LC(v:Nd):∀K:List Nd,v∈K->bf (kd K) (key v)=some (dN v)
 |x::K,h=>by
  show bf ((key x,dN x)::kd K) (key v)=_;rw[iQ]
  by_cases z:x=v
  ·rw[if_pos (by rw[z]),z]
  ·rw[if_neg (λy=>z (qd y))]
   rcases zF.mp h with h | h
   ·exact absurd h.symm z
   ·exact LC v K h
theorem LK(v:Nd):∀K:List Nd,v∉K->bf (kd K) (key v)=none
 | [],_=>rfl
 |x::K,h=>by
  show bf ((key x,dN x)::kd K) (key v)=_;rw[iQ,if_neg (λy=>h (by rw[qd y];exact zr))]
  exact LK v K λz=>h (zD _ z)
def tG:MS:=(cV (aa 2) (aa 3) (aa 3))
theorem LQ{q:Nat}(a0 a1:Option D):∀(rest pre:List Nd) (O:aj) (o3:Option D),(pre++rest).Nodup->O[q]?=some (.dt (kd pre))->pre.length+rest.length<1000000->∃O' o3',bJ (mgN 3) tG (rest.map dN) [a0,a1,some (.ob q),o3] O=.nx [a0,a1,some (.ob q),o3'] O'/\O'[q]?=some (.dt (kd (pre++rest)))/\∀j,j≠q->O'[j]?=O[j]?
 | [],pre,O,o3,_,hq,_=>⟨O,o3,rfl,by rw[je];exact hq,λ_ _=>rfl⟩
 |n::rest,pre,O,o3,hd,hq,hl=>by
  rw[zI] at hl
  have hnp:n∉pre:=λz=>(jc.mp hd).2.2 n z n zr rfl
  have s:=vW (mo:=aa 2) (my:=aa 3) (mv:=aa 3) (ρ:=[a0,a1,some (.ob q),some (dN n)]) (n:=q) (y:=n) (d:=dN n) rfl rfl hq rfl (by unfold kd;rw[zj];omega);rw[Kd (LK n pre hnp)] at s;obtain⟨O',o3',e,g1,g2⟩:=LQ a0 a1 rest (pre++[n]) (O.set q (.dt (kd pre++[(key n,dN n)]))) (some (dN n)) (by rw[zM];exact hd) (by rw[fP hq];unfold kd;rw[zN];rfl) (by rw[zv,jo];omega);refine⟨O',o3',?_,by rw[zM] at g1;exact g1,λj hj=>by rw[g2 j hj,zm (Ne.symm hj)]⟩;rw[zh];unfold bJ;rw[mg_n];dsimp only
  show(match tG [a0,a1,some (.ob q),some (dN n)] O with
   | .nx ρ' O'=>bJ _ _ (rest.map dN) ρ' O' | .ct ρ' O'=>bJ _ _ (rest.map dN) ρ' O' | .bk ρ' O'=>Fl.nx ρ' O' | r=>r)=_
  unfold tG;rw[s];exact e
theorem ZL(ps:Tb):(tab ps).map uA=(ky ps).map dN:=by
 unfold tab ky;rw[jj,jj];rfl
theorem LR{m:L2.M D}{ρ:aA}{O:aj}{p:Nat}{ps:Tb}(h:m ρ O=.ok (.ob p) O)(hp:O[p]?=some (.dt (tab ps))):iC m ρ O=.ok ((ky ps).map dN) (O.set p (.df (tab ps))):=by
 unfold iC;rw[h];dsimp only[aD];rw[hp];dsimp only;rw[ZL]
theorem Du{i:Nat}{s:MS}{ρ ρ2:aA}{O O2:aj}{p:Nat}{kvs kvs2:List (List Key×D)}(h0:ρ[i]?=some (some (.ob p)))(h1:O[p]?=some (.dt kvs))(h2:s ρ O=.nx ρ2 O2)(h3:O2[p]?=some (.df kvs2)):iW i s ρ O=.nx ρ2 (O2.set p (.dt kvs2)):=by
 unfold iW;rw[h0];dsimp only;rw[h1];dsimp only;rw[h2];dsimp only;rw[h3]
theorem ZM{O:aj}{p:Nat}{ps:Tb}{ns:List Nd}(hp:O[p]?=some (.dt (tab ps)))(hk:(ky ps).Nodup)(hm:∀v,v∈ky ps↔v∈ns)(hn:ns.Nodup)(hl:ns.length<=15):∃O',vf [.ob p,.lst (ns.map dN)] O=.ok (.bl true) O'/\Ext O O':=by
 have hlen:(ky ps).length=ns.length:=Nat.le_antisymm (sub_len _ _ hk λv hv=>(hm v).mp hv) (sub_len _ _ hn λv hv=>(hm v).mpr hv);have hpl:=(zl.mp hp).1;have hp1:(O++[Ob.dt []])[p]?=some (.dt (tab ps)):=dq hp
 have hpq:p≠O.length:=by omega
 have hq1:((O++[Ob.dt []]).set p (.df (tab ps)))[O.length]?=some (.dt (kd [])):=by rw[zm hpq];exact lB
 obtain⟨O2,o3,e,g1,g2⟩:=LQ (q:=O.length) (some (.ob p)) (some (.lst (ns.map dN))) (ky ps) [] ((O++[Ob.dt []]).set p (.df (tab ps))) none hk hq1 (by rw[jg];omega);rw[zV] at g1;have hp2:O2[p]?=some (.df (tab ps)):=(g2 p hpq).trans (fP hp1)
 have sf:cu (iC (mG (aa 0))) (mgN 3) tG [some (.ob p),some (.lst (ns.map dN)),some (.ob O.length),none] (O++[Ob.dt []])=.nx [some (.ob p),some (.lst (ns.map dN)),some (.ob O.length),o3] O2:=by
  rw[fW,LR (p:=p) rfl hp1,fX,e]
 have st:=Du (i:=0) rfl hp1 sf hp2
 have hq3:(O2.set p (.dt (tab ps)))[O.length]?=some (.dt (kd (ky ps))):=by rw[zm hpq];exact g1
 obtain⟨O3,hO3⟩:∃O3,O3=O2.set p (.dt (tab ps)):=⟨_,rfl⟩;rw[<-hO3] at st hq3;refine⟨O3,?_,λj x hx=>?_⟩
 ·have l1:kj (aa 2) [some (.ob p),some (.lst (ns.map dN)),some (.ob O.length),o3] O3=.ok (.int ((ky ps).length:Int)) O3:=by
   unfold kj;rw[show aa 2 [some (.ob p),some (.lst (ns.map dN)),some (.ob O.length),o3] O3=.ok (.ob O.length) O3 from rfl,aD];dsimp only;rw[hq3];dsimp only;unfold kd;rw[zj]
  have l2:bB dg (ak (aa 1) au) [some (.ob p),some (.lst (ns.map dN)),some (.ob O.length),o3] O3=.ok (.int (ns.length:Int)) O3:=by rw[oA (l:=ns.map dN) rfl,zj]
  have b1:aq gEq (kj (aa 2)) (bB dg (ak (aa 1) au)) [some (.ob p),some (.lst (ns.map dN)),some (.ob O.length),o3] O3=.ok (.bl true) O3:=bh l1 l2 (by rw[dj,dj,nP,hlen,zx rfl])
  have al:=wD (m:=cg (aa 1)) (own:=1) (cap:=[2]) (g:=mgN 0) (e:=gh (ig false (aa 0) (aa 1)) (aO sr (ak (aZ (aa 1) (aa 0)) (ak (aa 0) au)))) (ρ:=[some (.ob p),some (.lst (ns.map dN)),some (.ob O.length),o3]) (λρ=>∃a,ρ=[a,some (.ob O.length)]) dN ns (iK rfl) (by omega) rfl ⟨none,rfl⟩ (by
   rintro v hv ρ ⟨a,rfl⟩;refine⟨[some (dN v),some (.ob O.length)],rfl,⟨_,rfl⟩,?_⟩;have hval:=LC v (ky ps) ((hm v).mpr hv);have i1:=J7 (mo:=aa 1) (my:=aa 0) (ρ:=[some (dN v),some (.ob O.length)]) (y:=v) rfl hq3 rfl;rw[hval] at i1
   have i2:aZ (aa 1) (aa 0) [some (dN v),some (.ob O.length)] O3=.ok (dN v) O3:=by
    unfold aZ;show tsG O.length (dN v) O3=_;unfold tsG;rw[iM,hq3];dsimp only;unfold tsF;rw[iM,hq3];dsimp only;rw[hval]
   exact tE i1 ((cI (maS i2 (ma1 rfl))).trans (ZJ v O3)))
  unfold tG at st;show bu (vd [some (.ob p),some (.lst (ns.map dN)),none,none] O)=_;unfold vd;rw[sq (fO (show dJ [some (.ob p),some (.lst (ns.map dN)),none,none] O=.ok (.ob O.length) (O++[Ob.dt []]) from rfl))];show bu (aB _ _ [some (.ob p),some (.lst (ns.map dN)),some (.ob O.length),none] (O++[Ob.dt []]))=_;rw[sq st,fM,tE b1 al];rfl
 ·have hj:=(zl.mp hx).1;rw[hO3]
  by_cases z:j=p
  ·subst z;rw[fP hp2,<-hp,hx]
  ·rw[zm (Ne.symm z),g2 j (by omega),zm (Ne.symm z)];exact dq hx
theorem ZP{O:aj}{t p:Nat}{sz:List Int}{ms:List Mv}{es:List Nd}{ns:List Nd}{d:Nd->Option Int}{ps:Tb}(T:Tr O t sz ms es)(C:Cx ns ms es d)(hml:ms.length<=40)(hp:O[p]?=some (.dt (tab ps)))(hso:Snd ms es ps)(hfi:∀v∈ns,Fi d ps v){v:Nd}(hv:v∈ns):vh [.ob t,dN v,.ob p] O=.ok (.bl true) O:=by
 have hf:lk ps v=some (d v):=hfi v hv;have s1:aZ (mG (aa 2)) (mG (aa 1)) [some (.ob t),some (dN v),some (.ob p),none,none] O=.ok (pD (d v)) O:=mF rfl hp rfl hf;have m1:bA "Listed" "is_end" fC (mG (aa 0)) (ak (aa 1) au) [some (.ob t),some (dN v),some (.ob p),some (pD (d v)),none] O=.ok (.bl (decide (v∈es))) O:=(gD rfl T.ob rfl (ma1 rfl)).trans (wu T v)
 have t1:bW (bA "Listed" "is_end" fC (mG (aa 0)) (ak (aa 1) au)) [some (.ob t),some (dN v),some (.ob p),some (pD (d v)),none] O=.ok (decide (v∈es)) O:=by
  rw[rG,m1,aD,uG,uI,uH]
 have t2:cH (bW (bA "Listed" "is_end" fC (mG (aa 0)) (ak (aa 1) au))) (du (aJ (cU (aa 3))) (aJ (aq gGt (aa 3) (mC (.int 0))))) [some (.ob t),some (dN v),some (.ob p),some (pD (d v)),none] O=.ok false O:=by
  by_cases h:v∈es
  ·rw[zx h] at t1;rw[Yq t1];rw[C.end h];rfl
  ·rw[zp h] at t1;exact and_f t1
 have hmo:∀m∈mf ms v,(lk ps m.other).isSome=true:=λm hm=>by
  have:=hfi _ (C.mo m (oG.mp hm).1).2.1
  unfold Fi at this;rw[this];rfl
 have s2:aO lr (ak (bA "Listed" "moves_from" fY (mG (aa 0)) (ak (aa 1) au)) (ak (aa 2) au)) [some (.ob t),some (dN v),some (.ob p),some (pD (d v)),none] O=.ok (pD (lc ps (mf ms v))) O:=(cI (maS ((gD rfl T.ob rfl (ma1 rfl)).trans (wj T v)) (ma1 rfl))).trans (Dm hp hmo (zH (List.length_filter_le _ _) (by omega)));show bu (vg [some (.ob t),some (dN v),some (.ob p),none,none] O)=_;unfold vg;rw[sq (dR s1)];show bu (aB _ _ [some (.ob t),some (dN v),some (.ob p),some (pD (d v)),none] O)=_;rw[sq (ifN t2),sq (dR s2)];show bu (aQ _ [some (.ob t),some (dN v),some (.ob p),some (pD (d v)),some (pD (lc ps (mf ms v)))] O)=_
 cases hL:lc ps (mf ms v) with
 |none=>rfl
 |some c =>
  obtain⟨c0,e0,h0⟩:=C.wk (Dq hso hL);rw[e0];have b:aq gLe (aa 3) (aa 4) [some (.ob t),some (dN v),some (.ob p),some (pD (some c0)),some (pD (some c))] O=.ok (.bl true) O:=bh (x:=.int c0) (y:=.int c) rfl rfl (by rw[dj,dj,WN,zx h0]);rw[fM,Wr];show bu (kJ (gh (di (aa 3)) (aq gLe (aa 3) (aa 4)) [some (.ob t),some (dN v),some (.ob p),some (pD (some c0)),some (pD (some c))] O))=_;rw[tE rfl b];rfl
theorem ZQ(ps:Tb):(tab ps).map (·.2)=ps.map λx=>pD x.2:=by
 unfold tab;rw[jj];rfl
theorem ZR{B:aj}{O:aj}{t p:Nat}{sz:List Int}{ms:List Mv}{es:List Nd}{d:Nd->Option Int}{ps:Tb}(T:Tr B t sz ms es)(hE:Ext B O)(C:Cx (ndk sz sz.length) ms es d)(hml:ms.length<=40)(h1:1<=sz.length)(h5:sz.length<=5)(hsz:∀s∈sz,1<=s/\s<=3)(hp:O[p]?=some (.dt (tab ps)))(P:PrS (ndk sz sz.length) ms es d 0 ps):∃O',vo [.ob t,.ob p] O=.ok (.bl true) O'/\Ext O O':=by
 have hnl:=oE sz hsz sz.length
 have hpos:∀v∈ndk sz sz.length,(0:Int)<=v.1:=λv hv=>(sY hv).1
 have hfi:∀v∈ndk sz sz.length,Fi d ps v:=λv hv=>P.fi v hv (hpos v hv)
 obtain⟨O1,ej,x1⟩:=ZM hp P.nd (λv=>⟨λh=>((P.km v).mp h).1,λh=>(P.km v).mpr ⟨h,hpos v h⟩⟩) (CV sz sz.length) (by omega);have hp1:=x1 _ _ hp;have sA:aO uQ (ak (aa 0) au) [some (.ob t),some (.ob p),none] O=.ok (.lst ((ndk sz sz.length).map dN)) O:=(cI (ma1 rfl)).trans (ZK (T.ext hE) h1 h5 hsz)
 have isd:nM (mG (aa 1)) [some (.ob t),some (.ob p),some (.lst ((ndk sz sz.length).map dN))] O=.ok (.bl true) O:=by
  unfold nM;rw[show mG (aa 1) [some (.ob t),some (.ob p),some (.lst ((ndk sz sz.length).map dN))] O=.ok (.ob p) O from rfl,aD];dsimp only;rw[hp]
 have sB:=ifN (a:=aQ (mC (.bl false))) (jN (iJ isd) (iJ ((cI (c:=vf) (maS (a:=aa 1) rfl (ma1 (a:=aa 2) rfl))).trans ej)))
 have hv1:uF (mG (aa 1)) [some (.ob t),some (.ob p),some (.lst ((ndk sz sz.length).map dN))] O1=.ok (ps.map λx=>pD x.2) (O1.set p (.df (tab ps))):=by
  unfold uF;rw[show mG (aa 1) [some (.ob t),some (.ob p),some (.lst ((ndk sz sz.length).map dN))] O1=.ok (.ob p) O1 from rfl,aD];dsimp only;rw[hp1];dsimp only;rw[ZQ]
 have hpl:=P.len
 have aV:=wD (own:=1) (cap:=[]) (g:=mgN 0) (e:=oR (cU (aa 0)) (aO rN (ak (aa 0) au))) (λρ=>∃a,ρ=[a]) (λx:Nd×Option Int=>pD x.2) ps hv1 (by omega) rfl ⟨none,rfl⟩ (by
  rintro⟨n,x⟩ hx ρ ⟨a,rfl⟩;refine⟨[some (pD x)],rfl,⟨_,rfl⟩,?_⟩
  cases x<;>rfl)
 have sC0:=ifN (a:=aQ (mC (.bl false))) (iJ aV);have sC:=Du (i:=1) (p:=p) rfl hp1 sC0 (fP hp1)
 have hO2:(O1.set p (.df (tab ps))).set p (.dt (tab ps))=O1:=by
  rw[List.set_set];obtain⟨hlt,e⟩:=zl.mp hp1;rw[<-e,List.set_getElem_self]
 rw[hO2] at sC;have hE1:=hE.trans x1
 have aF:=wD (m:=cg (aa 2)) (own:=1) (cap:=[0,1]) (g:=mgN 0) (e:=aO vh (ak (aa 1) (ak (aa 0) (ak (aa 2) au)))) (ρ:=[some (.ob t),some (.ob p),some (.lst ((ndk sz sz.length).map dN))]) (O:=O1) (λρ=>∃a,ρ=[a,some (.ob t),some (.ob p)]) dN (ndk sz sz.length) (iK rfl) (by omega) rfl ⟨none,rfl⟩ (by
  rintro v hv ρ ⟨a,rfl⟩
  exact⟨[some (dN v),some (.ob t),some (.ob p)],rfl,⟨_,rfl⟩,(cI (maS rfl (maS rfl (ma1 rfl)))).trans (ZP (T.ext hE1) C hml hp1 P.so hfi hv)⟩)
 refine⟨O1,?_,x1⟩;show bu (vm [some (.ob t),some (.ob p),none] O)=_;unfold vm;rw[sq (dR sA)];show bu (aB _ _ [some (.ob t),some (.ob p),some (.lst ((ndk sz sz.length).map dN))] O)=_;rw[sq sB,sq sC,fM,aF];rfl
def qx:MS:=(aB (bj (aJ (ig true (aa 2) (mG (aa 0)))) (aQ (mC (.bl false))) bC)
  (aB (bj (cH (aJ (cU (aZ (mG (aa 1)) (aa 2)))) (aJ (di (aZ (mG (aa 0)) (aa 2))))) (aQ (mC (.bl false))) bC)
  (bj (cH (aJ (di (aZ (mG (aa 1)) (aa 2)))) (du (dH (bW (aO pU (ak (aZ (mG (aa 0)) (aa 2)) au)))) (aJ (aq gNe (aZ (mG (aa 0)) (aa 2)) (aZ (mG (aa 1)) (aa 2)))))) (aQ (mC (.bl false))) bC)))
theorem ZV{O:aj}{f u:Nat}{fs us:Tb}{n:Nd}{x:Option Int}(hf:O[f]?=some (.dt (tab fs)))(hu:O[u]?=some (.df (tab us)))(h1:lk fs n=some x)(h2:lk us n=some x):qx [some (.ob f),some (.ob u),some (dN n)] O=.nx [some (.ob f),some (.ob u),some (dN n)] O:=by
 have i1:ig true (aa 2) (mG (aa 0)) [some (.ob f),some (.ob u),some (dN n)] O=.ok (.bl false) O:=by
  unfold ig;rw[show aa 2 [some (.ob f),some (.ob u),some (dN n)] O=.ok (dN n) O from rfl,aD,show mG (aa 0) [some (.ob f),some (.ob u),some (dN n)] O=.ok (.ob f) O from rfl,aD];dsimp only;rw[iM,hf];dsimp only;rw[wy,h1];rfl
 have eF:aZ (mG (aa 0)) (aa 2) [some (.ob f),some (.ob u),some (dN n)] O=.ok (pD x) O:=mF rfl hf rfl h1;have eU:aZ (mG (aa 1)) (aa 2) [some (.ob f),some (.ob u),some (dN n)] O=.ok (pD x) O:=K4 rfl hu rfl (by rw[wy,h2];rfl)
 have tN:aJ (cU (aZ (mG (aa 1)) (aa 2))) [some (.ob f),some (.ob u),some (dN n)] O=.ok (isNon (pD x)) O:=by
  rw[fL,rF,eU,aD,aD,fK]
 have tM:aJ (di (aZ (mG (aa 1)) (aa 2))) [some (.ob f),some (.ob u),some (dN n)] O=.ok (!isNon (pD x)) O:=by
  rw[fL,Ie,eU,aD,aD,fK]
 have tF:aJ (di (aZ (mG (aa 0)) (aa 2))) [some (.ob f),some (.ob u),some (dN n)] O=.ok (!isNon (pD x)) O:=by
  rw[fL,Ie,eF,aD,aD,fK]
 unfold qx;rw[sq (ifN (d9 i1))]
 cases x with
 |none =>
  rw[sq (ifN (JZ tN tF)),ifN (and_f tM)]
 |some c =>
  rw[sq (ifN (and_f tN)),ifN (JZ tM (jN (iJ ((cI (ma1 eF)).trans (Lz c O))) (d9 (bh eF eU (by
   show gNe (.int c) (.int c)=_;rw[yN]
   simp)))))]
theorem Ma{O:aj}{f u:Nat}{fs us:Tb}{d:Nd->Option Int}(hf:O[f]?=some (.dt (tab fs)))(hu:O[u]?=some (.df (tab us))):∀(ns:List Nd) (o2:Option D),(∀v∈ns,Fi d fs v/\Fi d us v)->∃o2',bJ (mgN 2) qx (ns.map dN) [some (.ob f),some (.ob u),o2] O=.nx [some (.ob f),some (.ob u),o2'] O
 | [],o2,_=>⟨o2,rfl⟩
 |n::ns,o2,h=>by
  obtain⟨o2',e⟩:=Ma hf hu ns (some (dN n)) λv hv=>h v (zD _ hv)
  refine⟨o2',?_⟩;obtain⟨h1,h2⟩:=h n zr;rw[zh];unfold bJ;rw[mg_n];dsimp only
  show(match qx [some (.ob f),some (.ob u),some (dN n)] O with
   | .nx ρ' O'=>bJ _ _ (ns.map dN) ρ' O' | .ct ρ' O'=>bJ _ _ (ns.map dN) ρ' O' | .bk ρ' O'=>Fl.nx ρ' O' | r=>r)=_
  rw[ZV hf hu h1 h2];exact e
theorem Mf{m:L2.M D}{ρ:aA}{O:aj}{p:Nat}{ps:Tb}(h:m ρ O=.ok (.ob p) O)(hp:O[p]?=some (.dt (tab ps))):kj m ρ O=.ok (.int (ps.length:Int)) O:=by
 unfold kj;rw[h,aD];dsimp only;rw[hp];dsimp only;unfold tab;rw[zj]
theorem ZW{m:L2.M D}{ρ:aA}{O:aj}{p:Nat}{kvs:List (List Key×D)}(h:m ρ O=.ok (.ob p) O)(hp:O[p]?=some (.dt kvs)):nM m ρ O=.ok (.bl true) O:=by
 unfold nM;rw[h,aD];dsimp only;rw[hp]
theorem set_same{O:aj}{p:Nat}{x:Ob}(y:Ob)(h:O[p]?=some x):(O.set p y).set p x=O:=by
 rw[List.set_set];obtain⟨hlt,e⟩:=zl.mp h;rw[<-e,List.set_getElem_self]
theorem Mg{O:aj}{f u:Nat}{fs us:Tb}{d:Nd->Option Int}(hf:O[f]?=some (.dt (tab fs)))(hu:O[u]?=some (.dt (tab us)))(hfu:f≠u)(hl:fs.length=us.length)(h:∀v∈ky us,Fi d fs v/\Fi d us v):pW [.ob f,.ob u] O=.ok (.bl true) O:=by
 have hf1:(O.set u (.df (tab us)))[f]?=some (.dt (tab fs)):=by rw[zm (Ne.symm hfu)];exact hf
 obtain⟨o2,e⟩:=Ma hf1 (fP hu) (ky us) none h
 have b1:=ifN (a:=aQ (mC (.bl false))) (jN (iJ (ZW (m:=mG (aa 0)) (ρ:=[some (.ob f),some (.ob u),none]) rfl hf)) (d9 (bh (g:=gNe) (z:=.bl false) (Mf (m:=mG (aa 0)) rfl hf) (Mf (m:=mG (aa 1)) rfl hu) (by
  rw[hl];rw[dj,yN]
  simp))))
 have sf:cu (iC (mG (aa 1))) (mgN 2) qx [some (.ob f),some (.ob u),none] O=.nx [some (.ob f),some (.ob u),o2] (O.set u (.df (tab us))):=by
  rw[fW,LR (p:=u) rfl hu,fX,e]
 have st:=Du (i:=1) rfl hu sf (fP hu);rw[set_same _ hu] at st;unfold qx at st;show bu (vK [some (.ob f),some (.ob u),none] O)=_;unfold vK;rw[sq b1,sq st];rfl
theorem Mh{ms:List Mv}{es:List Nd}(hu:Un ms):∀(l:List Mv) (v:Nd) (c c0:Int),Wy ms es v l c->∃e,e∈es/\wk ms v c0 (l.map (·.name))=some (c0+c,e)
 | [],v,c,c0,h=>⟨v,h.1,by rw[h.2,Int.add_zero];rfl⟩
 |m::l,v,c,c0,⟨h1,h2,c',h3,h4⟩=>by
  obtain⟨e,he,hw⟩:=Mh hu l m.other c' (c0+m.cost) h4;refine⟨e,he,?_⟩;have hin:m∈tk ms v m.name:=List.mem_filter.mpr ⟨h1,by rw[zx h2,zx rfl];rfl⟩
  cases ht:tk ms v m.name with
  |nil=>rw[ht] at hin;cases hin
  |cons m' t =>
   have hm':m'∈tk ms v m.name:=by rw[ht];exact zr
   obtain⟨q1,q2⟩:=List.mem_filter.mp hm';rw[zw] at q2;have q3:=ji q2.1;have q4:=ji q2.2;have em:m'=m:=hu.2 m' m q1 h1 (by rw[q3,h2]) q4;rw[zh,Dj ht,em,hw,h3,Int.add_assoc]
section
variable {B:aj}{t u:Nat}{sz:List Int}{ms:List Mv}{es:List Nd}{d:Nd->Option Int}{us:Tb}
theorem Mi(T:Tr B t sz ms es)(C:Cx (ndk sz sz.length) ms es d)(hml:ms.length<=40)(hnm:∀m∈ms,NOk m.name)(hun:Un ms)(h1:1<=sz.length)(h5:sz.length<=5)(hsz:∀s∈sz,1<=s/\s<=3)(hub:B[u]?=some (.dt (tab us)))(hus:Fi d us (0,0)){O:aj}(hE:Ext B O):
  ∃O',pZ [.ob t,.lst (ms.map dM),.lst (es.map dN),.ob u] O=.ok (.bl true) O'/\Ext O O':=by
 obtain⟨O1,x1,hw⟩:=Zy T C hml h1 h5 hsz hE;have hu1:=x1 _ _ (hE _ _ hub)
 have eU:∀a4:Option D,aZ (mG (aa 3)) (cM (ak (mC (.int 0)) (ak (mC (.int 0)) au))) [some (.ob t),some (.lst (ms.map dM)),some (.lst (es.map dN)),some (.ob u),a4] O1=.ok (pD (d (0,0))) O1:=λa4=>mF rfl hu1 rfl hus
 rcases hw with⟨hd,ew⟩ | ⟨c,w,l,hd,hwl,ew,hO,W,hl15⟩
 ·refine⟨O1,?_,x1⟩;have s1:aO nY (ak (aa 0) au) [some (.ob t),some (.lst (ms.map dM)),some (.lst (es.map dN)),some (.ob u),none] O=.ok .non O1:=(cI (ma1 rfl)).trans ew
  have t1:aJ (cU (aZ (mG (aa 3)) (cM (ak (mC (.int 0)) (ak (mC (.int 0)) au))))) [some (.ob t),some (.lst (ms.map dM)),some (.lst (es.map dN)),some (.ob u),some .non] O1=.ok true O1:=by
   rw[fL,rF,eU,aD,aD,fK,hd];rfl
  show bu (pY [some (.ob t),some (.lst (ms.map dM)),some (.lst (es.map dN)),some (.ob u),none] O)=_;unfold pY;rw[sq (fO s1)];show bu (aB _ _ [some (.ob t),some (.lst (ms.map dM)),some (.lst (es.map dN)),some (.ob u),some .non] O1)=_;rw[cz,ifY t1];rfl
 ·have hE1:=hE.trans x1
  have hO':O1[w]?=some (.ml ((l.map (·.name)).map D.str)):=by
   rw[hO,jj];rfl
  obtain⟨e,he,hk⟩:=Mh hun l (0,0) c 0 W
  have hwk:wkD ms es (l.map (·.name))=.int c:=by
   unfold wkD;rw[hk];dsimp only;rw[if_pos he,Int.zero_add]
  obtain⟨ρ,hρ⟩:∃ρ:aA,ρ=[some (.ob t),some (.lst (ms.map dM)),some (.lst (es.map dN)),some (.ob u),some (.tup [.int c,.ob w])]:=⟨_,rfl⟩;have s1:aO nY (ak (aa 0) au) [some (.ob t),some (.lst (ms.map dM)),some (.lst (es.map dN)),some (.ob u),none] O=.ok (.tup [.int c,.ob w]) O1:=(cI (ma1 rfl)).trans ew
  have v4:aa 4 ρ O1=.ok (.tup [.int c,.ob w]) O1:=by rw[hρ];rfl
  have i0:aq gIx (aa 4) (mC (.int 0)) ρ O1=.ok (.int c) O1:=bh v4 rfl rfl;have i1:aq gIx (aa 4) (mC (.int 1)) ρ O1=.ok (.ob w) O1:=bh v4 rfl rfl
  have eU':aZ (mG (aa 3)) (cM (ak (mC (.int 0)) (ak (mC (.int 0)) au))) ρ O1=.ok (.int c) O1:=by rw[hρ,eU,hd];rfl
  have t1:aJ (cU (aZ (mG (aa 3)) (cM (ak (mC (.int 0)) (ak (mC (.int 0)) au))))) ρ O1=.ok false O1:=by
   rw[fL,rF,eU',aD,aD,fK];rfl
  have hne:gNe (.int c) (.int c)=some (.bl false):=by
   rw[yN];simp
  have q1:fH "tuple" (aa 4) ρ O1=.ok (.bl true) O1:=by
   rw[Ii,v4,aD];rfl
  have q2:bB dg (ak (aa 4) au) ρ O1=.ok (.int 2) O1:=sH (ma1 v4) rfl;have q3:aO pU (ak (aq gIx (aa 4) (mC (.int 0))) au) ρ O1=.ok (.bl true) O1:=(cI (ma1 i0)).trans (Lz c O1)
  have q4:fH "list" (aq gIx (aa 4) (mC (.int 1))) ρ O1=.ok (.bl true) O1:=by
   rw[Ii,i1,aD,Di hO'];rfl
  have s2:=ifN (a:=aQ (mC (.bl false))) (jN (iJ q1) (jN (d9 (bh (g:=gNe) (b:=mC (.int 2)) (z:=.bl false) q2 rfl rfl)) (jN (iJ q3) (iJ q4))))
  have q5:aO vJ (ak (aa 1) (ak (aa 2) (ak (aq gIx (aa 4) (mC (.int 1))) au))) ρ O1=.ok (.int c) O1:=by
   rw[cI (maS (x:=.lst (ms.map dM)) (by rw[hρ];rfl) (maS (x:=.lst (es.map dN)) (by rw[hρ];rfl) (ma1 i1))),Zg hml hnm _ O1 hO',hwk]
  have s3:=ifN (a:=aQ (mC (.bl false))) (jN (d9 (bh i0 eU' hne)) (d9 (bh q5 i0 hne)));have q6:bB dI (ak (aq gIx (aa 4) (mC (.int 1))) au) ρ O1=.ok (.lst ((l.map (·.name)).map D.str)) O1:=sH (ma1 i1) (by rw[zh,jf,Di hO',yP])
  have q7:aO u6 (ak (aa 0) (ak (bB dI (ak (aq gIx (aa 4) (mC (.int 1))) au)) au)) ρ O1=.ok (.int c) O1:=by
   rw[cI (maS (x:=.ob t) (by rw[hρ];rfl) (ma1 q6)),Zc (T.ext hE1) hml,hwk]
  have s4:=ifN (a:=aQ (mC (.bl false))) (d9 (bh q7 i0 hne))
  have hll:((l.map (·.name)).map D.str).length<1000000:=by
   rw[zj,zj];omega
  have s5:=v8 (m:=mC (.str [122])) (d:=.str [122]) i1 hO' rfl hll;refine⟨O1.set w (.ml ((l.map (·.name)).map D.str++[.str [122]])),?_,λj x hj=>?_⟩
  ·show bu (pY [some (.ob t),some (.lst (ms.map dM)),some (.lst (es.map dN)),some (.ob u),none] O)=_;unfold pY;rw[sq (fO s1)];show bu (aB _ _ [some (.ob t),some (.lst (ms.map dM)),some (.lst (es.map dN)),some (.ob u),some (.tup [.int c,.ob w])] O1)=_;rw[<-hρ,sq (ifN t1),sq s2,sq s3,sq s4,sq s5];rfl
  ·have:=(zl.mp hj).1
   rw[zm (by omega)];exact x1 j x hj
end
def Tr.ext2{B O:aj}{n:Nat}{sz:List Int}{ms:List Mv}{es:List Nd}(T:Tr B n sz ms es)(k:Nat)(hn:k<=n)(ha:k<=T.a)(hb:k<=T.b)(hi:∀y i,bf T.kv (key y)=some (.ob i)->k<=i)(h:∀(j:Nat) (x:Ob),k<=j->B[j]?=some x->O[j]?=some x):Tr O n sz ms es where
 a:=T.a
 b:=T.b
 kv:=T.kv
 ekv:=T.ekv
 ob:=h _ _ hn T.ob
 oa:=h _ _ ha T.oa
 oe:=h _ _ hb T.oe
 en:=T.en
 mv:=λn=>(T.mv n).imp id λ⟨i,e1,e2⟩=>⟨i,e1,h _ _ (hi _ _ e1) e2⟩
theorem ZX{c:Str}{cf:List D->aj->Res D}{ma:L2.M (List D)}{ρ:aA}{O O2:aj}{ds:List D}(h:ma ρ O=.ok ds O)(h2:cf (.ob O.length::ds) (O++[.ins c []])=.ok .non O2):nF c cf ma ρ O=.ok (.ob O.length) O2:=by
 rw[W7,h,aD,h2,W8]
theorem Dv{m:L2.M D}{ρ:aA}{O:aj}{l:List D}(h:m ρ O=.ok (.lst l) O):mMl (bB dI (ak m au)) ρ O=.ok (.ob O.length) (O++[.ml l]):=by
 unfold mMl;rw[Yr h];rfl
theorem Dw{m:L2.M D}{ρ:aA}{O:aj}{n:Nat}{l:List D}(h:m ρ O=.ok (.ob n) O)(h2:O[n]?=some (.ml l)):pH m ρ O=.nx ρ (O.set n (.ml [])):=by
 unfold pH;rw[h];dsimp only;rw[h2]
theorem ZZ(ps:Tb):((tab ps).all λp=>p.1.all rm)=true:=by
 rw[jq];intro x hx;obtain⟨y,_,rfl⟩:=zX.mp hx;rfl
theorem Z0{mo mv:L2.M D}{ρ:aA}{O:aj}{n:Nat}{ps:Tb}{x:D}(h1:mv ρ O=.ok x O)(h2:mo ρ O=.ok (.ob n) O)(h3:O[n]?=some (.dt (tab ps))):rn mo mv ρ O=.nx ρ (O.set n .gone):=by
 unfold rn;rw[h1];dsimp only;rw[h2];dsimp only;rw[h3];dsimp only;rw[if_pos (ZZ ps)]
theorem PrS.lenE{ns:List Nd}{ms:List Mv}{es:List Nd}{d:Nd->Option Int}{cur:Tb}(P:PrS ns ms es d 0 cur)(hn:ns.Nodup)(h0:∀v∈ns,(0:Int)<=v.1):cur.length=ns.length:=by
 refine Nat.le_antisymm P.len ?_;rw[<-gH]
 exact sub_len _ _ hn λv hv=>(P.km v).mpr ⟨hv,h0 v hv⟩
theorem Z1(xs:List Int)(hx:xs.length<=63):∃O',JW [.lst (xs.map D.int)] []=.ok (.bl true) O':=by
 have vX:∀(a1 a2 a3 a4 a5 a6 a7 a8 a9:Option D) (O:aj) (k:Nat),aO lZ (ak (aa 0) (ak (mC (.int (k:Int))) au)) [some (.lst (xs.map D.int)),a1,a2,a3,a4,a5,a6,a7,a8,a9] O=.ok (.int (xs.getD k 0)) O:=λa1 a2 a3 a4 a5 a6 a7 a8 a9 O k=>by
  rw[cI (maS (x:=.lst (xs.map D.int)) rfl (ma1 (x:=.int (k:Int)) rfl)),Yu]
 have hs3:=Yv (xs.getD 0 0);obtain⟨hs1,hs5⟩:=Yw (xs.getD 0 0);have es1:=Yx (xs.getD 0 0) []
 generalize szs (xs.getD 0 0)=sz at hs3 hs1 hs5 es1
 have ens:=Yy sz hs5 hs3 [];have hnl:=oE sz hs3 sz.length;have hn0:=J5 sz hs1 hs3;have hnd:=CV sz sz.length
 have hpos:∀v∈ndk sz sz.length,(0:Int)<=v.1:=λv hv=>(sY hv).1
 obtain⟨ms,kv,hm1,hm2,hm3,hm4,ems⟩:=YS xs (ndk sz sz.length) (List.ne_nil_of_mem hn0) (by omega) [];obtain⟨es,he1,ees⟩:=YQ (xs.getD 1 0) (ndk sz sz.length) (List.ne_nil_of_mem hn0) (by omega) ([]++[.dt kv])
 generalize ([]:aj)++[.dt kv]=O1 at ems ees
 obtain⟨d,C⟩:=Zq (es:=es) hm3;obtain⟨O2,us,eL,hu2,x2,hus,hfu⟩:=ZD C hnd (by omega) hpos O1;have hu2l:=(zl.mp hu2).1;obtain⟨O3,hO3⟩:∃O3,O3=((O2++[.ml (sz.map D.int)])++[.ml (ms.map dM)])++[.ml (es.map dN)]:=⟨_,rfl⟩
 have l1:(O2++[Ob.ml (sz.map D.int)]).length=O2.length+1:=by rw[zv];rfl
 have l2:((O2++[Ob.ml (sz.map D.int)])++[Ob.ml (ms.map dM)]).length=O2.length+2:=by rw[zv,l1];rfl
 have l3:O3.length=O2.length+3:=by rw[hO3,zv,l2];rfl
 have b1:O3[O2.length]?=some (.ml (sz.map D.int)):=by rw[hO3];exact dq (dq lB)
 have b2:O3[O2.length+1]?=some (.ml (ms.map dM)):=by rw[hO3];exact dq (v9 l1)
 have b3:O3[O2.length+2]?=some (.ml (es.map dN)):=by rw[hO3];exact v9 l2
 have x3:Ext O2 O3:=λj x hj=>by rw[hO3];exact dq (dq (dq hj))
 obtain⟨O4,T4,x4,⟨ta,tb,ti⟩,eT⟩:=Y6 O3 sz ms es hm1 he1 b1 b2 b3;obtain⟨N,hN⟩:∃N,N=O3.length:=⟨_,rfl⟩;obtain⟨O5,hO5⟩:∃O5,O5=((O4.set O2.length (.ml [])).set (O2.length+1) (.ml [])).set (O2.length+2) (.ml []):=⟨_,rfl⟩
 have far:∀j,j≠O2.length->j≠O2.length+1->j≠O2.length+2->O5[j]?=O4[j]?:=λj h1 h2 h3=>by
  rw[hO5,zm (Ne.symm h3),zm (Ne.symm h2),zm (Ne.symm h1)]
 have T:Tr O5 O3.length sz ms es:=T4.ext2 O3.length (zd _) ta tb ti λj x hj hx=>by
  rw[far j (by omega) (by omega) (by omega)];exact hx
 rw[<-hN] at T eT
 have hu5:O5[O1.length]?=some (.dt (tab us)):=by
  rw[far _ (by omega) (by omega) (by omega)];exact x4 _ _ (x3 _ _ hu2)
 obtain⟨O6,fs,eP,hf6,x6,P⟩:=Dt T C hm1 hs1 hs5 hs3 (Ext.refl O5);have hu6:=x6 _ _ hu5;have hu5l:=(zl.mp hu5).1
 have hfne:O5.length≠O1.length:=by omega
 have huse:us.length=(ndk sz sz.length).length:=by rw[<-gH,hus]
 have hpr:∀v∈ndk sz sz.length,Fi d us v:=hfu
 have eA:=Mg (d:=d) hf6 hu6 hfne ((P.lenE hnd hpos).trans huse.symm) (λv hv=>by
  rw[hus] at hv
  exact⟨P.fi v hv (hpos v hv),hpr v hv⟩)
 obtain⟨O7,eF,x7⟩:=ZR T x6 C hm1 hs1 hs5 hs3 hf6 P;have hf7:=x7 _ _ hf6;have hfl:=P.len;obtain⟨O8,hO8⟩:∃O8,O8=O7.set O5.length (.dt (tab (put fs (0,0) (some (-5))))):=⟨_,rfl⟩
 have hf8:O8[O5.length]?=some (.dt (tab (put fs (0,0) (some (-5))))):=by rw[hO8];exact fP hf7
 obtain⟨O9,hO9⟩:∃O9,O9=O8.set O5.length .gone:=⟨_,rfl⟩
 have x9:Ext O5 O9:=by
  rw[hO9,hO8];exact((x6.trans x7).set (zd _) _).set (zd _) _
 obtain⟨O10,eW1,x10⟩:=Mi T C hm1 hm2 hm4 hs1 hs5 hs3 hu5 (hpr _ hn0) x9;obtain⟨O11,eW2,x11⟩:=Mi T C hm1 hm2 hm4 hs1 hs5 hs3 hu5 (hpr _ hn0) (x9.trans x10);have xE:=(x9.trans x10).trans x11;obtain⟨O12,gs,eP2,hf12,x12,P2⟩:=Dt T C hm1 hs1 hs5 hs3 xE;have hu12:=x12 _ _ (xE _ _ hu5);have hu11l:=(zl.mp (xE _ _ hu5)).1
 have eA2:=Mg (d:=d) hf12 hu12 (show O11.length≠O1.length by omega) ((P2.lenE hnd hpos).trans huse.symm) (λv hv=>by
  rw[hus] at hv
  exact⟨P2.fi v hv (hpos v hv),hpr v hv⟩)
 obtain⟨X,hX⟩:∃X,X=D.lst (xs.map D.int):=⟨_,rfl⟩;obtain⟨SZ,hSZ⟩:∃S,S=D.lst (sz.map D.int):=⟨_,rfl⟩;obtain⟨NS,hNS⟩:∃S,S=D.lst ((ndk sz sz.length).map dN):=⟨_,rfl⟩;obtain⟨MS',hMS⟩:∃S,S=D.lst (ms.map dM):=⟨_,rfl⟩;obtain⟨ES,hES⟩:∃S,S=D.lst (es.map dN):=⟨_,rfl⟩;obtain⟨TH,hTH⟩:∃S,S=D.lst [.ob O2.length,.ob (O2.length+1),.ob (O2.length+2)]:=⟨_,rfl⟩
 have s1:aH 1 (aO sE (ak (aO lZ (ak (aa 0) (ak (mC (.int 0)) au))) au)) [some X,none,none,none,none,none,none,none,none,none] []=.nx [some X,some SZ,none,none,none,none,none,none,none,none] []:=by
  rw[hX,hSZ];exact fO ((cI (ma1 (vX none none none none none none none none none [] 0))).trans es1)
 have s2:aH 2 (aO vB (ak (aa 1) au)) [some X,some SZ,none,none,none,none,none,none,none,none] []=.nx [some X,some SZ,some NS,none,none,none,none,none,none,none] []:=by
  rw[hSZ,hNS];exact fO ((cI (ma1 rfl)).trans ens)
 have s3:aH 3 (aO vD (ak (aa 0) (ak (aa 2) au))) [some X,some SZ,some NS,none,none,none,none,none,none,none] []=.nx [some X,some SZ,some NS,some MS',none,none,none,none,none,none] O1:=by
  rw[hX,hNS,hMS];exact fO ((cI (maS rfl (ma1 rfl))).trans ems)
 have s4:aH 4 (aO sG (ak (aO lZ (ak (aa 0) (ak (mC (.int 1)) au))) (ak (aa 2) au))) [some X,some SZ,some NS,some MS',none,none,none,none,none,none] O1=.nx [some X,some SZ,some NS,some MS',some ES,none,none,none,none,none] O1:=by
  rw[hX,hNS,hES];exact fO ((cI (maS (vX _ _ _ _ _ _ _ _ _ O1 1) (ma1 rfl))).trans ees)
 have s5:aH 5 (aO vH (ak (aa 2) (ak (aa 3) (ak (aa 4) au)))) [some X,some SZ,some NS,some MS',some ES,none,none,none,none,none] O1=.nx [some X,some SZ,some NS,some MS',some ES,some (.ob O1.length),none,none,none,none] O2:=by
  rw[hNS,hMS,hES];exact fO ((cI (maS rfl (maS rfl (ma1 rfl)))).trans eL)
 have s6:aH 6 (cD (ak (mMl (bB dI (ak (aa 1) au))) (ak (mMl (bB dI (ak (aa 3) au))) (ak (mMl (bB dI (ak (aa 4) au))) au)))) [some X,some SZ,some NS,some MS',some ES,some (.ob O1.length),none,none,none,none] O2=.nx [some X,some SZ,some NS,some MS',some ES,some (.ob O1.length),some TH,none,none,none] O3:=by
  have a1:=Dv (m:=aa 1) (ρ:=[some X,some SZ,some NS,some MS',some ES,some (.ob O1.length),none,none,none,none]) (O:=O2) (l:=sz.map D.int) (by rw[hSZ];rfl);have a2:=Dv (m:=aa 3) (ρ:=[some X,some SZ,some NS,some MS',some ES,some (.ob O1.length),none,none,none,none]) (O:=O2++[Ob.ml (sz.map D.int)]) (l:=ms.map dM) (by rw[hMS];rfl);have a3:=Dv (m:=aa 4) (ρ:=[some X,some SZ,some NS,some MS',some ES,some (.ob O1.length),none,none,none,none]) (O:=(O2++[Ob.ml (sz.map D.int)])++[Ob.ml (ms.map dM)]) (l:=es.map dN) (by rw[hES];rfl);rw[l1] at a2;rw[l2,<-hO3] at a3;rw[hTH];exact fO (Ym (vQ a1 (vQ a2 (CJ a3))) (Nat.le_of_ble_eq_true rfl))
 have v6:∀(a7 a8 a9:Option D) (O:aj),aa 6 [some X,some SZ,some NS,some MS',some ES,some (.ob O1.length),some TH,a7,a8,a9] O=.ok (.lst [.ob O2.length,.ob (O2.length+1),.ob (O2.length+2)]) O:=λa7 a8 a9 O=>by rw[hTH];rfl
 have s7:aH 7 (nF "Listed" rP (ak (aq gIx (aa 6) (mC (.int 0))) (ak (aq gIx (aa 6) (mC (.int 1))) (ak (aq gIx (aa 6) (mC (.int 2))) au)))) [some X,some SZ,some NS,some MS',some ES,some (.ob O1.length),some TH,none,none,none] O3=.nx [some X,some SZ,some NS,some MS',some ES,some (.ob O1.length),some TH,some (.ob N),none,none] O4:=by
  have hm:=ZX (c:="Listed") (cf:=rP) (maS (bh (g:=gIx) (z:=.ob O2.length) (v6 none none none O3) (b:=mC (.int 0)) rfl rfl) (maS (bh (g:=gIx) (z:=.ob (O2.length+1)) (v6 none none none O3) (b:=mC (.int 1)) rfl rfl) (ma1 (bh (g:=gIx) (z:=.ob (O2.length+2)) (v6 none none none O3) (b:=mC (.int 2)) rfl rfl)))) (by rw[<-hN];exact eT);rw[<-hN] at hm;exact fO hm
 have c1:O4[O2.length]?=some (.ml (sz.map D.int)):=x4 _ _ b1
 have c2:(O4.set O2.length (.ml []))[O2.length+1]?=some (.ml (ms.map dM)):=by rw[zm (by omega)];exact x4 _ _ b2
 have c3:((O4.set O2.length (.ml [])).set (O2.length+1) (.ml []))[O2.length+2]?=some (.ml (es.map dN)):=by rw[zm (by omega),zm (by omega)];exact x4 _ _ b3
 have t1:=Dw (m:=aa 8) (ρ:=[some X,some SZ,some NS,some MS',some ES,some (.ob O1.length),some TH,some (.ob N),some (.ob O2.length),none]) rfl c1;have t2:=Dw (m:=aa 8) (ρ:=[some X,some SZ,some NS,some MS',some ES,some (.ob O1.length),some TH,some (.ob N),some (.ob (O2.length+1)),none]) rfl c2;have t3:=Dw (m:=aa 8) (ρ:=[some X,some SZ,some NS,some MS',some ES,some (.ob O1.length),some TH,some (.ob N),some (.ob (O2.length+2)),none]) rfl c3;rw[<-hO5] at t3
 have s8:cu (cg (aa 6)) (mgN 8) (pH (aa 8)) [some X,some SZ,some NS,some MS',some ES,some (.ob O1.length),some TH,some (.ob N),none,none] O4=.nx [some X,some SZ,some NS,some MS',some ES,some (.ob O1.length),some TH,some (.ob N),some (.ob (O2.length+2)),none] O5:=by
  rw[fW,iK (v6 (some (.ob N)) none none O4),fX];rw[vR rfl t1,vR rfl t2,vR rfl t3];unfold bJ;rfl
 obtain⟨ρ8,hρ8⟩:∃ρ:aA,ρ=[some X,some SZ,some NS,some MS',some ES,some (.ob O1.length),some TH,some (.ob N),some (.ob (O2.length+2)),none]:=⟨_,rfl⟩;obtain⟨ρ9,hρ9⟩:∃ρ:aA,ρ=[some X,some SZ,some NS,some MS',some ES,some (.ob O1.length),some TH,some (.ob N),some (.ob (O2.length+2)),some (.ob O5.length)]:=⟨_,rfl⟩
 have s9:aH 9 (aO lX (ak (aa 7) au)) ρ8 O5=.nx ρ9 O6:=by
  rw[hρ8,hρ9];exact fO ((cI (ma1 rfl)).trans eP)
 have w3:∀O,aa 3 ρ9 O=.ok (.lst (ms.map dM)) O:=λO=>by rw[hρ9,hMS];rfl
 have w4:∀O,aa 4 ρ9 O=.ok (.lst (es.map dN)) O:=λO=>by rw[hρ9,hES];rfl
 have w5:∀O,aa 5 ρ9 O=.ok (.ob O1.length) O:=λO=>by rw[hρ9];rfl
 have w7:∀O,aa 7 ρ9 O=.ok (.ob N) O:=λO=>by rw[hρ9];rfl
 have w9:∀O,aa 9 ρ9 O=.ok (.ob O5.length) O:=λO=>by rw[hρ9];rfl
 have ic:ux "Listed" (aa 7) ρ9 O6=.ok (.bl true) O6:=by
  unfold ux;rw[w7,aD];dsimp only;rw[(T.ext x6).ob];dsimp only;rw[if_pos rfl]
 have ca:=(cI (c:=pW) (maS (w9 O6) (ma1 (w5 O6)))).trans eA;have cf:=(cI (c:=vo) (maS (w7 O6) (ma1 (w9 O6)))).trans eF;have s10:=ifN (a:=aQ (mC (.bl false))) (jN (iJ ic) (jN (iJ ca) (Yp (Yo (g:=gIs true) (b:=mC (.bl true)) (z:=.bl false) cf rfl rfl))));have s11:=qt (mo:=aa 9) (my:=cM (ak (mC (.int 0)) (ak (mC (.int 0)) au))) (mv:=mUn eO (mC (.int 5))) (ρ:=ρ9) (n:=(0,0)) (v:=some (-5)) rfl (w9 O7) hf7 rfl (by omega);rw[<-hO8] at s11;have s12:=Z0 (mo:=aa 9) (mv:=mC (.int 7)) (x:=.int 7) rfl (w9 O8) hf8;rw[<-hO9] at s12;have cw1:=(cI (c:=pZ) (maS (w7 O9) (maS (w3 O9) (maS (w4 O9) (ma1 (w5 O9)))))).trans eW1
 have cw2:=(cI (c:=pZ) (maS (w7 O10) (maS (w3 O10) (maS (w4 O10) (ma1 (w5 O10)))))).trans eW2;have s13:=ifN (a:=aQ (mC (.bl false))) (jN (iJ cw1) (iJ cw2));have cp2:=(cI (c:=lX) (ma1 (w7 O11))).trans eP2;have ca2:=(Yn (c:=pW) (vQ cp2 (CJ (w5 O12)))).trans eA2;refine⟨O12,?_⟩;rw[<-hX];show bu (vL [some X,none,none,none,none,none,none,none,none,none] [])=_;unfold vL;rw[sq s1,sq s2,sq s3,sq s4,sq s5,sq s6,sq s7,sq s8,<-hρ8,sq s9,sq s10,sq s11,sq s12,sq s13,fM,ca2];rfl
theorem all_mk{l:PySem.W.OpenLaw}{w:World}{K:PySem.W.Frag}{h:Heap}{mg:Str->Option Value}{fa:Addr}(X:K.In h)(G:h.Ns mainGlobals mg)(hfa:mg "law" = some (.ref fa))
  {jA:Addr}
  {Mj:Addr}
  {Dy:Addr}{Z2 Ml:Option Addr}{Z3:Array (Option Value)}{Z4 Mm Mp Mq Dz Mr:Value}
  (Z_Listed:ClsAt K "Listed" jA)
  (Z5:PySem.W.findIn K (.ref jA) "end_nodes" = some none)
  (Z6:PySem.W.findIn K (.ref jA) "moves_by_node" = some none)
  (Z7:PySem.W.findIn K (.ref jA) "sizes" = some none)
  (Z8:PySem.W.nsIn K mainGlobals "Trail" = some (some (.ref Mj)))
  (Z9:PySem.W.isIn K (.ref jA) Mj=true)
  (yR:Def K mg "is_whole" yQ)
  (M_Listed___init__:MethAt K jA "__init__" "Listed.__init__" yS)
  (M_Listed_first_node:MethAt K jA "first_node" "Listed.first_node" yW)
  (M_Listed_last_at:MethAt K jA "last_at" "Listed.last_at" z7)
  (M_Listed_nodes_at:MethAt K jA "nodes_at" "Listed.nodes_at" uO)
  (M_Listed_moves_from:MethAt K jA "moves_from" "Listed.moves_from" Ac)
  (M_Listed_is_end:MethAt K jA "is_end" "Listed.is_end" Ae)
  (Ai:Def K mg "all_nodes" Ag)
  (Al:Def K mg "cost_over" Aj)
  (Am:Def K mg "least_cost" rT)
  (Ao:Def K mg "price_nodes" An)
  (Aw:Def K mg "priced" Aq)
  (Az:Def K mg "first_cheapest" uY)
  (Bb:Def K mg "way_of" Ba)
  (Bd:Def K mg "walked" u5)
  (n8:Def K mg "is_same" rZ)
  (Bf:Def K mg "has_just" u9)
  (Bj:Def K mg "is_fair_at" Bg)
  (Bk:Def K mg "fair" sy)
  (Br:Def K mg "_law_cell_at" Bp)
  (Bt:Def K mg "_law_mix" Bs)
  (Bw:Def K mg "_law_whole" Bu)
  (By:Def K mg "_law_sizes" vq)
  (BK:Def K mg "_law_nodes" BJ)
  (BL:Def K mg "_law_moves" vC)
  (BV:Def K mg "_law_ends" BP)
  (BX:Def K mg "_law_least" BW)
  (BZ:Def K mg "_law_walked" vI)
  (Cd:Def K mg "_law_alike" Ca)
  (Cg:Def K mg "_law_way" Ce)
  (DG:PySem.W.nsIn K mainGlobals "law" = some (some (.ref Dy))) (Ms:K.lookup Dy=some ⟨Z4,Z2,.func (PySem.W.fnOf "law" "law" (gb jL) (dz jL) (aR jL) .none Mm Mp Mq Ml Dz Mr),Z3⟩) (QuL:PySem.W.codeIn K Dz "law" = true) (QvT:PySem.W.keepIn K (.ref Dy)=true)
  (B:cC mg)
  (NK:bK K=true):
  ∃fd:FuncData,(∀(s:Shared) (v:Value),BindsTo s fd ⟨[v],[]⟩ [("_law_script",v)])/\∀base:Heap,K.In base->base.Ns mainGlobals mg->cA l.prog w K mg base CX0 8 fa fd ["_law_script"] (sp_law K):=by
 have e:=hfa.symm.trans (PySem.W.mg_of X G DG);cases e;have nT:=Z_Listed.kf X G Z5;have nR:=Z_Listed.kf X G Z6;have kZ:=Z_Listed.kf X G Z7;have Cq:IsC K mg "Listed" "Trail":=⟨_,_,PySem.W.mg_of X G Z_Listed.ns,PySem.W.mg_of X G Z8,Z9⟩;have yV:=Z_Listed.dc X G M_Listed___init__;have yZ:=Z_Listed.dm X G M_Listed_first_node;have z9:=Z_Listed.dm X G M_Listed_last_at;have Ab:=Z_Listed.dm X G M_Listed_nodes_at;have Ad:=Z_Listed.dm X G M_Listed_moves_from;have Af:=Z_Listed.dm X G M_Listed_is_end;have Cm:Def K mg "law" jL:=⟨_,_,PySem.W.mg_of X G DG,xg (st:=jL) Ms QuL QvT⟩;refine⟨PySem.W.fnOf "law" "law" (gb jL) (dz jL) (aR jL) .none Mm Mp Mq Ml Dz Mr,λs v=>.of_eq rfl,λbase _ _=>?_⟩
 have jJ:=@Xi l.prog w K mg base yR B NK;have Cz:=@Xj l.prog w K mg base yV B NK kZ nR nT;have pQ:=@Xl l.prog w K mg base yZ B NK;have pN:=@Xn l.prog w K mg base z9 B NK kZ;have pO:=@Xp l.prog w K mg base Ab B NK kZ;have iH:=@Xr l.prog w K mg base Ad B NK nR;have iI:=@Xv l.prog w K mg base Af B NK nT;have Bl:=@Xw l.prog w K mg base Ai B NK pN pO;have pP:=@Xx l.prog w K mg base Al B NK;have lu:=@Xy l.prog w K mg base Am B NK pP;have Ay:=@Xz l.prog w K mg base Ao B NK pO iH iI lu;have nZ:=@XC l.prog w K mg base Aw B NK pN Ay;have Bc:=@XD l.prog w K mg base Az B NK lu pP
 have Ci:=@XH l.prog w K mg base Bb B NK nZ pQ iI Bc iH;have Ck:=@XJ l.prog w K mg base Bd B NK pQ iH iI;have su:=@XN l.prog w K mg base n8 B NK jJ;have Bm:=@XQ l.prog w K mg base Bf B NK su;have Bo:=@XR l.prog w K mg base Bj B NK iI lu iH;have CG:=@XS l.prog w K mg base Bk B NK Bl Bm jJ Bo;have vM:=@X3 l.prog w K mg base Br B NK;have gw:=@X4 l.prog w K mg base Bt B NK;have pX:=@X6 l.prog w K mg base Bw B NK;have Cr:=@X8 l.prog w K mg base By B NK gw;have Cu:=@Yb l.prog w K mg base BK B NK;have Cv:=@Yc l.prog w K mg base BL B NK gw;have Cw:=@Yd l.prog w K mg base BV B NK gw
 have Cy:=@Ye l.prog w K mg base BX B NK;have Cj:=@Yg l.prog w K mg base BZ B NK;have vN:=@Yh l.prog w K mg base Cd B NK pX;have vO:=@Yi l.prog w K mg base Cg B NK Ci pX Cj Ck;have Qv7:=@Yk l.prog w K mg base Cm B NK Cq Cr vM Cu Cv Cw Cy Cz nZ vN CG vO;obtain⟨f',fd',hm',hk',hb',F',oc',od',osl',lk'⟩:=Qv7;have e2:=(PySem.W.mg_of X G DG).symm.trans hm';cases e2;have e3:=Ms.symm.trans lk';cases e3;exact F'.imp (Ur Z1)
theorem walk{l:PySem.W.OpenLaw}{q:Program}{loose:List Str}{XP:(Str->Option Value)->Heap->Prop}{YP:World->Heap->Prop}{d:DefRec}{K:Params->PySem.W.Frag}(hn:l.most=some 63)(hdf:d.params.defaults=[])
  (hY:∀(w:World) (h:Heap),YP w h->(K w.params).In h)
  (F:∀(w:World) (mg:Str->Option Value) (fa:Addr) (h:Heap),(K w.params).In h->h.Ns mainGlobals mg->mg d.name=some (.ref fa) ->
   ∃fd:FuncData,(∀(s:Shared) (u:Value),BindsTo s fd ⟨[u],[]⟩ [("_law_script",u)])/\∀base:Heap,(K w.params).In base->base.Ns mainGlobals mg->cA l.prog w (K w.params) mg base CX0 8 fa fd ["_law_script"] (sp_law (K w.params))):
  PySem.W.WalkO q loose XP YP l.row.toRowW d [] (λf vs=>PySem.call f vs):=
 L2.walk_ofR (n:=63) (k:=8) (x:="_law_script") (CX:=λ_=>CX0) (sp:=λw=>sp_law (K w.params)) hn (by decide) hdf ⟨rfl,by decide,by decide⟩ hY F (λ_ _ a ns hl ho hS=>⟨a,ns,rfl,hS,hl,ho,λ_=>rfl⟩) λ_ _ _ _ _ z=>z
end K31
open PySem PySem.W PyProof.Rows L2
set_option maxRecDepth 100000 in
set_option maxHeartbeats 0 in
theorem PySem.Challenge.cw_outweave_k31_prices_and_least_ways_holds : PySem.Challenge.rw_outweave_k31_prices_and_least_ways.Holds := by
 w_on;o_law;k_head;(case hw=>w_witness2)
 k_fill
 refine K31.walk (l:=PySem.Challenge.rw_outweave_k31_prices_and_least_ways) rfl rfl (λw h Y=>PySem.W.kIn_of Y) ?F
 case F =>
  intro w mg fa h KX G hmg
  refine' K31.all_mk KX G hmg ⟨?x1,?x2,?x3,?x4,?x5,?x6,?x7⟩ ?x8 ?x9 ?x10 ?x11 ?x12 (mkD KX G ?x13 ?x14 ?x15 ?x16) (mkM ?x17 ?x18 ?x19 ?x20 ?x21) (mkM ?x22 ?x23 ?x24 ?x25 ?x26) (mkM ?x27 ?x28 ?x29 ?x30 ?x31) (mkM ?x32 ?x33 ?x34 ?x35 ?x36) (mkM ?x37 ?x38 ?x39 ?x40 ?x41) (mkM ?x42 ?x43 ?x44 ?x45 ?x46) (mkD KX G ?x47 ?x48 ?x49 ?x50) (mkD KX G ?x51 ?x52 ?x53 ?x54) (mkD KX G ?x55 ?x56 ?x57 ?x58) (mkD KX G ?x59 ?x60 ?x61 ?x62) (mkD KX G ?x63 ?x64 ?x65 ?x66) (mkD KX G ?x67 ?x68 ?x69 ?x70) (mkD KX G ?x71 ?x72 ?x73 ?x74) (mkD KX G ?x75 ?x76 ?x77 ?x78) (mkD KX G ?x79 ?x80 ?x81 ?x82) (mkD KX G ?x83 ?x84 ?x85 ?x86) (mkD KX G ?x87 ?x88 ?x89 ?x90) (mkD KX G ?x91 ?x92 ?x93 ?x94) (mkD KX G ?x95 ?x96 ?x97 ?x98) (mkD KX G ?x99 ?x100 ?x101 ?x102) (mkD KX G ?x103 ?x104 ?x105 ?x106) (mkD KX G ?x107 ?x108 ?x109 ?x110) (mkD KX G ?x111 ?x112 ?x113 ?x114) (mkD KX G ?x115 ?x116 ?x117 ?x118) (mkD KX G ?x119 ?x120 ?x121 ?x122) (mkD KX G ?x123 ?x124 ?x125 ?x126) (mkD KX G ?x127 ?x128 ?x129 ?x130) (mkD KX G ?x131 ?x132 ?x133 ?x134) (mkD KX G ?x135 ?x136 ?x137 ?x138) ?x139 ?x140 ?x141 ?x142 ⟨⟨⟨PySem.W.mg_none_of KX G ?x143,PySem.W.mg_none_of KX G ?x144,PySem.W.mg_none_of KX G ?x145,PySem.W.mg_none_of KX G ?x146,PySem.W.mg_none_of KX G ?x147,PySem.W.mg_none_of KX G ?x148,PySem.W.mg_none_of KX G ?x149,PySem.W.mg_none_of KX G ?x150,PySem.W.mg_none_of KX G ?x151,PySem.W.mg_none_of KX G ?x152,PySem.W.mg_none_of KX G ?x153,PySem.W.mg_none_of KX G ?x154,PySem.W.mg_none_of KX G ?x155,PySem.W.mg_none_of KX G ?x156,PySem.W.mg_none_of KX G ?x157⟩,PySem.W.mg_none_of KX G ?x158⟩,PySem.W.mg_none_of KX G ?x159⟩ ?x160
  (case x1 | x2 | x3 | x4 | x5 | x6 | x7 | x8 | x9 | x10 | x11 | x12 | x13 | x14 | x15 | x16 | x17 | x18 | x19 | x20 | x21 | x22 | x23 | x24 | x25 | x26 | x27 | x28 | x29 | x30 | x31 | x32 | x33 | x34 | x35 | x36 | x37 | x38 | x39 | x40 | x41 | x42 | x43 | x44 | x45 | x46 | x47 | x48 | x49 | x50 | x51 | x52 | x53 | x54 | x55 | x56 | x57 | x58 | x59 | x60 | x61 | x62 | x63 | x64 | x65 | x66 | x67 | x68 | x69 | x70 | x71 | x72 | x73 | x74 | x75 | x76 | x77 | x78 | x79 | x80 | x81 | x82 | x83 | x84 | x85 | x86 | x87 | x88 | x89 | x90 | x91 | x92 | x93 | x94 | x95 | x96 | x97 | x98 | x99 | x100 | x101 | x102 | x103 | x104 | x105 | x106 | x107 | x108 | x109 | x110 | x111 | x112 | x113 | x114 | x115 | x116 | x117 | x118 | x119 | x120 | x121 | x122 | x123 | x124 | x125 | x126 | x127 | x128 | x129 | x130 | x131 | x132 | x133 | x134 | x135 | x136 | x137 | x138 | x139 | x140 | x141 | x142 | x143 | x144 | x145 | x146 | x147 | x148 | x149 | x150 | x151 | x152 | x153 | x154 | x155 | x156 | x157 | x158 | x159=>k_is)
  (case x160=>first | kernel_rfl | decide +kernel)
