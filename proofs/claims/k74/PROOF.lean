import PyProof.Rows.All
import Wide.All
import OpenK.AllK
import Wide.FinOn
import Lean
import PyProof.EqAt
import PyProof.EqKinds
import PyProof.TupleCall
import PySem.Challenge.RW_outweave_k74_whole_least_patch
set_option Elab.async false
set_option linter.all false
set_option maxRecDepth 100000
set_option maxHeartbeats 4000000
section
open PySem PyProof.Rows
abbrev za:=@wpAny_bind
abbrev zb:=@wpAny_pure
abbrev zc:=@Nat.le_refl
abbrev zd:=@List.length_map
abbrev ze:=@Heap.lt_size
abbrev zf:=@decide_eq_false
abbrev zg:=@List.getElem?_eq_some_iff
abbrev zh:=@List.length_append
abbrev zj:=@List.getElem?_eq_getElem
abbrev zk:=@List.mem_singleton
abbrev zl:=@List.map_cons
abbrev zm:=@List.mem_cons
abbrev zn:=@decide_eq_true
abbrev zo:=@List.mem_cons_self
abbrev zp:=@Bool.false_ne_true
abbrev zq:=@List.getElem?_map
abbrev zr:=@List.size_toArray
abbrev zt:=@Heap.get?_push_of_some
abbrev zu:=@Bool.and_eq_true
abbrev zv:=@List.mem_cons_of_mem
abbrev zw:=@List.getElem?_set_ne
abbrev zx:=@List.getElem?_append_left
abbrev zy:=@Nat.zero_add
abbrev zz:=@List.mem_append
abbrev zA:=@Option.some.inj
abbrev zB:=@Nat.ne_of_lt
abbrev zC:=@List.length_cons
abbrev zD:=@List.mem_of_getElem?
abbrev zE:=@List.getElem?_append_right
abbrev zF:=@Heap.get?_push_size
abbrev zG:=@List.map_append
abbrev zH:=@Nat.le_trans
abbrev zI:=@List.mem_append_right
abbrev zJ:=@Nat.lt_of_lt_of_le
abbrev zK:=@List.getD_eq_getElem?_getD
abbrev zL:=@List.mem_map
abbrev zM:=@List.nil_append
abbrev zN:=@Nat.lt_irrefl
abbrev zO:=@wpAny_holding
abbrev zP:=@List.append_assoc
abbrev zQ:=@List.map_nil
abbrev zR:=@List.getElem?_set_self
abbrev zS:=@wpAny_mono
abbrev zT:=@List.append_nil
abbrev zU:=@List.length_set
abbrev zV:=@List.getElem?_eq_none
abbrev zW:=@List.getElem_mem
abbrev zX:=@List.map_map
abbrev zY:=@List.mem_append_left
abbrev zZ:=@Nat.le_add_right
abbrev ja:=@Nat.lt_succ_self
abbrev jb:=@List.nodup_append
abbrev jc:=@Int.natCast_add
abbrev jd:=@Heap.get?_update_other
abbrev je:=@List.length_singleton
abbrev jf:=@Nat.lt_succ_of_lt
abbrev jg:=@of_decide_eq_true
abbrev jh:=@Int.emod_nonneg
abbrev ji:=@Int.emod_lt_of_pos
abbrev jj:=@wpAny_updateSeq
abbrev jk:=@wpAny_letGo
abbrev jl:=@List.map_congr_left
abbrev jm:=@List.flatten_append
abbrev jn:=@List.length_nil
abbrev jo:=@List.all_eq_true
abbrev jp:=@List.ext_getElem?
end
namespace PySem.W.Fast
abbrev tw13197541116529692716:=()
abbrev tw15354081743440254704:=()
abbrev tw3709873439668943057:=()
abbrev tw1453551408725149949:=()
abbrev tw12304738898399959456:=()
abbrev tw13340929651243570764:=()
abbrev tw14523385188287338262:=()
abbrev tw9201475430759213903:=()
abbrev tw12099298478593220159:=()
abbrev tw4689130229318478957:=()
abbrev tw12766131388895444366:=()
abbrev tw14063885551094386877:=()
abbrev tw2299171418997091091:=()
abbrev tw6941163240561617465:=()
abbrev tw8039756902033191668:=()
abbrev tw8884992834854769142:=()
end PySem.W.Fast
namespace PySem.W.Fast
end PySem.W.Fast
namespace L2
open PySem PySem.Spec PyProof.Rows
abbrev Key:=Sum Int Str
def o8:Key->Value->Bool
 | .inl k,v=>Value.isInt k v
 | .inr x,v=>Value.isStrOf x v
def Oj(w:World):Key->Int
 | .inl k=>hashInt k
 | .inr x=>hashStr w x
theorem jZ:∀{k:Key}{v:Value},o8 k v=true->(∃i t,k=Sum.inl i/\v=Value.int i t)\/(∃x t,k=Sum.inr x/\v=Value.str x t)
 | .inl i,v,h=>by
  obtain⟨t,e⟩:=Value.isInt_shape (k:=i) (v:=v) h;exact .inl ⟨i,t,rfl,e⟩
 | .inr x,v,h=>by
  obtain⟨t,e⟩:=Value.isStrOf_shape (x:=x) (v:=v) h;exact .inr ⟨x,t,rfl,e⟩
theorem Ol(i:Int)(t:Tok):o8 (.inl i) (.int i t)=true:=by simp[o8,Value.isInt]
theorem Om(x:Str)(t:Tok):o8 (.inr x) (.str x t)=true:=by simp[o8,Value.isStrOf]
theorem Oo(a b:Int):decide ((Sum.inl a:Key)=Sum.inl b)=(a == b):=by
 by_cases e:a=b
 ·subst e;simp
 ·have h:¬(Sum.inl a:Key)=Sum.inl b:=λq=>e (Sum.inl.inj q)
  rw[zf h];exact(beq_eq_false_iff_ne.mpr e).symm
theorem Oq(a b:Str):decide ((Sum.inr a:Key)=Sum.inr b)=decide (a=b):=by
 by_cases e:a=b
 ·subst e;simp
 ·have h:¬(Sum.inr a:Key)=Sum.inr b:=λq=>e (Sum.inr.inj q)
  rw[zf h,zf e]
theorem Ot(a:Int)(b:Str):decide ((Sum.inl a:Key)=Sum.inr b)=false:=zf (λq=>nomatch q)
theorem Ou(a:Str)(b:Int):decide ((Sum.inr a:Key)=Sum.inl b)=false:=zf (λq=>nomatch q)
def fZ(prog:Program)(w:World):PySem.KeyKind prog w Key where
 is:=o8
 hash:=Oj w
 inj:=λv a b ha hb=>by
  rcases jZ ha with⟨i,t,rfl,rfl⟩ | ⟨x,t,rfl,rfl⟩
  ·rcases jZ hb with⟨j,u,rfl,e⟩ | ⟨y,u,rfl,e⟩
   ·injection e with e1 _;rw[e1]
   ·exact nomatch e
  ·rcases jZ hb with⟨j,u,rfl,e⟩ | ⟨y,u,rfl,e⟩
   ·exact nomatch e
   ·injection e with e1 _;rw[e1]
 byValue:=λk v h=>by
  rcases jZ h with⟨i,t,rfl,rfl⟩ | ⟨x,t,rfl,rfl⟩<;>rfl
 pyHash:=λhv h=>by
  rcases jZ hv with⟨i,t,rfl,rfl⟩ | ⟨x,t,rfl,rfl⟩
  ·exact wpAny_pyHash_int h
  ·exact wpAny_pyHash_str h
 eqBool:=λhu hv h=>by
  rcases jZ hu with⟨i,t,rfl,rfl⟩ | ⟨x,t,rfl,rfl⟩
  ·rcases jZ hv with⟨j,u,rfl,rfl⟩ | ⟨y,u,rfl,rfl⟩
   ·rw[Oo] at h;exact wpAny_eqBool_int h
   ·rw[Ot] at h;exact SeqAt.EqAt.int_str i t y u _ _ _ _ h
  ·rcases jZ hv with⟨j,u,rfl,rfl⟩ | ⟨y,u,rfl,rfl⟩
   ·rw[Ou] at h;exact SeqAt.EqAt.str_int x t j u _ _ _ _ h
   ·rw[Oq] at h;exact wpAny_eqBool_str h
 «strs»:=λk x t v h=>by
  rcases jZ h with⟨i,u,rfl,e⟩ | ⟨y,u,rfl,e⟩
  ·exact nomatch e
  ·injection e with e1 _
   subst e1
   cases v<;>rfl
theorem Ov(prog:Program)(w:World)(i:Int)(t:Tok):(fZ prog w).is (.inl i) (.int i t)=true:=Ol i t
theorem Ox(prog:Program)(w:World)(x:Str)(t:Tok):(fZ prog w).is (.inr x) (.str x t)=true:=Om x t
inductive V where
 | non | bl (b:Bool) | int (i:Int) | str (x:Str) | byt (b:Array UInt8) | flt (b:UInt64) | ref (a:Addr) | ty (n:String)
 deriving DecidableEq
def RelV:V->Value->Prop
 | .non,u=>u=Value.none
 | .bl b,u=>u=Value.bool b
 | .int i,u=>∃t,u=Value.int i t
 | .str x,u=>∃t,u=Value.str x t
 | .byt b,u=>∃t,u=Value.bytes b t
 | .flt b,u=>∃t,u=Value.float b t
 | .ref a,u=>u=Value.ref a
 | .ty n,u=>u=Value.type n
abbrev aX:List V->List Value->Prop:=Paired RelV
theorem aX.length{xs:List V}{us:List Value}(r:aX xs us):xs.length=us.length:=Paired.length r
theorem aX.get:∀{xs:List V}{us:List Value}{i:Nat}{x:V},aX xs us->xs[i]?=some x->∃u,us[i]?=some u/\RelV x u
 | _,_,_,_,.nil,e=>by simp at e
 | _,_,0,_,.cons r _,e=>by simp at e;subst e;exact⟨_,rfl,r⟩
 | _,_,i+1,x,.cons _ t,e=>by
  obtain⟨u,h1,h2⟩:=aX.get (i:=i) (x:=x) t (by simpa using e);exact⟨u,by simpa using h1,h2⟩
theorem aX.set{x:V}{u:Value}(r:RelV x u):∀{xs:List V}{us:List Value} (i:Nat),aX xs us->aX (xs.set i x) (us.set i u)
 | _,_,_,.nil=>.nil
 | _,_,0,.cons _ t=>.cons r t
 | _,_,i+1,.cons q t=>.cons q (aX.set r i t)
theorem aX.append:∀{xs a:List V}{us b:List Value},aX xs us->aX a b->aX (xs++a) (us++b)
 | _,_,_,_,.nil,s=>s
 | _,_,_,_,.cons r t,s=>.cons r (aX.append t s)
theorem aX.take:∀{xs:List V}{us:List Value} (n:Nat),aX xs us->aX (xs.take n) (us.take n)
 | _,_,0,_=>.nil
 | _,_,_+1,.nil=>.nil
 | _,_,n+1,.cons r t=>.cons r (aX.take n t)
theorem aX.drop:∀{xs:List V}{us:List Value} (n:Nat),aX xs us->aX (xs.drop n) (us.drop n)
 | _,_,0,r=>r
 | _,_,_+1,.nil=>.nil
 | _,_,n+1,.cons _ t=>aX.drop n t
theorem aX.none_of:∀{xs:List V}{us:List Value}{i:Nat},aX xs us->xs[i]?=none->us[i]?=none:=λ{xs us i} r e=>by
 have h1:=r.length;have h2:xs.length<=i:=List.getElem?_eq_none_iff.mp e;exact List.getElem?_eq_none_iff.mpr (by omega)
def fQ:Option V->Option Value->Prop
 |some v,some u=>RelV v u
 |none,none=>True
 | _,_=>False
def KV{κ:Type}:List (κ×V)->List (κ×Value)->Prop:=Paired λ(p:κ×V) (q:κ×Value)=>p.1=q.1/\RelV p.2 q.2
def kV:Key->V
 | .inl i=>.int i
 | .inr x=>.str x
inductive HO where
  | lst (xs:List V)
  | tup (xs:List V)
  | dK (kvs:List (Key×V)) | dT (kvs:List (List Key×V))
  | set (S:Int->Bool) (n:Nat)
  | ins (C dx:Addr) (fs:List (Str×V))
  | own (x:Addr)
  | xd (fs:List (Str×V))
  | met (f x:Addr)
  | rng (lo hi:Int)
  | frz (o:Obj) (u:HO)
  | tbl (ps:Array Value)
  | ext (φ:Heap->Prop)
abbrev Hp:=Addr->Option HO
def upd(H:Hp)(a:Addr)(o:HO):Hp:=λb=>if b=a then some o else H b
theorem bW{H:Hp}{a:Addr}{o:HO}:upd H a o a=some o:=by unfold upd;rw[if_pos rfl]
theorem aP{H:Hp}{a b:Addr}{o:HO}(h:b≠a):upd H a o b=H b:=by unfold upd;rw[if_neg h]
theorem ne_of{H:Hp}{a b:Addr}{o u:HO}(h:H a=some o)(h':H b=some u)(d:o≠u):a≠b:=by
 intro e;subst e;rw[h] at h';exact d (zA h')
theorem cG{H:Hp}{a b:Addr}{o:HO}(h:H a=some o)(h':H b=none):a≠b:=by
 intro e;subst e;rw[h] at h';cases h'
section
variable (P:Program)(w:World)
def cW(H:Hp)(h:Heap)(a:Addr):HO->Prop
 | .lst c=>c.length<=sizeLine/\∃(b:List Value) (n:Nat),aX c b/\h.get? a=some {cls:=.type "list",data:=.seq b.toArray n}
 | .tup c=>c.length<=sizeLine/\∃b:List Value,aX c b/\IsTup h a b.toArray
 | .dK kvs=>kvs.length<=sizeLine/\(a == sysModules)=false/\∃g,KV kvs g/\h.DictOf (fZ P w) a g
 | .dT kvs=>kvs.length<=sizeLine/\(a == sysModules)=false/\∃c:List (List Key×Addr×Value),
   Paired (λ(p:List Key×V) (q:List Key×Addr×Value)=>p.1=q.1/\H q.2.1=some (.tup (p.1.map kV))/\RelV p.2 q.2.2) kvs c /\
   ∃o i j,h.get? a=some o/\o.ExactDict/\o.data=.dict i j/\i.toList=c.map (entryOfKey (tupleKind (fZ P w)))/\(c.map (·.1)).Nodup
 | .set S n=>h.SetOf (intKind P w) a S n
 | .ins C dx fs=>H dx=some (.own a)/\fs.length<=1000/\dx≠a/\h.get? a=some (PySem.W.instObj C dx) /\
   ∃d,h.Ns1 dx d/\(∀f,fQ (fs.lookup f) (d f))/\PySem.Within d (fs.map (·.1))
 | .own _=>∃o,h.get? a=some o
 | .xd fs=>∃d,h.Ns1 a d/\∀f,fQ (fs.lookup f) (d f)
 | .rng lo hi=>∃t u v,h.get? a=some {cls:=.type "range",data:=.fields #[.int lo t,.int hi u,.int 1 v]}
 | .frz o u=>h.get? a=some o/\cW H h a u
 | .tbl ps=>h.get? a=some {cls:=.none,data:=.fields ps}
 | .met f x=>h.get? a=some (PySem.W.methodObj (.ref f) (.ref x))
 | .ext φ=>φ h/\(∃o,h.get? a=some o)/\∀h1 h2:Heap,φ h1->(∀o,h1.get? a=some o->h2.get? a=some o)->φ h2
def HOk(H:Hp)(h:Heap):Prop:=∀a o,H a=some o->cW P w H h a o
end
section
variable {P:Program}{w:World}{H H':Hp}{h h':Heap}{a:Addr}{o:HO}
theorem cW.lt(x:cW P w H h a o):a<h.objs.size:=by
 cases o with
 |lst c=>obtain⟨_,_,_,_,e⟩:=x;exact ze e
 |tup c=>obtain⟨_,_,_,p⟩:=x;exact p.lt
 |dK b=>obtain⟨_,_,_,_,o,_,_,e,_⟩:=x;exact ze e
 |dT b=>obtain⟨_,_,_,_,o,_,_,e,_⟩:=x;exact ze e
 |set S n=>obtain⟨o,_,_,_,e,_⟩:=x;exact ze e
 |ins C g fs=>obtain⟨_,_,_,e,_⟩:=x;exact ze e
 |own y=>obtain⟨_,e⟩:=x;exact ze e
 |xd fs=>obtain⟨_,⟨_,_,_,e,_⟩,_⟩:=x;exact ze e
 |rng lo hi=>obtain⟨_,_,_,e⟩:=x;exact ze e
 |frz ob u=>obtain⟨e,_⟩:=x;exact ze e
 |tbl d=>exact ze (show h.get? a=some _ from x)
 |met f y=>exact ze (show h.get? a=some _ from x)
 |ext φ=>obtain⟨_,⟨_,e⟩,_⟩:=x;exact ze e
theorem Paired.mapP{α β:Type}{F G:α->β->Prop}:∀{d:List α}{c:List β},Paired F d c->(∀a b,F a b->G a b)->Paired G d c
 | _,_,.nil,_=>.nil
 | _,_,.cons r t,f=>.cons (f _ _ r) (Paired.mapP t f)
theorem cW.stay(x:cW P w H h a o)(k:∀b u,(b=a\/H b=some (.own a))->h.get? b=some u->h'.get? b=some u)
  (J:∀b,H b=some (.own a)->H' b=some (.own a)) (I:∀b xs,H b=some (.tup xs)->H' b=some (.tup xs)):cW P w H' h' a o:=by
 induction o with
 |lst xs=>obtain⟨z,j,n,r,e⟩:=x;exact⟨z,j,n,r,k _ _ (.inl rfl) e⟩
 |tup xs=>obtain⟨z,j,r,ob,e,c⟩:=x;exact⟨z,j,r,ob,k _ _ (.inl rfl) e,c⟩
 |dK B=>obtain⟨z,y,F,r,ob,g,i,e,c⟩:=x;exact⟨z,y,F,r,ob,g,i,k _ _ (.inl rfl) e,c⟩
 |dT B =>
  obtain⟨z,y,xs,r,ob,g,i,e,c⟩:=x;exact⟨z,y,xs,Paired.mapP r λp q z=>⟨z.1,I _ _ z.2.1,z.2.2⟩,ob,g,i,k _ _ (.inl rfl) e,c⟩
 |set S n=>obtain⟨ob,g,i,t,e,c⟩:=x;exact⟨ob,g,i,t,k _ _ (.inl rfl) e,c⟩
 |ins C dx fs =>
  obtain⟨d,z,ne,e,m,⟨l,g,i,L,c⟩,r⟩:=x;exact⟨J _ d,z,ne,k _ _ (.inl rfl) e,m,⟨l,g,i,k _ _ (.inr d) L,c⟩,r⟩
 |own y=>obtain⟨ob,e⟩:=x;exact⟨ob,k _ _ (.inl rfl) e⟩
 |xd fs=>obtain⟨m,⟨l,g,i,e,c⟩,r⟩:=x;exact⟨m,⟨l,g,i,k _ _ (.inl rfl) e,c⟩,r⟩
 |rng lo hi=>obtain⟨t,u,v,e⟩:=x;exact⟨t,u,v,k _ _ (.inl rfl) e⟩
 |frz ob u G=>obtain⟨e,q⟩:=x;exact⟨k _ _ (.inl rfl) e,G q⟩
 |tbl ps =>
  have e:h.get? a=some {cls:=.none,data:=.fields ps}:=x;show h'.get? a=some {cls:=.none,data:=.fields ps};exact k a _ (.inl rfl) e
 |met f y =>
  have e:h.get? a=some (PySem.W.methodObj (.ref f) (.ref y)):=x;show h'.get? a=some (PySem.W.methodObj (.ref f) (.ref y));exact k a _ (.inl rfl) e
 |ext φ=>obtain⟨p,⟨o,e⟩,E⟩:=x;exact⟨E _ _ p λo q=>k _ _ (.inl rfl) q,⟨o,k _ _ (.inl rfl) e⟩,E⟩
theorem HOk.lt(x:HOk P w H h)(e:H a=some o):a<h.objs.size:=(x a o e).lt
theorem HOk.fresh(x:HOk P w H h)(e:h.objs.size<=a):H a=none:=by
 cases q:H a with
 |none=>rfl
 |some u=>exact absurd (zJ (x.lt q) e) (zN _)
theorem HOk.kept(x:HOk P w H h)(k:∀b u,h.get? b=some u->h'.get? b=some u):HOk P w H h':=λa o e =>
 (x a o e).stay (λb u _ q=>k b u q) (λ_ q=>q) λ_ _ q=>q
theorem HOk.laid(x:HOk P w H h)(k:∀b u,h.get? b=some u->h'.get? b=some u)(i:h.objs.size<=a)(d:cW P w (upd H a o) h' a o):HOk P w (upd H a o) h':=λb u e=>by
 have f:=x.fresh i
 by_cases g:b=a
 ·subst g;rw[bW] at e;cases e;exact d
 ·rw[aP g] at e
  exact(x b u e).stay (λc v _ q=>k c v q) (λc q=>by rw[aP (cG q f)];exact q) λc j q=>by rw[aP (cG q f)];exact q
end
def Rd(H:Hp)(a:Addr)(u:HO):Prop:=H a=some u\/∃o,H a=some (.frz o u)
theorem Rd.ok{P:Program}{w:World}{H:Hp}{h:Heap}{a:Addr}{u:HO}(r:Rd H a u)(x:HOk P w H h):cW P w H h a u:=by
 rcases r with r | ⟨o,r⟩
 ·exact x a u r
 ·obtain⟨_,q⟩:=x a _ r;exact q
def Mut:Option HO->Prop
 |some (.lst _)=>True
 |some (.dK _)=>True
 |some (.dT _)=>True
 |some (.set _ _)=>True
 |some (.ins _ _ _)=>True
 |some (.ext _)=>True
 | _=>False
section
variable {P:Program}{w:World}{H:Hp}{h h':Heap}{x e:Addr}{o':HO}
theorem HOk.write(ok:HOk P w H h)(g:Mut (H x))(m:e=x\/H e=some (.own x))(k:∀b u,b≠e->h.get? b=some u->h'.get? b=some u)(l:∃u,h'.get? e=some u)
  (j:cW P w (upd H x o') h' x o'):HOk P w (upd H x o') h':=λb u q=>by
 have d:∀c y,H c=some (.own y)->c≠x:=λc y r z=>by subst z;rw[r] at g;exact g
 have f:∀c xs,H c=some (.tup xs)->c≠x:=λc xs r z=>by subst z;rw[r] at g;exact g
 by_cases hb:b=x
 ·subst hb;rw[bW] at q;cases q;exact j
 ·rw[aP hb] at q
  by_cases a:b=e
  ·have q':H b=some (.own x):=by
    rcases m with z | z
    ·exact absurd (a.trans z) hb
    ·rw[a];exact z
   rw[q] at q';cases q';obtain⟨v,n⟩:=l;exact⟨v,by rw[a];exact n⟩
  ·refine(ok b u q).stay (λc v i r=>k c v ?_ r) (λc r=>by rw[aP (d c b r)];exact r) λc xs r=>by rw[aP (f c xs r)];exact r
   rcases i with rfl | i
   ·exact a
   ·rintro rfl
    rcases m with z | z
    ·exact d c b i z
    ·rw[i] at z;cases z;exact hb rfl
end
structure Un(fs ex:List Addr)(H H':Hp)(h h':Heap):Prop where
 keep:∀b o,h.get? b=some o->H b=none->b∉fs->b∉ex->h'.get? b=some o
 slot:∀b o,h.get? b=some o->H b=none->b∈fs->b∉ex->∃sl,h'.get? b=some {o with slots:=sl}
 free:∀b o,h.get? b=some o->H b=none->b∉ex->H' b=none
 there:∀b o,h.get? b=some o->b∉ex->∃o',h'.get? b=some o'
 tups:∀b xs,H b=some (.tup xs)->H' b=some (.tup xs)
 frzs:∀b o u,H b=some (.frz o u)->H' b=some (.frz o u)
 tbls:∀b ps,H b=some (.tbl ps)->∃more,H' b=some (.tbl (ps++more))
section
variable {fs fs' ex ex':List Addr}{H H1 H2:Hp}{h h1 h2 h':Heap}{a x e:Addr}{o:HO}
theorem Un.any(u:Un fs ex H H1 h h1){b:Addr}{ob:Obj}(q:h.get? b=some ob)(n:H b=none)(c:b∉ex):∃sl,h1.get? b=some {ob with slots:=sl}:=by
 by_cases d:b∈fs
 ·exact u.slot b ob q n d c
 ·exact⟨ob.slots,u.keep b ob q n d c⟩
theorem Un.kept(k:∀b u,h.get? b=some u->h'.get? b=some u):Un fs ex H H h h' :=
 ⟨λb ob q _ _ _=>k b ob q,λb ob q _ _ _=>⟨ob.slots,k b ob q⟩,λ_ _ _ n _=>n,λb ob q _=>⟨ob,k b ob q⟩,λ_ _ q=>q,λ_ _ _ q=>q,λ_ c q=>⟨#[],by rw[q];simp⟩⟩
theorem Un.refl:Un fs ex H H h h:=Un.kept λ_ _ q=>q
theorem Un.laid(k:∀b u,h.get? b=some u->h'.get? b=some u)(hp:h.objs.size<=a)(hn:H a=none):Un fs ex H (upd H a o) h h' where
 keep:=λb u q _ _ _=>k b u q
 slot:=λb u q _ _ _=>⟨u.slots,k b u q⟩
 free:=λb u q n _=>by rw[aP (zB (zJ (ze q) hp))];exact n
 there:=λb u q _=>⟨u,k b u q⟩
 tups:=λb xs q=>by rw[aP (cG q hn)];exact q
 frzs:=λb u xs q=>by rw[aP (cG q hn)];exact q
 tbls:=λb ps q=>⟨#[],by rw[aP (cG q hn),q];simp⟩
theorem Un.write(d:Mut (H x))(m:e=x\/H e=some (.own x))(k:∀b u,b≠e->h.get? b=some u->h'.get? b=some u)(g:∃u,h'.get? e=some u):Un fs ex H (upd H x o) h h':=by
 have i:∀b,H b=none->b≠x:=λb n z=>by subst z;rw[n] at d;exact d
 have j:∀b,H b=none->b≠e:=λb n z=>by
  subst z
  rcases m with r | r
  ·exact i b n r
  ·rw[n] at r;cases r
 have f:∀b u,H b=some u->¬Mut (some u)->b≠x:=λb u q nm z=>by subst z;rw[q] at d;exact nm d
 refine⟨λb u q n _ _=>k b u (j b n) q,λb u q n _ _=>⟨u.slots,k b u (j b n) q⟩,λb u q n _=>by rw[aP (i b n)];exact n,λb u q _=>?_,
  λb l q=>by rw[aP (f b _ q λz=>z)];exact q,λb u l q=>by rw[aP (f b _ q λz=>z)];exact q,λb y q=>⟨#[],by rw[aP (f b _ q λz=>z),q];simp⟩⟩
 by_cases c:b=e
 ·subst c;exact g
 ·exact⟨u,k b u c q⟩
end
def trk(h:Heap)(H:Hp):List Addr:=(List.range h.objs.size).filter λa=>(H a).isSome
def gM(h:Heap)(H:Hp):Heap:=PySem.W.hideAll h (trk h H)
theorem Er(h:Heap)(H:Hp):(gM h H).objs.size=h.objs.size:=PySem.W.hideAll_size _ _
theorem Es{h:Heap}{H:Hp}{b:Addr}{o:Obj}(e:h.get? b=some o)(n:H b=none):(gM h H).get? b=some o :=
 PySem.W.hideAll_get _ e λa=>by
  have q:(H b).isSome=true:=(List.mem_filter.mp a).2;rw[n] at q;simp at q
theorem Et{h:Heap}{H:Hp}{b:Addr}{o:Obj}(e:(gM h H).get? b=some o):h.get? b=some o/\H b=none:=by
 have e':h.get? b=some o:=PySem.W.of_hideAll (trk h H) e;refine⟨e',?_⟩
 cases q:H b with
 |none=>rfl
 |some x =>
  have a:b∈trk h H:=List.mem_filter.mpr ⟨List.mem_range.mpr (ze e'),by simp[q]⟩;have z:(gM h H).get? b=none:=PySem.W.hideAll_none (trk h H) a;rw[z] at e;cases e
def Oz(g h:Heap)(L:Addr):List (Addr×Obj):=(List.range h.objs.size).filterMap λa=>if a=L\/(g.get? a).isSome=true then none else(h.get? a).map λo=>(a,o)
def rest(g h:Heap)(L d:Addr):List (Addr×Obj):=(Oz g h L).filter λp=>decide (p.1≠d)
structure Mod(K:PySem.W.Frag)(mg:Str->Option Value)(base:Heap):Prop where
 kin:K.In base
 glob:base.Ns mainGlobals mg
 blt:∃mb,base.Ns builtinsNs mb/\∀x:Str,x≠"__name__"->mb x=bootBuiltins x
 nolimit:base.NoLimit
structure Cx where
 prog:Program
 w:World
 K:PySem.W.Frag
 mg:Str->Option Value
 base:Heap
 A:Around
 N:List Str
 s₀:Shared
 H₀:Hp
 env:Env
 outer:List Env
 stack:List Env
 ex:List Addr
 fn:Str->Bool
 calm:Bool
 pn:List (Addr×Obj)
 xe:Value->Shared->Prop
def frs(l:List Env):List Addr:=l.filterMap (·.frame)
abbrev Cx.fs(X:Cx):List Addr:=frs X.outer
def Vis(a:Scope)(x:Str):Prop:=a.names.lookup x=some .local\/a.names.lookup x=some .cell\/a.names.lookup x=some .free
def Loc(a:Scope)(x:Str):Prop:=a.names.lookup x=some .local\/a.names.lookup x=some .cell
def Look(env:Env)(h:Heap)(m:Str->Option Value)(x:Str)(u:Value):Prop :=
 (env.kindOf x=some .local/\m x=some u)\/((env.kindOf x=some .cell\/env.kindOf x=some .free)/\∃c,env.cells.lookup x=some c/\h.IsCell c (some u))
structure Cx.Ok(X:Cx):Prop where
 mod:Mod X.K X.mg X.base
 kind:X.env.scope.kind=.function
 glob:X.env.globals=mainGlobals
 blt:X.env.builtins=builtinsNs
 above:X.s₀.heap.objs.size<=X.env.locals
 inj:∀x y c,X.env.cells.lookup x=some c->X.env.cells.lookup y=some c->x=y
 has:∀x,(X.env.kindOf x=some .cell\/X.env.kindOf x=some .free)->∃c,X.env.cells.lookup x=some c
 cab:∀x c,X.fn x=true->X.env.cells.lookup x=some c->X.s₀.heap.objs.size<=c
 hd:X.calm=true->X.A.handled=none
 frames:X.A.frames=some X.stack
 stk:X.stack=X.outer\/(X.stack=X.env::X.outer/\X.env.frame=some X.env.locals)
 exf:∀b∈X.ex,b≠X.env.locals/\∀x c,X.env.cells.lookup x=some c->c≠b
 bs:∀b o,X.base.get? b=some o->X.s₀.heap.get? b=some o/\X.H₀ b=none
 bsz:X.base.objs.size<=X.s₀.heap.objs.size
 noex:∀b o,X.base.get? b=some o->b∉X.ex
 exfs:∀b∈X.ex,b∉X.fs
 funs:X.s₀.heap.FunFrames X.base X.outer
 frf:∀b∈X.fs,X.H₀ b=none
structure Inv(X:Cx)(pins:List (Addr×Obj))(σ:List (Option V))(H:Hp)(s:Shared):Prop where
 ok:X.Ok
 os:s.os=X.s₀.os
 bare:AllBare s.gens
 base:Un X.fs X.ex X.H₀ H X.s₀.heap s.heap
 loc:∃m,s.heap.Ns X.env.locals m/\∀(i:Nat) (x:Str) (v:V),X.N[i]?=some x->σ[i]?=some (some v)->Vis X.env.scope x->∃u,RelV v u/\Look X.env s.heap m x u
 cell:∀x c,X.env.cells.lookup x=some c->∃v,s.heap.IsCell c v
 free:H X.env.locals=none
 freeC:∀x c,X.env.cells.lookup x=some c->H c=none
 pin:∀p∈X.pn++pins,s.heap.get? p.1=some p.2/\H p.1=none/\p.1≠X.env.locals/\p.1∉X.fs/\∀v,p.2.data≠.cell v
 hok:HOk X.prog X.w H s.heap
 len:σ.length=X.N.length
section
variable {X:Cx}{pins:List (Addr×Obj)}{σ:List (Option V)}{H H':Hp}{s:Shared}{h':Heap}
theorem Cx.Ok.nofr(ok:X.Ok){b:Addr}{o:Obj}(e:X.base.get? b=some o):b∉X.fs:=λa=>by
 have:=(ok.funs.mem a).1
 rw[e] at this;cases this
theorem Inv.bs(I:Inv X pins σ H s):∀b o,X.base.get? b=some o->s.heap.get? b=some o/\H b=none:=λb o e =>
 ⟨I.base.keep b o (I.ok.bs b o e).1 (I.ok.bs b o e).2 (I.ok.nofr e) (I.ok.noex b o e),I.base.free b o (I.ok.bs b o e).1 (I.ok.bs b o e).2 (I.ok.noex b o e)⟩
theorem Inv.bk(I:Inv X pins σ H s):∀b o,X.base.get? b=some o->s.heap.get? b=some o:=λb o e=>(I.bs b o e).1
theorem Inv.mod(I:Inv X pins σ H s):Mod X.K X.mg X.base:=I.ok.mod
theorem Inv.kIn(I:Inv X pins σ H s):X.K.In s.heap:=I.ok.mod.kin.keeps I.bk
theorem Inv.lt(I:Inv X pins σ H s):X.env.locals<s.heap.objs.size:=let ⟨_,hn,_⟩:=I.loc;hn.lt
theorem Inv.sz(I:Inv X pins σ H s):X.s₀.heap.objs.size<=s.heap.objs.size:=zH I.ok.above (Nat.le_of_lt I.lt)
theorem Inv.nofs(I:Inv X pins σ H s){a:Addr}(h:s.heap.objs.size<=a):a∉X.fs:=λc=>by
 obtain⟨_,o,b,_⟩:=I.ok.funs.mem c;exact absurd (zJ (ze b) (zH I.sz h)) (zN _)
theorem Inv.cne(I:Inv X pins σ H s):∀x c,X.env.cells.lookup x=some c->c≠X.env.locals:=λx c e z=>by
 obtain⟨v,o,d,hd⟩:=I.cell x c e;obtain⟨m,⟨f,g,h,a,b,_⟩,_⟩:=I.loc;rw[z,a] at d;cases d;rw[b] at hd;cases hd
theorem Inv.funs(I:Inv X pins σ H s):s.heap.FunFrames X.base X.outer:=by
 have all:∀(l:List Env),(∀b∈frs l,b∈X.fs)->X.s₀.heap.FunFrames X.base l->s.heap.FunFrames X.base l:=by
  intro l
  induction l with
  |nil=>intro _ _;trivial
  |cons env r ih =>
   intro f j;obtain⟨k,⟨L,o,a,i,h,hd⟩,g⟩:=j;have d:L∈X.fs:=f L (by unfold frs;rw[List.filterMap_cons,a];exact zo)
   obtain⟨sl,e⟩:=I.base.slot L o h (I.ok.frf L d) d λz=>I.ok.exfs L z d
   exact⟨k,⟨L,_,a,i,e,hd⟩,ih (λb c=>f b (by unfold frs;rw[List.filterMap_cons,a];exact zv _ c)) g⟩
 exact all X.outer (λ_ c=>c) I.ok.funs
theorem Inv.stack(I:Inv X pins σ H s):s.heap.FunFrames X.base X.stack:=by
 rcases I.ok.stk with e | ⟨e,b⟩
 ·rw[e];exact I.funs
 ·rw[e];obtain⟨m,a,_⟩:=I.loc;refine .cons (by rw[I.ok.kind];decide) b a ?_ I.funs;exact Heap.get?_none_of_le (zH I.ok.bsz I.ok.above)
theorem Inv.stkSub(I:Inv X pins σ H s):∀b∈frs X.stack,b∈X.env.locals::X.fs:=λb a=>by
 rcases I.ok.stk with e | ⟨e,c⟩
 ·rw[e] at a;exact zv _ a
 ·rw[e] at a;unfold frs at a;rw[List.filterMap_cons,c] at a;exact a
theorem Inv.stkFree(I:Inv X pins σ H s):∀b∈frs X.stack,H b=none:=λb a=>by
 rcases zm.mp (I.stkSub b a) with e | a
 ·rw[e];exact I.free
 ·obtain⟨_,o,c,_⟩:=I.ok.funs.mem a
  exact I.base.free b o c (I.ok.frf b a) λz=>I.ok.exfs b z a
theorem Inv.step{g':Array GenState}{t':Nat}{d':Drawn}{ch:List Addr}(I:Inv X pins σ H s)
  (g:∀b∈ch,(b∈X.ex\/X.s₀.heap.objs.size<=b)/\b≠X.env.locals/\(∀x c,X.env.cells.lookup x=some c->c≠b)/\∀p∈X.pn++pins,p.1≠b)
  (keep:∀b o,b≠X.env.locals->b∉X.fs->b∉ch->s.heap.get? b=some o->H b=none->h'.get? b=some o)
  (slot:∀b o,b≠X.env.locals->b∈X.fs->b∉ch->s.heap.get? b=some o->H b=none->∃sl,h'.get? b=some {o with slots:=sl}) (free:∀b o,b∉ch->s.heap.get? b=some o->H b=none->H' b=none)
  (there:∀b o,b∉ch->s.heap.get? b=some o->∃B,h'.get? b=some B)
  (tups:∀b xs,H b=some (.tup xs)->H' b=some (.tup xs)) (frzs:∀b o u,H b=some (.frz o u)->H' b=some (.frz o u)) (tbls:∀b ps,H b=some (.tbl ps)->∃more,H' b=some (.tbl (ps++more)))
  (ns:∀m,s.heap.Ns X.env.locals m->h'.Ns X.env.locals m) (hok:HOk X.prog X.w H' h') (U:AllBare g'):
  Inv X pins σ H' {s with heap:=h',gens:=g',drawn:=d',toks:=t'}:=by
 have F:∀b o,X.s₀.heap.get? b=some o->b≠X.env.locals:=λb o e=>zB (zJ (ze e) I.ok.above)
 have neC:∀b o,X.s₀.heap.get? b=some o->b∉X.ex->b∉ch:=λb o e a j=>by
  rcases(g b j).1 with z | z
  ·exact a z
  ·exact absurd (zJ (ze e) z) (zN _)
 have cellK:∀x c,X.env.cells.lookup x=some c->∀v,s.heap.IsCell c v->h'.IsCell c v:=λx c e v ⟨o,y,hd⟩=>by
  have f:c∉ch:=λz=>(g c z).2.2.1 x c e rfl
  by_cases O:c∈X.fs
  ·obtain⟨sl,q⟩:=slot c o (I.cne x c e) O f y (I.freeC x c e);exact⟨_,q,hd⟩
  ·exact⟨o,keep c o (I.cne x c e) O f y (I.freeC x c e),hd⟩
 refine⟨I.ok,I.os,U,⟨λb o e n j a=>?_,λb o e n j a=>?_,λb o e n a=>?_,λb o e a=>?_,λb xs e=>tups b xs (I.base.tups b xs e),λb o xs e=>frzs b o xs (I.base.frzs b o xs e),λb ps e=>?_⟩,?_,λx c e=>?_,?_,λx c e=>?_,λp L=>?_,hok,I.len⟩
 ·exact keep b o (F b o e) j (neC b o e a) (I.base.keep b o e n j a) (I.base.free b o e n a)
 ·obtain⟨sl,h⟩:=I.base.slot b o e n j a;obtain⟨G,E⟩:=slot b _ (F b o e) j (neC b o e a) h (I.base.free b o e n a);exact⟨G,E⟩
 ·obtain⟨B,h⟩:=I.base.there b o e a;exact free b B (neC b o e a) h (I.base.free b o e n a)
 ·obtain⟨B,h⟩:=I.base.there b o e a;exact there b B (neC b o e a) h
 ·obtain⟨Q,h⟩:=I.base.tbls b ps e;obtain⟨P,E⟩:=tbls b _ h;exact⟨Q++P,by rw[E,Array.append_assoc]⟩
 ·obtain⟨m,R,T⟩:=I.loc;refine⟨m,ns m R,λi x v h E W=>?_⟩;obtain⟨u,r,l⟩:=T i x v h E W;refine⟨u,r,?_⟩
  rcases l with l | ⟨k,c,e,z⟩
  ·exact .inl l
  ·exact .inr ⟨k,c,e,cellK x c e _ z⟩
 ·obtain⟨v,z⟩:=I.cell x c e;exact⟨v,cellK x c e v z⟩
 ·obtain⟨m,⟨o,_,_,y,_⟩,_⟩:=I.loc;exact free _ o (λz=>(g _ z).2.1 rfl) y I.free
 ·obtain⟨v,o,y,hd⟩:=I.cell x c e;exact free c o (λz=>(g c z).2.2.1 x c e rfl) y (I.freeC x c e)
 ·obtain⟨e,n,ne,J,d⟩:=I.pin p L
  have f:p.1∉ch:=λz=>(g p.1 z).2.2.2 p L rfl
  exact⟨keep p.1 p.2 ne J f e n,free p.1 p.2 f e n,ne,J,d⟩
theorem Inv.un{t':Nat}(I:Inv X pins σ H s)(u:Un X.fs [] H H' s.heap h')(hok:HOk X.prog X.w H' h'):Inv X pins σ H' {s with heap:=h',toks:=t'}:=by
 obtain⟨m,⟨o,x,y,g,r⟩,_⟩:=id I.loc;obtain⟨sl,j⟩:=u.any g I.free (by simp)
 exact I.step (g':=s.gens) (d':=s.drawn) (ch:=[]) (λ_ z=>nomatch z) (λb o _ c _ e n=>u.keep b o e n c (by simp)) (λb o _ c _ e n=>u.slot b o e n c (by simp)) (λb o _ e n=>u.free b o e n (by simp)) (λb o _ e=>u.there b o e (by simp)) u.tups u.frzs u.tbls (λl i=>by
  obtain⟨k,d,f,a,h⟩:=i;rw[g] at a;cases a
  exact⟨_,d,f,j,h⟩) hok I.bare
theorem Inv.call{g':Array GenState}{t':Nat}{d':Drawn}{ch:List Addr}(I:Inv X pins σ H s)(u:Un (frs X.stack) ch H H' s.heap h')(hok:HOk X.prog X.w H' h')(y:AllBare g')
  (f:∀b∈ch,(b∈X.ex\/X.s₀.heap.objs.size<=b)/\b≠X.env.locals/\(∀x c,X.env.cells.lookup x=some c->c≠b)/\∀p∈X.pn++pins,p.1≠b):
  Inv X pins σ H' {s with heap:=h',gens:=g',drawn:=d',toks:=t'}:=by
 obtain⟨m,⟨o,G,J,j,r⟩,_⟩:=id I.loc
 obtain⟨sl,g⟩:=u.any j I.free λz=>(f _ z).2.1 rfl
 exact I.step (ch:=ch) f (λb o g B a e n=>u.keep b o e n (λz=>(zm.mp (I.stkSub b z)).elim g B) a) (λb o _ _ a e n=>u.any e n a) (λb o a e n=>u.free b o e n a) (λb o a e=>u.there b o e a) u.tups u.frzs u.tbls (λF l=>by
  obtain⟨E,h,i,d,k⟩:=l;rw[j] at d;cases d
  exact⟨_,h,i,g,k⟩) hok y
theorem Inv.turned{t':Nat}{it:Addr}(I:Inv X pins σ H s)(k:∀b o,b≠it->s.heap.get? b=some o->h'.get? b=some o)(h:H it=none)(f:it≠X.env.locals)
  (h1:it∈X.ex\/X.s₀.heap.objs.size<=it) (h2:∀x c,X.env.cells.lookup x=some c->c≠it) (h3:∀p∈X.pn++pins,p.1≠it):Inv X pins σ H {s with heap:=h',toks:=t'}:=by
 have d:∀b u,H b=some u->b≠it:=λb u e z=>by rw[z,h] at e;cases e
 refine I.step (g':=s.gens) (d':=s.drawn) (ch:=[it]) (λb j=>?_) (λb o _ _ a e _=>k b o (λz=>a (by simp[z])) e) (λb o _ _ a e _=>⟨o.slots,k b o (λz=>a (by simp[z])) e⟩) (λ_ _ _ _ n=>n)
  (λb o a e=>⟨o,k b o (λz=>a (by simp[z])) e⟩) (λ_ _ e=>e) (λ_ _ _ e=>e) (λb B e=>⟨#[],by rw[e];simp⟩) (λm i=>?_) (λb u e=>?_) I.bare
 ·have e:b=it:=by simpa using j
  subst e;exact⟨h1,f,h2,h3⟩
 ·obtain⟨o,l,y,g,r⟩:=i;exact⟨o,l,y,k _ o (Ne.symm f) g,r⟩
 ·refine(I.hok b u e).stay (λc v a q=>k c v ?_ q) (λ_ q=>q) λ_ _ q=>q
  rcases a with z | z
  ·rw[z];exact d b u e
  ·exact d c _ z
theorem Inv.tok(I:Inv X pins σ H s)(t:Nat):Inv X pins σ H {s with toks:=t}:=I.un (h':=s.heap) (t':=t) Un.refl I.hok
theorem Inv.kept{t':Nat}(I:Inv X pins σ H s)(k:∀b u,s.heap.get? b=some u->h'.get? b=some u):Inv X pins σ H {s with heap:=h',toks:=t'}:=I.un (Un.kept k) (I.hok.kept k)
theorem Inv.laid{a:Addr}{o:HO}{t':Nat}(I:Inv X pins σ H s)(k:∀b u,s.heap.get? b=some u->h'.get? b=some u)(c:s.heap.objs.size<=a)(d:cW X.prog X.w (upd H a o) h' a o):
  Inv X pins σ (upd H a o) {s with heap:=h',toks:=t'}:=I.un (Un.laid k c (I.hok.fresh c)) (I.hok.laid k c d)
theorem Inv.write{x e:Addr}{o:HO}{t':Nat}(I:Inv X pins σ H s)(d:Mut (H x))(f:e=x\/H e=some (.own x))(k:∀b u,b≠e->s.heap.get? b=some u->h'.get? b=some u)(a:∃u,h'.get? e=some u)
  (c:cW X.prog X.w (upd H x o) h' x o):Inv X pins σ (upd H x o) {s with heap:=h',toks:=t'}:=I.un (Un.write d f k a) (I.hok.write d f k a c)
theorem Inv.pins_of{a:List (Addr×Obj)}(I:Inv X pins σ H s)(h:∀p∈a,s.heap.get? p.1=some p.2/\H p.1=none/\p.1≠X.env.locals/\p.1∉X.fs/\∀v,p.2.data≠.cell v):Inv X a σ H s :=
 ⟨I.ok,I.os,I.bare,I.base,I.loc,I.cell,I.free,I.freeC,λp b=>(zz.mp b).elim (λz=>I.pin p (zY _ z)) (h p),I.hok,I.len⟩
theorem Eu{N:List Str}(hN:N.Nodup){i j:Nat}{x:Str}(a:N[i]?=some x)(b:N[j]?=some x):i=j:=by
 obtain⟨h1,d⟩:=zg.mp a;obtain⟨h2,c⟩:=zg.mp b;exact(List.getElem_inj hN).mp (d.trans c.symm)
theorem OD{M:Model}{A:Around}{E:Value->Shared->Prop}{i:Nat}{x:Str}{v:V}{u:Value}{Q:Unit->Shared->Prop}(I:Inv X pins σ H s)(hN:X.N.Nodup)(hi:X.N[i]?=some x)(B:Loc X.env.scope x)(r:RelV v u)
  (h:∀s',Inv X pins (σ.set i (some v)) H s'->(∃a,Heap.SameBut a s.heap s'.heap/\(a=X.env.locals\/X.env.cells.lookup x=some a))->Q () s') (hf:X.fn x=true\/X.env.scope.names.lookup x=some .local:=by first | exact .inl rfl | exact .inr rfl | assumption):wpAny M A (storeName X.env x u) Q E s:=by
 obtain⟨m,hn,hl⟩:=id I.loc
 have Z:(X.env.scope.kind == .class || (X.env.scope.kind == .module&&X.env.locals != X.env.globals))=false:=by rw[I.ok.kind];rfl
 have L:i<σ.length:=by rw[I.len];exact(zg.mp hi).1
 have cne:=I.cne
 have tracked:∀{a:Addr}{h':Heap},(∃o,s.heap.get? a=some o/\H a=none)->Heap.SameBut a s.heap h'->HOk X.prog X.w H h':=λ{a h'} ha f b ob e=>by
  obtain⟨_,_,F⟩:=ha
  refine(I.hok b ob e).stay (λc w' l q=>(f.2 c ?_).trans q) (λ_ q=>q) λ_ _ q=>q
  rintro rfl
  rcases l with rfl | l
  ·rw[F] at e;cases e
  ·rw[F] at l;cases l
 rcases B with J | J
 ·refine wpAny_storeName_local J hn (λh' hn' f=>?_) Z;obtain⟨oL,_,_,hoL,_⟩:=id hn;refine h _ ⟨I.ok,I.os,I.bare,⟨λb o e n P B=>?_,λb o e n P B=>?_,I.base.free,λb o e B=>?_,I.base.tups,I.base.frzs,I.base.tbls⟩,⟨_,hn',λj y v' g G e3=>?_⟩,λy c e=>?_,I.free,I.freeC,λp hp=>?_,tracked ⟨oL,hoL,I.free⟩ f,by simpa using I.len⟩ ⟨_,f,.inl rfl⟩
  ·exact(f.2 b (zB (zJ (ze e) I.ok.above))).trans (I.base.keep b o e n P B)
  ·obtain⟨sl,g⟩:=I.base.slot b o e n P B;exact⟨sl,(f.2 b (zB (zJ (ze e) I.ok.above))).trans g⟩
  ·obtain⟨o',g⟩:=I.base.there b o e B;exact⟨o',(f.2 b (zB (zJ (ze e) I.ok.above))).trans g⟩
  ·by_cases O:j=i
   ·subst O;rw[hi] at g;cases g;rw[zR L] at G;cases G;exact⟨u,r,.inl ⟨J,by simp⟩⟩
   ·rw[zw (Ne.symm O)] at G;obtain⟨u',r',q⟩:=hl j y v' g G e3;refine⟨u',r',?_⟩
    rcases q with⟨k,e⟩ | ⟨k,c,e,z⟩
    ·refine .inl ⟨k,?_⟩
     have:y≠x:=λe=>O (Eu hN g (e ▸ hi))
     simp[this,e]
    ·exact .inr ⟨k,c,e,z.sameBut f (cne y c e)⟩
  ·obtain⟨w',z⟩:=I.cell y c e;exact⟨w',z.sameBut f (cne y c e)⟩
  ·obtain⟨e,n,ne,nf,d⟩:=I.pin p hp;exact⟨(f.2 p.1 ne).trans e,n,ne,nf,d⟩
 ·have R:X.fn x=true:=by
   rcases hf with z | z
   ·exact z
   ·rw[z] at J;cases J
  obtain⟨c,l⟩:=I.ok.has x (.inl J);obtain⟨w',z⟩:=I.cell x c l;refine wpAny_storeName_cell I.ok.kind J l z (λh' W f=>?_);obtain⟨oc,T,Y⟩:=id z;refine h {s with heap:=h'} ⟨I.ok,I.os,I.bare,⟨λb o e n P B=>?_,λb o e n P B=>?_,I.base.free,λb o e B=>?_,I.base.tups,I.base.frzs,I.base.tbls⟩,⟨m,hn.sameBut f (Ne.symm (cne x c l)),λj y v' g G e3=>?_⟩,λy c' e=>?_,I.free,I.freeC,λp hp=>?_,tracked ⟨oc,T,I.freeC x c l⟩ f,by simpa using I.len⟩ ⟨c,f,.inr l⟩
  ·exact(f.2 b (zB (zJ (ze e) (I.ok.cab x c R l)))).trans (I.base.keep b o e n P B)
  ·obtain⟨sl,g⟩:=I.base.slot b o e n P B;exact⟨sl,(f.2 b (zB (zJ (ze e) (I.ok.cab x c R l)))).trans g⟩
  ·obtain⟨o',g⟩:=I.base.there b o e B;exact⟨o',(f.2 b (zB (zJ (ze e) (I.ok.cab x c R l)))).trans g⟩
  ·by_cases O:j=i
   ·subst O;rw[hi] at g;cases g;rw[zR L] at G;cases G;exact⟨u,r,.inr ⟨.inl J,c,l,W⟩⟩
   ·rw[zw (Ne.symm O)] at G;obtain⟨u',r',q⟩:=hl j y v' g G e3;refine⟨u',r',?_⟩
    rcases q with q | ⟨k,c',e,z'⟩
    ·exact .inl q
    ·refine .inr ⟨k,c',e,z'.sameBut f ?_⟩;rintro rfl;exact O (Eu hN g (I.ok.inj _ _ _ e l ▸ hi))
  ·by_cases U:c'=c
   ·subst U;exact⟨_,W⟩
   ·obtain⟨w2,z2⟩:=I.cell y c' e;exact⟨w2,z2.sameBut f U⟩
  ·obtain⟨e,n,ne,nf,d⟩:=I.pin p hp;refine⟨(f.2 p.1 ?_).trans e,n,ne,nf,d⟩;intro q;rw[q,T] at e;have q':oc=p.2:=zA e;exact d w' (by rw[<-q'];exact Y)
theorem xg{M:Model}{A:Around}{E:Value->Shared->Prop}{i:Nat}{x:Str}{v:V}{u:Value}{Q:Unit->Shared->Prop}(I:Inv X pins σ H s)(hN:X.N.Nodup)(hi:X.N[i]?=some x)(b:Loc X.env.scope x)(r:RelV v u)
  (h:∀a,Inv X pins (σ.set i (some v)) H a->Q () a) (c:X.fn x=true\/X.env.scope.names.lookup x=some .local:=by first | exact .inl rfl | exact .inr rfl | assumption):wpAny M A (storeName X.env x u) Q E s :=
 OD I hN hi b r (λa I' _=>h a I') c
theorem Inv.call'{a:Shared}{ch:List Addr}(I:Inv X pins σ H s)(g:a.os=s.os)(u:Un (frs X.stack) ch H H' s.heap a.heap)(hok:HOk X.prog X.w H' a.heap)(h:AllBare a.gens)
  (d:∀b∈ch,(b∈X.ex\/X.s₀.heap.objs.size<=b)/\b≠X.env.locals/\(∀x c,X.env.cells.lookup x=some c->c≠b)/\∀p∈X.pn++pins,p.1≠b):Inv X pins σ H' a:=by
 obtain⟨h',g',d',t',f⟩:=a;have e:f=s.os:=g;subst e;exact I.call (g':=g') (t':=t') (d':=d') u hok h d
end
abbrev XK:=Value->Option Addr->Hp->Prop
abbrev St:=List (Option V)
abbrev VK:=V->Hp->Prop
abbrev TE:=St->Hp->VK->Prop
abbrev TT:=St->Hp->(Bool->Hp->Prop)->Prop
abbrev TA:=St->Hp->(List V->Hp->Prop)->Prop
structure Ends where
 nx:St->Hp->Prop
 rt:VK
 bk:St->Hp->Prop:=λ_ _=>False
 ct:St->Hp->Prop:=λ_ _=>False
abbrev TS:=Ends->St->Hp->Prop
def EP(X:Cx)(pins:List (Addr×Obj))(σ:St)(Q:VK)(u:Value)(b:Shared):Prop:=∃v a,Inv X pins σ a b/\RelV v u/\Q v a
def TP(X:Cx)(pins:List (Addr×Obj))(σ:St)(Q:Bool->Hp->Prop)(b:Bool)(c:Shared):Prop:=∃a,Inv X pins σ a c/\Q b a
def AP(X:Cx)(pins:List (Addr×Obj))(σ:St)(Q:List V->Hp->Prop)(us:List Value)(c:Shared):Prop:=∃a b,Inv X pins σ b c/\aX a us/\Q a b
def SP(X:Cx)(pins:List (Addr×Obj))(D:Ends)(f:Flow)(c:Shared):Prop :=
 match f with
 | .next=>∃a b,Inv X pins a b c/\D.nx a b
 | .brk=>∃a b,Inv X pins a b c/\D.bk a b
 | .cont=>∃a b,Inv X pins a b c/\D.ct a b
 | .ret u=>∃v a b,Inv X pins a b c/\RelV v u/\D.rt v b
def PE(X:Cx)(e:Expr)(t:TE):Prop :=
 ∀(pins:List (Addr×Obj)) (s:Shared) (σ:St) (H:Hp) (Q:VK),Inv X pins σ H s->t σ H Q->wpAny (model X.prog X.w) X.A (eval e X.env) (EP X pins σ Q) X.xe s
def PT(X:Cx)(e:Expr)(t:TT):Prop :=
 ∀(pins:List (Addr×Obj)) (s:Shared) (σ:St) (H:Hp) (Q:Bool->Hp->Prop),Inv X pins σ H s->t σ H Q->wpAny (model X.prog X.w) X.A (isTrue e X.env (eval e X.env)) (TP X pins σ Q) X.xe s
def PW(X:Cx)(e:Expr)(t:TT):Prop :=
 ∀(whole:Sem Value) (pins:List (Addr×Obj)) (s:Shared) (σ:St) (H:Hp) (Q:Bool->Hp->Prop),Inv X pins σ H s->t σ H Q->wpAny (model X.prog X.w) X.A (isTrue e X.env whole) (TP X pins σ Q) X.xe s
theorem PW.pt{X:Cx}{e:Expr}{t:TT}(h:PW X e t):PT X e t:=h _
def PA(X:Cx)(a:List Expr)(t:TA):Prop :=
 ∀(pos:Pos) (pins:List (Addr×Obj)) (s:Shared) (σ:St) (H:Hp) (Q:List V->Hp->Prop),Inv X pins σ H s->t σ H Q->wpAny (model X.prog X.w) X.A (spliced (backTo pos (starEach a X.env))) (AP X pins σ Q) X.xe s
def PS(X:Cx)(st:Stmt)(t:TS):Prop :=
 ∀(pins:List (Addr×Obj)) (s:Shared) (σ:St) (H:Hp) (D:Ends),Inv X pins σ H s->t D σ H->wpAny (model X.prog X.w) X.A (exec st X.env) (SP X pins D) X.xe s
def PSs(X:Cx)(st:List Stmt)(t:TS):Prop :=
 ∀(pins:List (Addr×Obj)) (s:Shared) (σ:St) (H:Hp) (D:Ends),Inv X pins σ H s->t D σ H->wpAny (model X.prog X.w) X.A (execs st X.env) (SP X pins D) X.xe s
theorem thn{α:Type}{t:Sem α}{Q b:α->Shared->Prop}{M:Model}{A:Around}{E:Value->Shared->Prop}{s:Shared}(h:wpAny M A t Q E s)(c:∀a s,Q a s->b a s):wpAny M A t b E s:=zS h c λ_ _ x=>x
section
variable {X:Cx}
def OJ(i:Nat):TE:=λσ H Q=>∃v,σ[i]?=some (some v)/\Q v H
def tC(v:V):TE:=λ_ H Q=>Q v H
theorem o9{i:Nat}{x:Str}{pos:Pos}(hN:X.N[i]?=some x)(hv:Vis X.env.scope x)(hd:(x == ("__debug__":Str))=false:=by decide)(f:(x == ("__classdict__":Str))=false:=by decide):PE X (.Name x pos) (OJ i):=by
 intro pins s σ H Q I h;obtain⟨v,e,h⟩:=h;obtain⟨m,j,n⟩:=I.loc;obtain⟨u,r,l⟩:=n i x v hN e hv;have d:EP X pins σ Q u s:=⟨v,H,I,r,h⟩
 rcases l with⟨b,k⟩ | ⟨b,c,g,a⟩
 ·exact wpAny_Name (wpAny_loadName_local I.ok.kind b j k d) hd
 ·rcases b with b | b
  ·exact wpAny_Name (wpAny_loadName_cell I.ok.kind b g a d) hd
  ·exact wpAny_Name (wpAny_loadName_free I.ok.kind b g a d f) hd
theorem O5{i j pos}:PE X (.Constant (.int i) j pos) (tC (.int i)):=λ_ _ _ H _ I h=>wpAny_Constant_int ⟨.int i,H,I.tok _,⟨_,rfl⟩,h⟩
theorem O8{b j pos}:PE X (.Constant (.bool b) j pos) (tC (.bl b)):=λ_ _ _ H _ I h=>Constant_bool ⟨.bl b,H,I,rfl,h⟩
theorem O9{j pos}:PE X (.Constant .none j pos) (tC .non):=λ_ _ _ H _ I h=>Constant_none ⟨.non,H,I,rfl,h⟩
theorem Pa{x j pos}:PE X (.Constant (.str x) j pos) (tC (.str x)):=λ_ _ _ H _ I h=>Calls.Constant_str ⟨.str x,H,I.tok _,⟨_,rfl⟩,h⟩
def Gl(X:Cx)(x:Str):Prop:=X.env.kindOf x=some .globalImplicit
theorem xj{E:Value->Shared->Prop}{pins:List (Addr×Obj)}{s:Shared}{σ:St}{H:Hp}{x:Str}{u:Value}{pos:Pos}{Q:Value->Shared->Prop}(I:Inv X pins σ H s)(b:Gl X x)(a:X.mg x=some u)(h:Q u s)
  (hd:(x == ("__debug__":Str))=false:=by decide):wpAny (model X.prog X.w) X.A (eval (.Name x pos) X.env) Q E s :=
 Calls.Name_function_global I.ok.kind b (Calls.loadGlobal_global (by rw[I.ok.glob];exact I.mod.glob.keeps I.bk) a h) hd
theorem iY{E:Value->Shared->Prop}{pins:List (Addr×Obj)}{s:Shared}{σ:St}{H:Hp}{x:Str}{u:Value}{pos:Pos}{Q:Value->Shared->Prop}(I:Inv X pins σ H s)(c:Gl X x)(b:X.mg x=none)(hv:bootBuiltins x=some u)(h:Q u s)
  (a:x≠"__name__":=by decide) (hd:(x == ("__debug__":Str))=false:=by decide):wpAny (model X.prog X.w) X.A (eval (.Name x pos) X.env) Q E s:=by
 obtain⟨d,h1,h2⟩:=I.mod.blt;exact Calls.Name_function_global I.ok.kind c (Calls.loadGlobal_builtin (by rw[I.ok.glob];exact I.mod.glob.keeps I.bk) b (by rw[I.ok.blt];exact h1.keeps I.bk) ((h2 x a).trans hv) h) hd
theorem Pb{x:Str}{v:V}{u:Value}{pos:Pos}(b:Gl X x)(a:X.mg x=some u)(r:RelV v u)(hd:(x == ("__debug__":Str))=false:=by decide):PE X (.Name x pos) (tC v):=
 λ_ _ _ H _ I h=>xj I b a ⟨v,H,I,r,h⟩ hd
theorem Ew{x:Str}{v:V}{u:Value}{pos:Pos}(c:Gl X x)(b:X.mg x=none)(hv:bootBuiltins x=some u)(r:RelV v u)(a:x≠"__name__":=by decide)(hd:(x == ("__debug__":Str))=false:=by decide):PE X (.Name x pos) (tC v):=
 λ_ _ _ H _ I h=>iY I c b hv ⟨v,H,I,r,h⟩ a hd
variable {a b:Expr}{ta tb:TE}{pos:Pos}
def PC(X:Cx)(f:CmpOp)(a b:Expr)(t:TE):Prop :=
 ∀(pins:List (Addr×Obj)) (s:Shared) (σ:St) (H:Hp) (Q:VK),Inv X pins σ H s->t σ H Q ->
  wpAny (model X.prog X.w) X.A (eval a X.env) (λv d=>wpAny (model X.prog X.w) X.A (eval b X.env) (λu c=>wpAny (model X.prog X.w) X.A (compareOp f v u) (EP X pins σ Q) X.xe c) X.xe d) X.xe s
theorem Pg(b:Expr){c:CmpOp}(h:c≠.In)(h2:c≠.NotIn):behindInMarks c b=false:=by
 have f:(c == CmpOp.In)=false:=by cases c<;>first | rfl | exact absurd rfl h
 have d:(c == CmpOp.NotIn)=false:=by cases c<;>first | rfl | exact absurd rfl h2
 cases b<;>simp[behindInMarks,f,d]
def Ex(ta:TE):TE:=λσ H Q=>ta σ H λx c=>Q (.bl (decide (x=.non))) c
def Ey(ta:TE):TE:=λσ H Q=>ta σ H λx c=>Q (.bl (!decide (x=.non))) c
theorem RelV.none_iff{x:V}{v:Value}(r:RelV x v):(v == Value.none)=decide (x=.non):=by
 cases x with
 |non=>cases r;rfl
 |bl _=>cases r;rfl
 |int _=>obtain⟨t,rfl⟩:=r;rfl
 |str _=>obtain⟨t,rfl⟩:=r;rfl
 |byt _=>obtain⟨t,rfl⟩:=r;rfl
 |flt _=>obtain⟨t,rfl⟩:=r;rfl
 |ref _=>cases r;rfl
 |ty _=>cases r;rfl
theorem Ph{j pos'}(c:PE X a ta):PC X .Is a (.Constant .none j pos') (Ex ta):=by
 intro pins s σ H Q I h
 refine thn (c pins s σ H _ I h) λv s1 ⟨x,H1,I1,r1,q1⟩=>?_
 exact Constant_none (is_none_gen ⟨.bl _,H1,I1,by rw[r1.none_iff];rfl,q1⟩)
theorem Pj{j pos'}(c:PE X a ta):PC X .IsNot a (.Constant .none j pos') (Ey ta):=by
 intro pins s σ H Q I h
 refine thn (c pins s σ H _ I h) λv s1 ⟨x,H1,I1,r1,q1⟩=>?_
 exact Constant_none (isnot_none_gen ⟨.bl _,H1,I1,by rw[r1.none_iff];rfl,q1⟩)
def tB(t:TE):TT:=λσ H Q=>t σ H λx d=>∃c,x=.bl c/\Q c d
theorem Ez{f:CmpOp}{t:TE}(h:PC X f a b t)(h1:behindInMarks f b=false:=by first | exact Pg _ (by decide) (by decide) | rfl):PT X (.Compare a [f] [b] pos) (tB t):=by
 intro pins s σ H Q I hw;refine wpAny_isTrue_Compare1 (thn (h pins s σ H _ I hw) λv i h1=>thn h1 λu g h2=>thn h2 λc s3 ⟨x,H1,I1,r1,q1⟩=>?_) h1;obtain⟨d,rfl,q⟩:=q1;cases r1;exact wpAny_truthy_bool ⟨H1,I1,q⟩
variable {tA tB':TT}{rest:List Expr}
def EY(t u:TT):TT:=λσ H Q=>t σ H λc d=>if c=true then u σ d Q else Q false d
def tOr(t u:TT):TT:=λσ H Q=>t σ H λc d=>if c=true then Q true d else u σ d Q
def Pk(t:TT):TT:=λσ H Q=>t σ H λc d=>Q (!c) d
theorem Pn(d:PT X a tA):PW X (.BoolOp .And [a] pos) tA:=by
 intro f pins s σ H Q I h;refine isTrue_and (thn (d pins s σ H Q I h) λc g e=>?_)
 cases c with
 |true=>exact isTrue_and_nil e
 |false=>exact e
theorem Pq(d:PT X a tA):PW X (.BoolOp .Or [a] pos) tA:=by
 intro f pins s σ H Q I h;refine isTrue_or (thn (d pins s σ H Q I h) λc g e=>?_)
 cases c with
 |false=>exact isTrue_or_nil e
 |true=>exact e
theorem Pu(f:PT X a tA)(hb:PW X (.BoolOp .And (b::rest) pos) tB'):PW X (.BoolOp .And (a::b::rest) pos) (EY tA tB'):=by
 intro d pins s σ H Q I h;refine isTrue_and (thn (f pins s σ H _ I h) λc s1 ⟨H1,I1,q1⟩=>?_)
 cases c with
 |true=>exact hb d pins s1 σ H1 Q I1 q1
 |false=>exact⟨H1,I1,q1⟩
theorem Px(f:PT X a tA)(hb:PW X (.BoolOp .Or (b::rest) pos) tB'):PW X (.BoolOp .Or (a::b::rest) pos) (tOr tA tB'):=by
 intro d pins s σ H Q I h;refine isTrue_or (thn (f pins s σ H _ I h) λc s1 ⟨H1,I1,q1⟩=>?_)
 cases c with
 |true=>exact⟨H1,I1,q1⟩
 |false=>exact hb d pins s1 σ H1 Q I1 q1
theorem Py(d:PT X a tA):PT X (.UnaryOp .Not a pos) (Pk tA):=by
 intro pins s σ H Q I h;exact isTrue_not (d pins s σ H (λc f=>Q (!c) f) I h)
def Pz(ta tb:TE):TE:=λσ H Q=>ta σ H λx d=>∃c,x=.bl c/\if c=true then tb σ d Q else Q (.bl false) d
def PB(ta:TE):TE:=λσ H Q=>ta σ H λx d=>∃c,x=.bl c/\Q (.bl (!c)) d
theorem PJ{op}{t:TE}(h:PE X a t):PE X (.BoolOp op [a] pos) t:=λpins s σ H Q I hw=>BoolOp_one (h pins s σ H Q I hw)
theorem PK(f:PE X a ta)(hb:PE X (.BoolOp .And (b::rest) pos) tb):PE X (.BoolOp .And (a::b::rest) pos) (Pz ta tb):=by
 intro pins s σ H Q I h;refine BoolOp_and (thn (f pins s σ H _ I h) λv s1 ⟨x,H1,I1,r1,d⟩=>?_);obtain⟨c,rfl,d⟩:=d;cases r1;refine wpAny_truthy_bool ?_
 cases c with
 |true=>exact hb pins s1 σ H1 Q I1 d
 |false=>exact⟨.bl false,H1,I1,rfl,d⟩
theorem PL(f:PE X a ta):PE X (.UnaryOp .Not a pos) (PB ta):=by
 intro pins s σ H Q I h;refine UnaryOp_ (thn (f pins s σ H _ I h) λv s1 ⟨x,H1,I1,r1,d⟩=>?_);obtain⟨c,rfl,d⟩:=d;cases r1;exact not_of (wpAny_truthy_bool ⟨.bl (!c),H1,I1,rfl,d⟩)
def tIf(t:TT)(ta tb:TE):TE:=λσ H Q=>t σ H λc d=>if c=true then ta σ d Q else tb σ d Q
theorem PN{c:Expr}(f:PT X c tA)(g:PE X a ta)(hb:PE X b tb):PE X (.IfExp c a b pos) (tIf tA ta tb):=by
 intro pins s σ H Q I h;refine wpAny_IfExp (thn (f pins s σ H _ I h) λd s1 ⟨H1,I1,q1⟩=>?_)
 cases d with
 |true=>exact g pins s1 σ H1 Q I1 q1
 |false=>exact hb pins s1 σ H1 Q I1 q1
end
def SqL(K:PySem.W.Frag)(H:Hp)(a:Addr)(xs:List V):Prop :=
 Rd H a (.lst xs) \/
  ∃(o:Obj) (b:Array Value) (n:Nat),K.lookup a=some o/\o.cls=.type "list"/\o.dict=none/\o.data=.seq b n/\b.size<=sizeLine/\aX xs b.toList
def SqT(K:PySem.W.Frag)(H:Hp)(a:Addr)(xs:List V):Prop :=
 Rd H a (.tup xs) \/
  ∃(o:Obj) (b:Array Value) (n:Nat),K.lookup a=some o/\o.cls=.type "tuple"/\o.data=.seq b n/\b.size<=sizeLine/\aX xs b.toList
def PP:Value->Option V
 | .none=>some .non
 | .bool b=>some (.bl b)
 | .int i _=>some (.int i)
 | .str x _=>some (.str x)
 | .bytes b _=>some (.byt b)
 | .float b _=>some (.flt b)
 | .ref a=>some (.ref a)
 | .type n=>some (.ty n)
 | _=>none
theorem RelV.abs{x:V}{u:Value}(r:RelV x u):PP u=some x:=by
 cases x with
 |non=>cases r;rfl
 |bl _=>cases r;rfl
 |int _=>obtain⟨t,rfl⟩:=r;rfl
 |str _=>obtain⟨t,rfl⟩:=r;rfl
 |byt _=>obtain⟨t,rfl⟩:=r;rfl
 |flt _=>obtain⟨t,rfl⟩:=r;rfl
 |ref _=>cases r;rfl
 |ty _=>cases r;rfl
theorem RelV.inj{x y:V}{u:Value}(r:RelV x u)(q:RelV y u):x=y:=zA (r.abs.symm.trans q.abs)
theorem aX.inj:∀{xs a:List V}{us:List Value},aX xs us->aX a us->xs=a
 | _,_,_,.nil,.nil=>rfl
 | _,_,_,.cons r t,.cons r' t'=>by rw[r.inj r',aX.inj t t']
section
variable {X:Cx}{pins:List (Addr×Obj)}{σ:St}{H:Hp}{s:Shared}{a:Addr}{xs ys:List V}
theorem Inv.list(I:Inv X pins σ H s)(h:SqL X.K H a xs):∃its:List Value,aX xs its/\PlainL s.heap a its.toArray/\xs.length<=sizeLine:=by
 rcases h with h | ⟨o,its,n,c,d,hd,b,f,r⟩
 ·obtain⟨z,its,n,r,e⟩:=h.ok I.hok;exact⟨its,r,⟨_,n,e,rfl,rfl,rfl⟩,z⟩
 ·refine⟨its.toList,r,⟨o,n,I.kIn a o c,d,hd,by simpa using b⟩,?_⟩;have e:=r.length;simp only[Array.length_toList] at e;omega
theorem Inv.tuple(I:Inv X pins σ H s)(h:SqT X.K H a xs):∃its:List Value,aX xs its/\IsTup s.heap a its.toArray/\xs.length<=sizeLine:=by
 rcases h with h | ⟨o,its,n,c,d,b,f,r⟩
 ·obtain⟨z,its,r,p⟩:=h.ok I.hok;exact⟨its,r,p,z⟩
 ·refine⟨its.toList,r,⟨o,I.kIn a o c,d,n,by simpa using b⟩,?_⟩;have e:=r.length;simp only[Array.length_toList] at e;omega
theorem Inv.list_inj(I:Inv X pins σ H s)(h:SqL X.K H a xs)(h':SqL X.K H a ys):xs=ys:=by
 obtain⟨c,r,⟨o,n,e,_,_,d⟩,_⟩:=I.list h;obtain⟨b,i,⟨k,l,f,_,_,g⟩,_⟩:=I.list h';rw[e] at f;cases f;rw[d] at g
 injection g with j _
 have:c=b:=by simpa using congrArg Array.toList j
 subst this;exact r.inj i
theorem Inv.tuple_inj(I:Inv X pins σ H s)(h:SqT X.K H a xs)(h':SqT X.K H a ys):xs=ys:=by
 obtain⟨c,r,⟨o,e,_,n,d⟩,_⟩:=I.tuple h;obtain⟨b,i,⟨k,f,_,l,g⟩,_⟩:=I.tuple h';rw[e] at f;cases f;rw[d] at g
 injection g with j _
 have:c=b:=by simpa using congrArg Array.toList j
 subst this;exact r.inj i
end
abbrev Cx.wish(X:Cx)(E:Value->Shared->Prop):Cx:={X with xe:=E}
abbrev Cx.nox(X:Cx):Cx:=X.wish λ_ _=>False
theorem Cx.Ok.wish{X:Cx}(ok:X.Ok)(E:Value->Shared->Prop):(X.wish E).Ok :=
 ⟨ok.mod,ok.kind,ok.glob,ok.blt,ok.above,ok.inj,ok.has,ok.cab,ok.hd,ok.frames,ok.stk,ok.exf,ok.bs,ok.bsz,ok.noex,ok.exfs,ok.funs,ok.frf⟩
theorem Cx.Ok.unwish{X:Cx}{E:Value->Shared->Prop}(ok:(X.wish E).Ok):X.Ok :=
 ⟨ok.mod,ok.kind,ok.glob,ok.blt,ok.above,ok.inj,ok.has,ok.cab,ok.hd,ok.frames,ok.stk,ok.exf,ok.bs,ok.bsz,ok.noex,ok.exfs,ok.funs,ok.frf⟩
section
variable {X:Cx}{pins:List (Addr×Obj)}{σ:St}{H:Hp}{s:Shared}{E:Value->Shared->Prop}
theorem Inv.wish(I:Inv X pins σ H s)(E:Value->Shared->Prop):Inv (X.wish E) pins σ H s:=⟨I.ok.wish E,I.os,I.bare,I.base,I.loc,I.cell,I.free,I.freeC,I.pin,I.hok,I.len⟩
theorem Inv.unwish(I:Inv (X.wish E) pins σ H s):Inv X pins σ H s:=⟨I.ok.unwish,I.os,I.bare,I.base,I.loc,I.cell,I.free,I.freeC,I.pin,I.hok,I.len⟩
theorem SP.unwish{D:Ends}{f:Flow}{c:Shared}(h:SP (X.wish E) pins D f c):SP X pins D f c:=by
 cases f with
 |next=>obtain⟨a,b,I,q⟩:=h;exact⟨a,b,I.unwish,q⟩
 |brk=>obtain⟨a,b,I,q⟩:=h;exact⟨a,b,I.unwish,q⟩
 |cont=>obtain⟨a,b,I,q⟩:=h;exact⟨a,b,I.unwish,q⟩
 |ret u=>obtain⟨v,a,b,I,r,q⟩:=h;exact⟨v,a,b,I.unwish,r,q⟩
theorem PSs.nox{st:List Stmt}{t:TS}(h:PSs X.nox st t):PSs X st t:=λpins s σ H D I hw =>
 zS (h pins s σ H D (I.wish _) hw) (λ_ _ q=>q.unwish) λ_ _ z=>False.elim z
end
section
variable {X:Cx}{st:Stmt}{rest:List Stmt}{t u:TS}{e:Expr}{te:TE}{pos:Pos}
def PQ:TS:=λD σ H=>D.nx σ H
def PX(t u:TS):TS:=λD σ H=>t {D with nx:=u D} σ H
theorem P0:PSs X [] PQ:=λ_ _ σ H _ I h=>wpAny_execs_nil ⟨σ,H,I,h⟩
theorem Qa(h1:PS X st t)(h2:PSs X rest u):PSs X (st::rest) (PX t u):=by
 intro pins s σ H D I h;refine wpAny_execs_cons (thn (h1 pins s σ H {D with nx:=u D} I h) λf b q=>?_)
 cases f with
 |next =>
  obtain⟨a,d,c,q⟩:=q;exact h2 pins b a d D c q
 |ret v=>exact q
 |brk=>exact q
 |cont=>exact q
theorem Qc(h1:PS X st t):PSs X [st] t:=by
 intro pins s σ H D I h;refine wpAny_execs_cons (thn (h1 pins s σ H D I h) λf a q=>?_)
 cases f with
 |next=>exact wpAny_execs_nil q
 |ret v=>exact q
 |brk=>exact q
 |cont=>exact q
theorem Inv.quiet{pins:List (Addr×Obj)}{σ:St}{H:Hp}{s:Shared}(I:Inv X pins σ H s):interactive X.env=false:=by simp[interactive,I.ok.kind]
def Qd(te:TE):TS:=λD σ H=>te σ H λ_ a=>D.nx σ a
theorem uz(b:PE X e te)(a:swapsWith e none pos.line X.env=pure false:=by rfl):PS X (.Expr e pos) (Qd te):=by
 intro pins s σ H D I h;exact wpAny_Expr_any (thn (b pins s σ H _ I h) λv s1 ⟨x,H1,I1,r1,q1⟩=>⟨σ,H1,I1,q1⟩) I.quiet a
def Qe(te:TE):TS:=λD σ H=>te σ H D.rt
theorem Fb(a:PE X e te):PS X (.Return (some e) pos) (Qe te):=by
 intro pins s σ H D I h;exact wpAny_Return_some (thn (a pins s σ H _ I h) λv s1 ⟨x,H1,I1,r1,q1⟩=>⟨x,σ,H1,I1,r1,q1⟩)
def Qf(c:TT)(t u:TS):TS:=λD σ H=>c σ H λb a=>if b=true then t D σ a else u D σ a
theorem Qg{c:Expr}{a b:List Stmt}{f:TT}(g:PT X c f)(i:PSs X a t)(hb:PSs X b u):PS X (.If c a b pos) (Qf f t u):=by
 intro pins s σ H D I h;refine wpAny_If (thn (g pins s σ H _ I h) λd s1 ⟨H1,I1,q1⟩=>?_)
 cases d with
 |true=>exact i pins s1 σ H1 D I1 q1
 |false=>exact hb pins s1 σ H1 D I1 q1
end
abbrev TG:=V->St->Hp->(St->Hp->Prop)->Prop
abbrev TGs:=List V->St->Hp->(St->Hp->Prop)->Prop
def PG(X:Cx)(target:Expr)(t:TG):Prop :=
 ∀(pins:List (Addr×Obj)) (s:Shared) (σ:St) (H:Hp) (v:V) (u:Value) (Q:St->Hp->Prop),Inv X pins σ H s->RelV v u->t v σ H Q ->
  wpAny (model X.prog X.w) X.A (assign target X.env u) (λ_ c=>∃a b,Inv X pins a b c/\Q a b) X.xe s
def PGs(X:Cx)(ts:List Expr)(t:TGs):Prop :=
 ∀(pins:List (Addr×Obj)) (s:Shared) (σ:St) (H:Hp) (b:List V) (c:List Value) (Q:St->Hp->Prop),Inv X pins σ H s->aX b c->t b σ H Q ->
  wpAny (model X.prog X.w) X.A (assignInOrder ((assignEach ts X.env).map (·.2)) c) (λ_ f=>∃a d,Inv X pins a d f/\Q a d) X.xe s
abbrev xn:=V->V->V->Hp->(Hp->Prop)->Prop
def Fd(X:Cx)(t:xn):Prop :=
 ∀(pins:List (Addr×Obj)) (s:Shared) (σ:St) (H:Hp) (o i v:V) (a b u:Value) (Q:Hp->Prop),Inv X pins σ H s->RelV o a->RelV i b->RelV v u->t o i v H Q ->
  wpAny (model X.prog X.w) X.A (setItem a b u) (λ_ d=>∃c,Inv X pins σ c d/\Q c) X.xe s
section
variable {X:Cx}{pos:Pos}
def q9(i:Nat):TG:=λv σ H Q=>Q (σ.set i (some v)) H
theorem Qh{i:Nat}{x:Str}(hN:X.N.Nodup)(hi:X.N[i]?=some x)(a:Loc X.env.scope x)(b:X.fn x=true\/X.env.scope.names.lookup x=some .local:=by first | exact .inl rfl | exact .inr rfl | assumption):PG X (.Name x pos) (q9 i):=by
 intro pins s σ H v u Q I r h;exact wpAny_assign_Name (xg I hN hi a r (λd c=>⟨_,H,c,h⟩) b)
def Qi:TGs:=λa σ H Q=>a=[]/\Q σ H
def Qj(t:TG)(u:TGs):TGs:=λb σ H Q=>∃v r,b=v::r/\t v σ H λa c=>u r a c Q
theorem Qk:PGs X [] Qi:=by
 intro pins s σ H a b Q I r h;obtain⟨e,h⟩:=h;subst e;cases r;exact assignInOrder_nil ⟨σ,H,I,h⟩
theorem Ql{e:Expr}{a:List Expr}{t:TG}{u:TGs}(h1:PG X e t)(h2:PGs X a u)
  (b:(assignEach (e::a) X.env).map (·.2)=assign e X.env::(assignEach a X.env).map (·.2):=by rfl):PGs X (e::a) (Qj t u):=by
 intro pins s σ H d g Q I r h;obtain⟨v,f,c,h⟩:=h;subst c
 cases r with
 |cons r rr =>
  rw[b];refine assignInOrder_cons (thn (h1 pins s σ H _ _ _ I r h) λ_ s1 ⟨σ1,H1,I1,q1⟩=>?_);exact h2 pins s1 σ1 H1 _ _ Q I1 rr q1
def Qm(K:PySem.W.Frag)(n:Nat)(t:TGs):TG:=λv σ H Q=>∃a b,v=.ref a/\SqT K H a b/\b.length=n/\t b σ H Q
theorem Qn{c:List Expr}{k:Nat}{t:TGs}{n:Nat}(y:X.calm=true)(h:PGs X c t)
  (m:(assignEach c X.env).length=n:=by rfl) (d:(assignEach c X.env).findIdx? (·.1)=none:=by rfl):PG X (.Tuple c k pos) (Qm X.K n t):=by
 intro pins s σ H v u Q I r hw;obtain⟨a,g,B,l,x,hw⟩:=hw;subst B;cases r;obtain⟨F,f,j,G⟩:=I.tuple l
 refine assign_Tuple_tuple (I.ok.hd y) j (by simp[m,<-x,f.length]) d λz i=>?_
 have E:Inv X pins σ H {s with heap:=z}:=I.kept (t':=s.toks) λb o e=>i b o (zB (ze e)) e
 exact h pins _ σ H g _ Q E (by simpa using f) hw
def Qo(to ti:TE)(t:xn):TG:=λv σ H Q=>to σ H λo c=>ti σ c λi b=>t o i v b λa=>Q σ a
theorem Qp{o i:Expr}{to ti:TE}{t:xn}(b:PE X o to)(hi:PE X i ti)(a:Fd X t)
  (c:∀v,assign (.Subscript o i pos) X.env v=(do
   let ov <-holding [v] (eval o X.env)
   let iv <-holding [v,ov] (eval i X.env)
   standAt pos
   holding [v,ov,iv] (setItem ov iv v)
   release [v,ov,iv] []):=by intro _;rfl):PG X (.Subscript o i pos) (Qo to ti t):=by
 intro pins s σ H v u Q I r h;rw[c];refine za (zO (thn (b pins s σ H _ I h) λov s1 ⟨x,H1,I1,r1,q1⟩=>?_));refine za (zO (thn (hi pins s1 σ H1 _ I1 q1) λiv s2 ⟨y,H2,I2,r2,q2⟩=>?_));refine za (wpAny_standAt (za (zO (thn (a pins s2 σ H2 x y v ov iv u _ I2 r1 r2 r q2) λ_ s3 ⟨H3,I3,q3⟩=>?_))));exact wpAny_release ⟨σ,H3,I3,q3⟩
def rm(a:TE)(g:TG):TS:=λD σ H=>a σ H λx b=>g x σ b D.nx
theorem Fe{a e:Expr}{b:TE}{g:TG}(f:PE X e b)(d:PG X a g)(c:swapsWithSole [a] e pos.line X.env=pure false:=by rfl)(hw:swappedStores [a] e X.env=pure none:=by rfl)
  (h1:(assignEach [a] X.env).map (·.2)=[assign a X.env]:=by rfl):PS X (.Assign [a] e pos) (rm b g):=by
 intro pins s σ H D I h;refine wpAny_Assign_stores (thn (f pins s σ H _ I h) λv s1 ⟨x,H1,I1,r1,q1⟩=>?_) c hw;rw[h1]
 exact thn (d pins s1 σ H1 x v _ I1 r1 q1) λ_ i q=>q
theorem Ff{i:Nat}{x:Str}{e:Expr}{a:TE}{pos':Pos}(hN:X.N.Nodup)(hi:X.N[i]?=some x)(b:Loc X.env.scope x)(f:PE X e a)(c:swapsWith e (some (.Name x pos')) pos.line X.env=pure false:=by rfl)(d:X.fn x=true\/X.env.scope.names.lookup x=some .local:=by first | exact .inl rfl | exact .inr rfl | assumption):
  PS X (.Assign [.Name x pos'] e pos) (rm a (q9 i)):=by
 intro pins s σ H D I h;refine wpAny_Assign_Name (thn (f pins s σ H _ I h) λv s1 ⟨y,H1,I1,r1,q1⟩=>?_) c;exact xg I1 hN hi b r1 (λj g=>⟨_,H1,g,q1⟩) d
end
section
variable {X:Cx}{pos:Pos}
def Fg(c:TT)(h:TS):TS:=λD σ H=>∃W:Nat->St->Hp->Prop,(∃m,W m σ H)/\∀m σ H,W m σ H ->
 c σ H λb f=>if b=true then ∃N:St->Hp->Prop,(∀a g,N a g->∃d,d<m/\W d a g)/\h {D with nx:=N,ct:=N,bk:=D.nx} σ f else D.nx σ f
theorem Qq{c:Expr}{body:List Stmt}{y:TT}{z:TS}(B:PassesOwn (model X.prog X.w) X.A X.env X.xe)(L:PT X c y)(hb:PSs X body z):PS X (.While c body [] pos) (Fg y z):=by
 intro pins s σ H D I h;obtain⟨W,⟨J,F⟩,turn⟩:=h;refine wpAny_While (codeAny_whileLoop (λn G=>∃g E,Inv X pins g E G/\W n g E) ?_ J ⟨σ,H,I,F⟩);rintro n s1 ⟨σ1,H1,I1,w1⟩;refine wpAny_passesOwn B (thn (L pins s1 σ1 H1 _ I1 (turn n σ1 H1 w1)) λb s2 ⟨H2,I2,j⟩=>?_)
 cases b with
 |true =>
  obtain⟨N,hN,j⟩:=j;rw[if_pos rfl];refine wpAny_passesOwn B (thn (hb pins s2 σ1 H2 _ I2 j) λf O i=>?_)
  cases f with
  |next =>
   obtain⟨a,d,x,l⟩:=i;obtain⟨m,u,k⟩:=hN a d l;exact⟨m,u,a,d,x,k⟩
  |cont =>
   obtain⟨a,d,x,l⟩:=i;obtain⟨m,u,k⟩:=hN a d l;exact⟨m,u,a,d,x,k⟩
  |brk=>exact i
  |ret v=>exact i
 |false =>
  rw[if_neg zp];exact wpAny_execs_nil ⟨σ1,H2,I2,j⟩
end
structure It where
 go:Nat->Hp->Prop
 yld:Nat->Hp->V->Hp->Prop
 stop:Nat->Hp->Prop
def gO(X:Cx)(pins:List (Addr×Obj))(H:Hp)(b:Addr):Prop :=
 H b=none/\b≠X.env.locals/\b∉X.fs/\(b∈X.ex\/X.s₀.heap.objs.size<=b)/\(∀x c,X.env.cells.lookup x=some c->c≠b)/\∀p∈X.pn++pins,p.1≠b
theorem Inv.fpOk{X:Cx}{pins:List (Addr×Obj)}{σ:St}{H a:Hp}{s:Shared}{b:Addr}(I:Inv X pins σ H s)(hb:s.heap.objs.size<=b)(f:a b=none):gO X pins a b:=by
 refine⟨f,Nat.ne_of_gt (zJ I.lt hb),I.nofs hb,.inr (zH I.sz hb),λx c e z=>?_,λp d z=>?_⟩
 ·obtain⟨v,q⟩:=I.cell x c e;exact absurd (zJ q.lt (by rw[z];exact hb)) (zN _)
 ·exact absurd (zJ (ze (I.pin p d).1) (by rw[z];exact hb)) (zN _)
structure Turn(P:Program)(w:World)(K:PySem.W.Frag)(tg:Expr)(J:It)(fp:List Addr)(it:Addr)(tn:Nat->Heap->Prop):Prop where
 mem:it∈fp
 obj:∀i h,tn i h->∀b∈fp,∃o,h.get? b=some o/\∀v,o.data≠.cell v
 keep:∀i h h',tn i h->(∀b∈fp,∀o,h.get? b=some o->h'.get? b=some o)->tn i h'
 item:∀(X:Cx),X.prog=P->X.w=w->X.K=K->X.calm=true->∀(i:Nat) (pins:List (Addr×Obj)) (s:Shared) (σ:St) (H:Hp) (E:Value->Shared->Prop),Inv X pins σ H s->(∀b∈fp,gO X pins H b)->tn i s.heap->J.go i H ->
  wpAny (model P w) X.A (pyNext (.ref it)) (λr s1=>∃u,r=some u /\
   wpAny (model P w) X.A (letOwnedTupleGo tg (.ref it) u) (λ_ s2=>∃x H',Inv X pins σ H' s2/\RelV x u/\J.yld i H x H'/\tn (i+1) s2.heap/\∀b∈fp,H' b=none) E s1) E s
 done:∀(X:Cx),X.prog=P->X.w=w->X.K=K->X.calm=true->∀(i:Nat) (pins:List (Addr×Obj)) (s:Shared) (σ:St) (H:Hp) (E:Value->Shared->Prop),Inv X pins σ H s->(∀b∈fp,gO X pins H b)->tn i s.heap->J.stop i H ->
  wpAny (model P w) X.A (pyNext (.ref it)) (λr s1=>r=none/\Inv X pins σ H s1) E s
 self:∀(A:Around) (i:Nat) (s:Shared) (Q:Value->Shared->Prop) (E:Value->Shared->Prop),tn i s.heap->Q (.ref it) s->wpAny (model P w) A (pyIter (.ref it)) Q E s
abbrev TI:=St->Hp->(It->Hp->Prop)->Prop
def PIE(X:Cx)(pins:List (Addr×Obj))(σ:St)(h:Expr)(R:It->Hp->Prop)(c:Value)(f:Shared):Prop :=
 ∃(it:Addr) (g:List Addr) (d:Nat->Heap->Prop) (J:It) (a:Hp),c=.ref it/\Inv X pins σ a f/\Turn X.prog X.w X.K h J g it d/\d 0 f.heap/\(∀b∈g,gO X pins a b)/\R J a
def PI(X:Cx)(b iter:Expr)(a:TI):Prop :=
 ∀(pins:List (Addr×Obj)) (s:Shared) (σ:St) (H:Hp) (R:It->Hp->Prop),Inv X pins σ H s->a σ H R ->
  wpAny (model X.prog X.w) X.A (eval iter X.env) (λv c=>wpAny (model X.prog X.w) X.A (pyIter v) (PIE X pins σ b R) X.xe c) X.xe s
theorem ph{M:Model}{A:Around}{E:Value->Shared->Prop}{s:Shared}{b:Expr}{it:Addr}{u:Value}{o:Obj}{n:String}{vs:Array Value}{Q:Unit->Shared->Prop}(c:s.heap.get? it=some o)(f:o.cls=.type n)(hd:o.data=.fields vs)
  (d:["enumerate","zip","dict_itemiterator","dict_reverseitemiterator","odict_iterator","itertools.zip_longest","itertools.pairwise"].contains n=false) (a:Q () s):wpAny M A (letOwnedTupleGo b (.ref it) u) Q E s:=by
 unfold letOwnedTupleGo
 cases b<;>first
  | exact zb a
  | (cases u<;>first
    | exact zb a
    | (refine za (wpAny_load c ?_)
       rw[f,hd];show wpAny M A (if(["enumerate","zip","dict_itemiterator","dict_reverseitemiterator","odict_iterator","itertools.zip_longest","itertools.pairwise"].contains n&&vs[0]? == some (rawInt _))=true then _ else _) Q E s;rw[if_neg (by intro h;rw[d,Bool.false_and] at h;cases h)]
       exact zb a))
def Itl(K:PySem.W.Frag)(a:Addr):It :=
 ⟨λi H=>∃b x,SqL K H a b/\b[i]?=some x,λi H x c=>c=H/\∀b,SqL K H a b->b[i]?=some x,λi H=>∃b,SqL K H a b/\b.length<=i⟩
def Itt(K:PySem.W.Frag)(a:Addr):It :=
 ⟨λi H=>∃b x,SqT K H a b/\b[i]?=some x,λi H x c=>c=H/\∀b,SqT K H a b->b[i]?=some x,λi H=>∃b,SqT K H a b/\b.length<=i⟩
def Itr(lo:Int)(n:Nat):It:=⟨λi _=>i<n,λi H x a=>a=H/\x=.int (lo+i),λi _=>n<=i⟩
theorem Qs{P:Program}{w:World}{K:PySem.W.Frag}{tg:Expr}(a it:Addr):Turn P w K tg (Itl K a) [it] it (λi h=>h.IsListIter it a i) where
 mem:=by simp
 obj:=λi h st b hb=>by
  have e:b=it:=by simpa using hb
  subst e;obtain⟨o,e,c,d⟩:=st;exact⟨o,e,λv z=>by rw[d] at z;cases z⟩
 keep:=λi h h' st k=>st.at λo e=>k it (by simp) o e
 item:=by
  intro X hP hw hK hc i pins s σ H E I hf st hg;subst hP hw hK;obtain⟨xs,x,hq,hx⟩:=hg;obtain⟨its,rv,p,hz⟩:=I.list hq;obtain⟨u,hu,ru⟩:=rv.get hx;obtain⟨f0,f1,f2,f3,f4,f5⟩:=hf it (by simp)
  refine wpAny_pyNext_list_item st p.isList (x:=u) (by simpa using hu) λh' st' sb=>?_
  have I1:Inv X pins σ H {s with heap:=h'}:=I.turned (t':=s.toks) (λb o hb e=>(sb.2 b hb).trans e) f0 f1 f3 f4 f5;obtain⟨o,e,c,d⟩:=id st';exact⟨u,rfl,ph (s:={s with heap:=h'}) e c d (by decide) ⟨x,H,I1,ru,⟨rfl,λys hy=>by rw[I.list_inj hy hq];exact hx⟩,st',λb hb=>(hf b hb).1⟩⟩
 done:=by
  intro X hP hw hK hc i pins s σ H E I hf st hg;subst hP hw hK;obtain⟨xs,hq,hx⟩:=hg;obtain⟨its,rv,p,hz⟩:=I.list hq;obtain⟨f0,f1,f2,f3,f4,f5⟩:=hf it (by simp);have hl:=rv.length
  exact wpAny_pyNext_list_end (I.ok.hd hc) st p.isList (by simp;omega) λh' eb=>⟨rfl,I.turned (t':=s.toks) (λb o hb e=>eb b o hb e) f0 f1 f3 f4 f5⟩
 self:=λ_ _ _ _ _ st h=>wpAny_pyIter_listiter st h
theorem Qt{P:Program}{w:World}{K:PySem.W.Frag}{tg:Expr}(a it:Addr):Turn P w K tg (Itt K a) [it] it (λi h=>h.IsTupleIter it a i) where
 mem:=by simp
 obj:=λi h st b hb=>by
  have e:b=it:=by simpa using hb
  subst e;obtain⟨o,e,c,d⟩:=st;exact⟨o,e,λv z=>by rw[d] at z;cases z⟩
 keep:=λi h h' st k=>st.at λo e=>k it (by simp) o e
 item:=by
  intro X hP hw hK hc i pins s σ H E I hf st hg;subst hP hw hK;obtain⟨xs,x,hq,hx⟩:=hg;obtain⟨its,rv,p,hz⟩:=I.tuple hq;obtain⟨u,hu,ru⟩:=rv.get hx;obtain⟨f0,f1,f2,f3,f4,f5⟩:=hf it (by simp)
  refine wpAny_pyNext_tuple_item st (show s.heap.IsTuple a its.toArray from p) (x:=u) (by simpa using hu) λh' st' sb=>?_
  have I1:Inv X pins σ H {s with heap:=h'}:=I.turned (t':=s.toks) (λb o hb e=>(sb.2 b hb).trans e) f0 f1 f3 f4 f5;obtain⟨o,e,c,d⟩:=id st';exact⟨u,rfl,ph (s:={s with heap:=h'}) e c d (by decide) ⟨x,H,I1,ru,⟨rfl,λys hy=>by rw[I.tuple_inj hy hq];exact hx⟩,st',λb hb=>(hf b hb).1⟩⟩
 done:=by
  intro X hP hw hK hc i pins s σ H E I hf st hg;subst hP hw hK;obtain⟨xs,hq,hx⟩:=hg;obtain⟨its,rv,p,hz⟩:=I.tuple hq;obtain⟨f0,f1,f2,f3,f4,f5⟩:=hf it (by simp);have hl:=rv.length
  exact wpAny_pyNext_tuple_end (I.ok.hd hc) st (show s.heap.IsTuple a its.toArray from p) (by simp;omega) λh' eb=>⟨rfl,I.turned (t':=s.toks) (λb o hb e=>eb b o hb e) f0 f1 f3 f4 f5⟩
 self:=λ_ _ _ _ _ st h=>wpAny_pyIter_tupleiter st h
theorem Qu{P:Program}{w:World}{K:PySem.W.Frag}{tg:Expr}(it:Addr)(lo:Int)(n:Nat):Turn P w K tg (Itr lo n) [it] it (λi h=>IsRangeIter h it (lo+(i:Nat) * 1) ((n:Int) - (i:Nat)) 1) where
 mem:=by simp
 obj:=λi h st b hb=>by
  have e:b=it:=by simpa using hb
  subst e
  exact⟨_,st,λv z=>by
   have z':Data.fields _=Data.cell v:=z
   cases z'⟩
 keep:=λi h h' st k=>k it (by simp) _ st
 item:=by
  intro X hP hw hK hc i pins s σ H E I hf st hg;subst hP hw hK;obtain⟨f0,f1,f2,f3,f4,f5⟩:=hf it (by simp);have W:=Walks.range (prog:=X.prog) (w:=X.w) (I.ok.hd hc) it lo 1 n
  refine W.item i s _ _ hg st λv h' tk hv st' kk=>?_
  obtain⟨t,rfl⟩:=hv;have I1:Inv X pins σ H {s with heap:=h',toks:=tk}:=I.turned (λb o hb e=>kk b o (by simpa using hb) e) f0 f1 f3 f4 f5;refine⟨_,rfl,ph (s:={s with heap:=h',toks:=tk}) (n:="range_iterator") st' rfl rfl (by decide) ⟨.int (lo+i),H,I1,⟨t,?_⟩,⟨rfl,rfl⟩,st',λb hb=>(hf b hb).1⟩⟩;rw[Int.mul_one]
 done:=by
  intro X hP hw hK hc i pins s σ H E I hf st hg;subst hP hw hK;obtain⟨f0,f1,f2,f3,f4,f5⟩:=hf it (by simp)
  exact wpAny_pyNext_range_end (I.ok.hd hc) st (by have:n<=i:=hg;omega) λh' eb=>⟨rfl,I.turned (t':=s.toks) (λb o hb e=>eb b o hb e) f0 f1 f3 f4 f5⟩
 self:=λ_ _ _ _ _ st h=>wpAny_pyIter_rangeiter st h
section
variable {X:Cx}{tg:Expr}
def Qv(K:PySem.W.Frag)(tl:TE):TI:=λσ H R=>tl σ H λx b=>∃a,x=.ref a/\(∃c,SqL K b a c)/\R (Itl K a) b
def Qw(K:PySem.W.Frag)(tl:TE):TI:=λσ H R=>tl σ H λx b=>∃a,x=.ref a/\(∃c,SqT K b a c)/\R (Itt K a) b
theorem Fi{l:Expr}{tl:TE}(d:PE X l tl):PI X tg l (Qv X.K tl):=by
 intro pins s σ H R I h
 refine thn (d pins s σ H _ I h) λv s1 ⟨x,H1,I1,r1,q1⟩=>?_
 obtain⟨a,e,⟨i,c⟩,q⟩:=q1;subst e;cases r1;obtain⟨g,j,p,k⟩:=I1.list c;refine wpAny_pyIter_list p.isList ?_;refine⟨s1.heap.objs.size,[s1.heap.objs.size],_,_,H1,rfl,I1.kept (t':=s1.toks) λb o e=>zt _ e,Qs a _,⟨_,zF _ rfl,rfl,rfl⟩,λb f=>?_,q⟩
 have e:b=s1.heap.objs.size:=by simpa using f
 subst e;exact I1.fpOk (zc _) (I1.hok.fresh (zc _))
theorem Qx{l:Expr}{tl:TE}(f:PE X l tl):PI X tg l (Qw X.K tl):=by
 intro pins s σ H R I h
 refine thn (f pins s σ H _ I h) λv s1 ⟨x,H1,I1,r1,q1⟩=>?_
 obtain⟨a,e,⟨i,d⟩,q⟩:=q1;subst e;cases r1;obtain⟨c,j,p,k⟩:=I1.tuple d;refine wpAny_pyIter_tuple (show s1.heap.IsTuple a c.toArray from p) ?_;refine⟨s1.heap.objs.size,[s1.heap.objs.size],_,_,H1,rfl,I1.kept (t':=s1.toks) λb o e=>zt _ e,Qt a _,⟨_,zF _ rfl,rfl,rfl⟩,λb g=>?_,q⟩
 have e:b=s1.heap.objs.size:=by simpa using g
 subst e;exact I1.fpOk (zc _) (I1.hok.fresh (zc _))
theorem Qy{pins:List (Addr×Obj)}{σ:St}{H:Hp}{s:Shared}{R:It->Hp->Prop}{E:Value->Shared->Prop}{lo hi:Int}{t u v:Tok}{tk:Nat}(I:Inv X pins σ H s)(h1:-(2 ^ 62)<=lo)(h2:lo<2 ^ 62)(h3:-(2 ^ 62)<=hi)(h4:hi<2 ^ 62)
  (q:R (Itr lo (hi - lo).toNat) H):wpAny (model X.prog X.w) X.A (pyIter (.ref s.heap.objs.size)) (PIE X pins σ tg R) E {s with heap:=s.heap.push {cls:=.type "range",data:=.fields #[.int lo t,.int hi u,.int 1 v]},toks:=tk}:=by
 refine wpAny_pyIter_range (IsRange.new ..) (small_one h1 h2 h3 h4) ?_
 have a:Inv X pins σ H {s with heap:=s.heap.push {cls:=.type "range",data:=.fields #[.int lo t,.int hi u,.int 1 v]},toks:=tk}:=I.kept λb o e=>zt _ e
 refine⟨(s.heap.push {cls:=.type "range",data:=.fields #[.int lo t,.int hi u,.int 1 v]}).objs.size,[(s.heap.push {cls:=.type "range",data:=.fields #[.int lo t,.int hi u,.int 1 v]}).objs.size],_,_,H,rfl,
  a.kept (t':=tk) λb o e=>zt _ e,Qu _ lo (hi - lo).toNat,?_,λb c=>?_,q⟩
 ·have f:lo+((0:Nat):Int) * 1=lo:=by simp
  have d:(((hi - lo).toNat:Nat):Int) - ((0:Nat):Int)=Builtin.Range.rangeSize lo hi 1:=by rw[rangeSize_one];split<;>omega
  show IsRangeIter _ _ (lo+((0:Nat):Int) * 1) ((((hi - lo).toNat:Nat):Int) - ((0:Nat):Int)) 1;rw[f,d];exact zF _ rfl
 ·have e:b=(s.heap.push {cls:=.type "range",data:=.fields #[.int lo t,.int hi u,.int 1 v]}).objs.size:=by simpa using c
  subst e;exact a.fpOk (zc _) (a.hok.fresh (zc _))
def Qz(b:TA):TI:=λσ H R=>b σ H λa c=>∃j:Int,a=[.int j]/\-(2 ^ 62)<=j/\j<2 ^ 62/\R (Itr 0 j.toNat) c
theorem QB{a:Expr}{c:TA}{p pos:Pos}(i:Gl X "range")(g:X.mg "range" = none)(k:PA X [a] c)(f:starEach [a] X.env=[(false,eval a X.env)]:=by rfl):PI X tg (.Call (.Name "range" p) [a] [] pos) (Qz c):=by
 intro pins s σ H R I h;refine Call_ (iY I i g boot_range (PyProof.Rows.callWith_type1 (thn (k pos pins s σ H _ I h) λus s1 ⟨vs,H1,I1,r1,b⟩=>?_) f rfl));obtain⟨j,e,b,d,q⟩:=b;subst e
 cases r1 with
 |cons r rr =>
  cases rr;obtain⟨t,rfl⟩:=r;exact call_range_1 (Qy I1 (by omega) (by omega) b d (by simpa using q))
def xq(f:TI)(g:TG)(h:TS):TS:=λD σ H=>f σ H λJ k=>∃W:Nat->Nat->St->Hp->Prop,(∃m,W 0 m σ k)/\∀i m σ H,W i m σ H ->
 (J.stop i H/\D.nx σ H)\/(J.go i H/\∃N:St->Hp->Prop,(∀b a,N b a->∃d,d<m/\W (i+1) d b a)/\∀x a,J.yld i H x a->g x σ a λc j=>h {D with nx:=N,ct:=N,bk:=D.nx} c j)
def rn(a:List Addr)(h:Heap):List (Addr×Obj):=a.filterMap λb=>(h.get? b).map λo=>(b,o)
theorem uA{a:List Addr}{h:Heap}{b:Addr}{o:Obj}(hb:b∈a)(e:h.get? b=some o):(b,o)∈rn a h:=List.mem_filterMap.mpr ⟨b,hb,by rw[e];rfl⟩
theorem QC{a:List Addr}{h:Heap}{p:Addr×Obj}(c:p∈rn a h):p.1∈a/\h.get? p.1=some p.2:=by
 obtain⟨b,d,e⟩:=List.mem_filterMap.mp c
 cases q:h.get? b with
 |none=>rw[q] at e;cases e
 |some o =>
  rw[q] at e;have e':(b,o)=p:=zA e;subst e';exact⟨d,q⟩
theorem Inv.pinned{pins:List (Addr×Obj)}{σ:St}{H:Hp}{s:Shared}{a:List Addr}(I:Inv X pins σ H s)(i:∀b∈a,gO X pins H b)(h:∀b∈a,∃o,s.heap.get? b=some o/\∀v,o.data≠.cell v):Inv X (pins++rn a s.heap) σ H s :=
 I.pins_of λp g=>(zz.mp g).elim (λz=>I.pin p (zI _ z)) λz=>by
  obtain⟨c,e⟩:=QC z;obtain⟨f0,k,j,_⟩:=i p.1 c;obtain⟨o,f,d⟩:=h p.1 c;rw[e] at f;cases f;exact⟨e,f0,k,j,d⟩
theorem Inv.unpinned{pins pl:List (Addr×Obj)}{σ:St}{H:Hp}{s:Shared}(I:Inv X (pins++pl) σ H s):Inv X pins σ H s:=I.pins_of λp a=>I.pin p (zI _ (zY _ a))
theorem Fj{iter:Expr}{body:List Stmt}{Y:TI}{g:TG}{tb:TS}{pos:Pos}(F:PassesOwn (model X.prog X.w) X.A X.env X.xe)(hc:X.calm=true)(hi:PI X tg iter Y)(hg:PG X tg g)(hb:PSs X body tb)
  (hs:∀x,foldedSetIterable iter X.env x=pure x:=by intro _;rfl):PS X (.For tg iter body [] pos) (xq Y g tb):=by
 intro pins s σ H D I h;refine wpAny_For (thn (hi pins s σ H _ I h) λv s1 h1=>thn h1 λitv s2 h2=>?_) hs;obtain⟨it,G,Z,J,H2,e,I2,T,U,f2,W,⟨m0,w0⟩,turn⟩:=h2;subst e
 have y:∀{z:Hp},(∀b∈G,z b=none)->∀b∈G,gO X pins z b:=λhn b hb=>⟨hn b hb,(f2 b hb).2⟩
 refine codeAny_forLoop_any (λn s'=>∃i l z,Inv X pins l z s'/\Z i s'.heap/\(∀b∈G,z b=none)/\W i n l z) ?_ m0 ⟨0,σ,H2,I2,U,λb hb=>(f2 b hb).1,w0⟩;rintro n s3 ⟨i,k,P,I3,L,O,w3⟩
 rcases turn i n k P w3 with⟨stop,qn⟩ | ⟨go,N,hN,step⟩
 ·refine wpAny_passesOwn F (thn (T.done X rfl rfl rfl hc i pins s3 k P X.xe I3 (y O) L stop) λr s4 ⟨R,I4⟩=>?_);subst R;exact wpAny_execs_nil ⟨k,P,I4,qn⟩
 ·refine wpAny_passesOwn F (thn (T.item X rfl rfl rfl hc i pins s3 k P X.xe I3 (y O) L go) λr s4 ⟨u,R,h4⟩=>?_);subst R;refine wpAny_passesOwn F (thn h4 λ_ s5 ⟨x,H5,I5,r5,y5,st5,fr5⟩=>?_);have I5':=I5.pinned (y fr5) (T.obj _ _ st5);refine wpAny_passesOwn F (thn (hg _ s5 k H5 x u _ I5' r5 (step x H5 y5)) λ_ s6 ⟨σ6,H6,I6,q6⟩=>?_);refine wpAny_passesOwn F (thn (hb _ s6 σ6 H6 _ I6 q6) λf Q B=>?_)
  have again:∀{a:St}{j:Hp},Inv X (pins++rn G s5.heap) a j Q->N a j->∃m,m<n/\∃i l z,Inv X pins l z Q/\Z i Q.heap/\(∀b∈G,z b=none)/\W i m l z:=λ{a j} c E=>by
   obtain⟨m',hm,w7⟩:=hN a j E;refine⟨m',hm,i+1,a,j,c.unpinned,T.keep _ _ _ st5 λb hb o e=>(c.pin (b,o) (zI _ (zI _ (uA hb e)))).1,λb hb=>?_,w7⟩;obtain⟨o,e,d⟩:=T.obj _ _ st5 b hb;exact(c.pin (b,o) (zI _ (zI _ (uA hb e)))).2.1
  cases f with
  |next=>obtain⟨a,j,c,E⟩:=B;exact again c E
  |cont=>obtain⟨a,j,c,E⟩:=B;exact again c E
  |brk=>obtain⟨a,j,c,B⟩:=B;exact⟨a,j,c.unpinned,B⟩
  |ret v=>obtain⟨x7,a,j,c,r7,B⟩:=B;exact⟨x7,a,j,c.unpinned,r7,B⟩
end
abbrev R2:=V->V->Hp->VK->Prop
def OpR(X:Cx)(f:Value->Value->Sem Value)(r:R2):Prop :=
 ∀(pins:List (Addr×Obj)) (s:Shared) (σ:St) (H:Hp) (x y:V) (v u:Value) (Q:VK),Inv X pins σ H s->RelV x v->RelV y u->r x y H Q ->
  wpAny (model X.prog X.w) X.A (f v u) (EP X pins σ Q) X.xe s
def UnR(X:Cx)(f:Value->Sem Value)(r:V->Hp->VK->Prop):Prop :=
 ∀(pins:List (Addr×Obj)) (s:Shared) (σ:St) (H:Hp) (x:V) (v:Value) (Q:VK),Inv X pins σ H s->RelV x v->r x H Q ->
  wpAny (model X.prog X.w) X.A (f v) (EP X pins σ Q) X.xe s
def iH(X:Cx)(f:Value)(r:List V->Hp->VK->Prop):Prop :=
 ∀(pins:List (Addr×Obj)) (s:Shared) (σ:St) (H:Hp) (a:List V) (b:List Value) (Q:VK),Inv X pins σ H s->aX a b->r a H Q ->
  wpAny (model X.prog X.w) X.A (call f b) (EP X pins σ Q) X.xe s
def QD(X:Cx)(r:V->Hp->(Bool->Hp->Prop)->Prop):Prop :=
 ∀(pins:List (Addr×Obj)) (s:Shared) (σ:St) (H:Hp) (x:V) (v:Value) (Q:Bool->Hp->Prop),Inv X pins σ H s->RelV x v->r x H Q ->
  wpAny (model X.prog X.w) X.A (truthy v) (TP X pins σ Q) X.xe s
def tOp(r:R2)(b a:TE):TE:=λσ H Q=>b σ H λx d=>a σ d λy c=>r x y c Q
def tUn(r:V->Hp->VK->Prop)(a:TE):TE:=λσ H Q=>a σ H λx b=>r x b Q
def rI(C:Int->Int->Prop)(g:Int->Int->V):R2:=λx y H Q=>∃i j,x=.int i/\y=.int j/\C i j/\Q (g i j) H
def rI0(g:Int->Int->V):R2:=λx y H Q=>∃i j,x=.int i/\y=.int j/\Q (g i j) H
def rU(g:Int->V):V->Hp->VK->Prop:=λx H Q=>∃i,x=.int i/\Q (g i) H
section
variable {X:Cx}{a b c:Expr}{ta tb tc:TE}{pos:Pos}
theorem xu(m:PE X a ta)(hb:PE X b tb){pins:List (Addr×Obj)}{s:Shared}{σ:St}{H:Hp}{R:V->V->Hp->Prop}(I:Inv X pins σ H s)
  (h:ta σ H λx k=>tb σ k λy d=>R x y d) {Q:Value->Shared->Prop}{f:Value->Value->Sem Value}
  (l:∀v u j x y d,Inv X pins σ d j->RelV x v->RelV y u->R x y d->wpAny (model X.prog X.w) X.A (f v u) Q X.xe j):
  wpAny (model X.prog X.w) X.A (eval a X.env) (λv i=>wpAny (model X.prog X.w) X.A (eval b X.env) (λu g=>wpAny (model X.prog X.w) X.A (f v u) Q X.xe g) X.xe i) X.xe s:=by
 refine thn (m pins s σ H _ I h) λv s1 ⟨x,k,I1,r1,q1⟩=>?_
 refine thn (hb pins s1 σ k _ I1 q1) λu j ⟨y,d,I2,r2,q2⟩=>?_
 exact l v u j x y d I2 r1 r2 q2
theorem QF{d:Operator}{r:R2}(j:OpR X (binaryOp d) r)(k:PE X a ta)(hb:PE X b tb):PE X (.BinOp a d b pos) (tOp r ta tb):=by
 intro pins s σ H Q I h;exact wpAny_BinOp (xu k hb I h λv u f x y m l i g q=>j pins f σ m x y v u Q l i g q)
theorem QG{d:UnaryOp}{r:V->Hp->VK->Prop}(f:UnR X (unaryOp d) r)(g:PE X a ta):PE X (.UnaryOp d a pos) (tUn r ta):=by
 intro pins s σ H Q I h;exact UnaryOp_ (thn (g pins s σ H _ I h) λv s1 ⟨x,H1,I1,r1,q1⟩=>f pins s1 σ H1 x v Q I1 r1 q1)
theorem opI{f:Value->Value->Sem Value}{C:Int->Int->Prop}{g:Int->Int->Int}
  (rule:∀(i j:Int) (t u:Tok) (s:Shared) (Q:Value->Shared->Prop) (E:Value->Shared->Prop),C i j->Q (.int (g i j) s.toks) {s with toks:=s.toks+1}->wpAny (model X.prog X.w) X.A (f (.int i t) (.int j u)) Q E s):
  OpR X f (rI C λi j=>.int (g i j)):=by
 intro pins s σ H x y v u Q I l k h;obtain⟨i,j,rfl,rfl,m,q⟩:=h;obtain⟨t,rfl⟩:=l;obtain⟨d,rfl⟩:=k;exact rule i j t d s _ _ m ⟨.int (g i j),H,I.tok _,⟨_,rfl⟩,q⟩
theorem Fo{f:Value->Value->Sem Value}{g:Int->Int->Int}
  (rule:∀(i j:Int) (t u:Tok) (s:Shared) (Q:Value->Shared->Prop) (E:Value->Shared->Prop),Q (.int (g i j) s.toks) {s with toks:=s.toks+1}->wpAny (model X.prog X.w) X.A (f (.int i t) (.int j u)) Q E s):
  OpR X f (rI0 λi j=>.int (g i j)):=by
 intro pins s σ H x y v u Q I l k h;obtain⟨i,j,rfl,rfl,q⟩:=h;obtain⟨t,rfl⟩:=l;obtain⟨d,rfl⟩:=k;exact rule i j t d s _ _ ⟨.int (g i j),H,I.tok _,⟨_,rfl⟩,q⟩
theorem xx{f:Value->Value->Sem Value}{g:Int->Int->Bool}
  (rule:∀(i j:Int) (t u:Tok) (s:Shared) (Q:Value->Shared->Prop) (E:Value->Shared->Prop),Q (.bool (g i j)) s->wpAny (model X.prog X.w) X.A (f (.int i t) (.int j u)) Q E s):
  OpR X f (rI0 λi j=>.bl (g i j)):=by
 intro pins s σ H x y v u Q I l k h;obtain⟨i,j,rfl,rfl,q⟩:=h;obtain⟨t,rfl⟩:=l;obtain⟨d,rfl⟩:=k;exact rule i j t d s _ _ ⟨.bl (g i j),H,I,rfl,q⟩
def QH(i j:Int):Prop:=0<j/\j<1073741824
def QJ(i j:Int):Prop:=0<=j/\j<=1000000/\i.natAbs<2 ^ 64
def xA(i j:Int):Prop:=(-(2 ^ 64)<i/\i<2 ^ 64)\/(-(2 ^ 64)<j/\j<2 ^ 64)
theorem xA.ok{i j:Int}(h:xA i j):IntMulOk i j:=by
 rcases h with⟨h1,h2⟩ | ⟨h1,h2⟩
 ·exact .of_left (intBits_le_64 h1 h2)
 ·exact .of_right (intBits_le_64 h1 h2)
theorem QK:OpR X (binaryOp .Add) (rI0 λi j=>.int (i+j)):=Fo λ_ _ _ _ _ _ _ q=>add_int q
theorem QL:OpR X (binaryOp .Sub) (rI0 λi j=>.int (i - j)):=Fo λ_ _ _ _ _ _ _ q=>sub_int q
theorem QM:OpR X (binaryOp .Mult) (rI xA λi j=>.int (i * j)):=opI λ_ _ _ _ _ _ _ d q=>mul_int q d.ok
theorem QQ:OpR X (binaryOp .FloorDiv) (rI QH λi j=>.int (i / j)):=opI λi j _ _ _ _ _ d q=>by
 have h1:(0:Int)<j:=d.1;have h2:j<1073741824:=d.2;exact floordiv_int (by omega) (by rw[Int.fdiv_eq_ediv_of_nonneg i (by omega)];exact q) (.inl (PyProof.noPylong_small (by omega)))
theorem QR:OpR X (binaryOp .Mod) (rI (λ_ j=>0<j) λi j=>.int (i % j)):=opI λi j _ _ _ _ _ d q=>by
 have h1:(0:Int)<j:=d;exact mod_int' (by omega) (by rw[Int.fmod_eq_emod_of_nonneg i (by omega)];exact q)
theorem QS:OpR X (binaryOp .Pow) (rI QJ λi j=>.int (i ^ j.toNat)):=opI λ_ _ _ _ _ _ _ d q=>pow_int_small d.1 d.2.1 d.2.2 q
theorem unI{f:Value->Sem Value}{g:Int->Int}
  (rule:∀(i:Int) (t:Tok) (s:Shared) (Q:Value->Shared->Prop) (E:Value->Shared->Prop),Q (.int (g i) s.toks) {s with toks:=s.toks+1}->wpAny (model X.prog X.w) X.A (f (.int i t)) Q E s):
  UnR X f (rU λi=>.int (g i)):=by
 intro pins s σ H x v Q I d h;obtain⟨i,rfl,q⟩:=h;obtain⟨t,rfl⟩:=d;exact rule i t s _ _ ⟨.int (g i),H,I.tok _,⟨_,rfl⟩,q⟩
theorem QT:UnR X (unaryOp .USub) (rU λi=>.int (-i)):=unI λ_ _ _ _ _ q=>neg_int q
theorem QV:OpR X (binaryOp .Add) (λx y H Q=>∃i k,x=.int i/\y=.bl k/\Q (.int (i+b2i k)) H):=by
 intro pins s σ H x y v u Q I f d h;obtain⟨i,k,rfl,rfl,q⟩:=h;obtain⟨t,rfl⟩:=f;cases d;exact add_int_bool ⟨.int (i+b2i k),H,I.tok _,⟨_,rfl⟩,q⟩
end
def Fp:V->V->Bool
 | .non,.non=>true | .non,.int _=>true | .int _,.non=>true | .non,.bl _=>true | .bl _,.non=>true | .non,.str _=>true | .str _,.non=>true
 | .int _,.int _=>true | .bl _,.bl _=>true | .str _,.str _=>true | .byt _,.byt _=>true
 | .int _,.str _=>true | .str _,.int _=>true | .bl _,.str _=>true | .str _,.bl _=>true
 | _,_=>false
def rEq:R2:=λx y H Q=>Fp x y=true/\Q (.bl (decide (x=y))) H
def rNe:R2:=λx y H Q=>Fp x y=true/\Q (.bl (!decide (x=y))) H
theorem Fq{i j:Int}:decide (V.int i=V.int j)=(i == j):=by
 rw[Bool.eq_iff_iff];simp
theorem Ft{i j:Bool}:decide (V.bl i=V.bl j)=(i == j):=by
 rw[Bool.eq_iff_iff];simp
theorem Fv{i j:Str}:decide (V.str i=V.str j)=(i == j):=by
 rw[Bool.eq_iff_iff];simp
theorem Fw{i j:Array UInt8}:decide (V.byt i=V.byt j)=(i.toList == j.toList):=by
 rw[Bool.eq_iff_iff];cases i;cases j;simp
section
variable {X:Cx}{a b c:Expr}{ta tb tc:TE}{pos:Pos}
theorem dh{pins:List (Addr×Obj)}{σ:St}{H:Hp}{s:Shared}{Q:VK}{k d:Bool}(I:Inv X pins σ H s)(q:Q (.bl k) H)(e:k=d):EP X pins σ Q (.bool d) s:=by
 subst e;exact⟨.bl k,H,I,rfl,q⟩
theorem xB:OpR X (compareOp .Eq) rEq:=by
 intro pins s σ H x y v u Q I k d h;obtain⟨g,q⟩:=h
 cases x with
 |non =>
  cases k
  cases y with
  |non=>cases d;exact PySem.EqNone.eq_none_none (dh I q (by simp))
  |bl j=>cases d;exact PySem.EqNone.eq_none_bool (dh I q (by simp))
  |int j=>obtain⟨f,rfl⟩:=d;exact PySem.EqNone.eq_none_int (dh I q (by simp))
  |str j=>obtain⟨f,rfl⟩:=d;exact PySem.EqNone.eq_none_str (dh I q (by simp))
  | _=>exact absurd (show false=true from g) zp
 |bl i =>
  cases k
  cases y with
  |non=>cases d;exact PySem.EqNone.eq_bool_none (dh I q (by simp))
  |bl j=>cases d;exact eq_bool (dh I q Ft)
  |str j=>obtain⟨f,rfl⟩:=d;exact PySem.EqMixed.eq_bool_str (dh I q (by simp))
  | _=>exact absurd (show false=true from g) zp
 |int i =>
  obtain⟨t,rfl⟩:=k
  cases y with
  |non=>cases d;exact PySem.EqNone.eq_int_none (dh I q (by simp))
  |int j=>obtain⟨f,rfl⟩:=d;exact eq_int (dh I q Fq)
  |str j=>obtain⟨f,rfl⟩:=d;exact PySem.EqMixed.eq_int_str (dh I q (by simp))
  | _=>exact absurd (show false=true from g) zp
 |str i =>
  obtain⟨t,rfl⟩:=k
  cases y with
  |non=>cases d;exact PySem.EqNone.eq_str_none (dh I q (by simp))
  |bl j=>cases d;exact PySem.EqMixed.eq_str_bool (dh I q (by simp))
  |int j=>obtain⟨f,rfl⟩:=d;exact PySem.EqMixed.eq_str_int (dh I q (by simp))
  |str j=>obtain⟨f,rfl⟩:=d;exact eq_str (dh I q Fv)
  | _=>exact absurd (show false=true from g) zp
 |byt i =>
  obtain⟨t,rfl⟩:=k
  cases y with
  |byt j=>obtain⟨f,rfl⟩:=d;exact PySem.W.eq_bytes (dh I q Fw)
  | _=>exact absurd (show false=true from g) zp
 | _=>cases y<;>exact absurd (show false=true from g) zp
theorem xC:OpR X (compareOp .NotEq) rNe:=by
 intro pins s σ H x y v u Q I k d h;obtain⟨g,q⟩:=h
 cases x with
 |non =>
  cases k
  cases y with
  |non=>cases d;exact PySem.EqNone.ne_none_none (dh I q (by simp))
  |bl j=>cases d;exact PySem.EqNone.ne_none_bool (dh I q (by simp))
  |int j=>obtain⟨f,rfl⟩:=d;exact PySem.EqNone.ne_none_int (dh I q (by simp))
  |str j=>obtain⟨f,rfl⟩:=d;exact PySem.EqNone.ne_none_str (dh I q (by simp))
  | _=>exact absurd (show false=true from g) zp
 |bl i =>
  cases k
  cases y with
  |non=>cases d;exact PySem.EqNone.ne_bool_none (dh I q (by simp))
  |bl j=>cases d;exact ne_bool (dh I q (congrArg not Ft))
  |str j=>obtain⟨f,rfl⟩:=d;exact PySem.EqMixed.ne_bool_str (dh I q (by simp))
  | _=>exact absurd (show false=true from g) zp
 |int i =>
  obtain⟨t,rfl⟩:=k
  cases y with
  |non=>cases d;exact PySem.EqNone.ne_int_none (dh I q (by simp))
  |int j=>obtain⟨f,rfl⟩:=d;exact ne_int (dh I q (congrArg not Fq))
  |str j=>obtain⟨f,rfl⟩:=d;exact PySem.EqMixed.ne_int_str (dh I q (by simp))
  | _=>exact absurd (show false=true from g) zp
 |str i =>
  obtain⟨t,rfl⟩:=k
  cases y with
  |non=>cases d;exact PySem.EqNone.ne_str_none (dh I q (by simp))
  |bl j=>cases d;exact PySem.EqMixed.ne_str_bool (dh I q (by simp))
  |int j=>obtain⟨f,rfl⟩:=d;exact PySem.EqMixed.ne_str_int (dh I q (by simp))
  |str j=>obtain⟨f,rfl⟩:=d;exact ne_str (dh I q (congrArg not Fv))
  | _=>exact absurd (show false=true from g) zp
 |byt i =>
  obtain⟨t,rfl⟩:=k
  cases y with
  |byt j=>obtain⟨f,rfl⟩:=d;exact PySem.W.ne_bytes (dh I q (congrArg not Fw))
  | _=>exact absurd (show false=true from g) zp
 | _=>cases y<;>exact absurd (show false=true from g) zp
theorem QW:OpR X (compareOp .Lt) (rI0 λi j=>.bl (decide (i<j))):=xx λ_ _ _ _ _ _ _ q=>lt_int q
theorem QX:OpR X (compareOp .LtE) (rI0 λi j=>.bl (decide (i<=j))):=xx λ_ _ _ _ _ _ _ q=>le_int q
theorem QZ:OpR X (compareOp .Gt) (rI0 λi j=>.bl (decide (j<i))):=xx λ_ _ _ _ _ _ _ q=>gt_int q
theorem bG(b:Expr){d:CmpOp}(h:d≠.In:=by decide)(h2:d≠.NotIn:=by decide):behindInMarks d b=false:=by
 have g:(d == CmpOp.In)=false:=by cases d<;>first | rfl | exact absurd rfl h
 have f:(d == CmpOp.NotIn)=false:=by cases d<;>first | rfl | exact absurd rfl h2
 cases b<;>simp[behindInMarks,g,f]
theorem Q0{d:CmpOp}{r:R2}(j:OpR X (compareOp d) r)(l:PE X a ta)(hb:PE X b tb)(k:behindInMarks d b=false):PE X (.Compare a [d] [b] pos) (tOp r ta tb):=by
 intro pins s σ H Q I h;exact wpAny_Compare1 (xu l hb I h λv u f x y n m i g q=>j pins f σ n x y v u Q m i g q) k
def uB(t:TE):TT:=λσ H Q=>t σ H λx d=>∃k,x=.bl k/\Q k d
theorem Fx{d:CmpOp}{r:R2}(f:OpR X (compareOp d) r)(i:PE X a ta)(hb:PE X b tb)(g:behindInMarks d b=false):PT X (.Compare a [d] [b] pos) (uB (tOp r ta tb)):=by
 intro pins s σ H Q I h
 refine wpAny_isTrue_Compare1 (thn (i pins s σ H _ I h) λv s1 ⟨x,H1,I1,r1,q1⟩=>thn (hb pins s1 σ H1 _ I1 q1) λu s2 ⟨y,H2,I2,r2,q2⟩ =>
  thn (f pins s2 σ H2 x y v u _ I2 r1 r2 q2) λc s3 ⟨z,H3,I3,r3,k,e,q3⟩=>?_) g
 subst e;cases r3;exact wpAny_truthy_bool ⟨H3,I3,q3⟩
def Fy(r g:R2)(ta tb tc:TE):TE:=λσ H Q=>ta σ H λx j=>tb σ j λy i=>r x y i λz d=>∃k,z=.bl k /\
 (if k=true then tc σ d λf h=>g y f h Q else Q (.bl false) d)
theorem Q3{g f:CmpOp}{r j:R2}(m:OpR X (compareOp g) r)(i:OpR X (compareOp f) j)(E:PE X a ta)(hb:PE X b tb)(B:PE X c tc)
  (n:lastMarks [g,f] [b,c]=false:=by with_unfolding_all rfl):PT X (.Compare a [g,f] [b,c] pos) (uB (Fy r j ta tb tc)):=by
 intro pins s σ H Q I h
 refine isTrue_chain (thn (E pins s σ H _ I h) λv s1 ⟨x,H1,I1,r1,q1⟩=>test_link (thn (hb pins s1 σ H1 _ I1 q1) λu s2 ⟨y,H2,I2,r2,q2⟩ =>
  thn (m pins s2 σ H2 x y v u _ I2 r1 r2 q2) λd s3 ⟨z,H3,I3,r3,k,e,q3⟩=>?_)) n
 subst e;cases r3;refine wpAny_truthy_bool ?_
 cases k with
 |false =>
  obtain⟨G,F,l⟩:=q3;cases F;exact ite_ff ⟨H3,I3,l⟩
 |true =>
  refine ite_tt (test_last (thn (B pins s3 σ H3 _ I3 q3) λw' s4 ⟨z',H4,I4,r4,q4⟩=>thn (i pins s4 σ H4 y z' u w' _ I4 r2 r4 q4) λd' s5 ⟨z2,H5,I5,r5,k2,e2,q5⟩=>?_));subst e2;cases r5;exact wpAny_truthy_bool ⟨H5,I5,q5⟩
def xD(K:PySem.W.Frag)(x:V)(H:Hp)(k:Bool):Prop :=
 match x with
 | .non=>k=false
 | .bl b=>k=b
 | .int i=>k=(i != 0)
 | .str y=>y.length<=sizeLine/\k=((y.length:Int) != 0)
 | .byt y=>y.size<=sizeLine/\k=((y.size:Int) != 0)
 | .ref p=>(∃d,SqL K H p d/\k = !d.isEmpty)\/(∃d,SqT K H p d/\k = !d.isEmpty)\/∃f,H p=some (.dK f)/\k = !f.isEmpty
 | _=>False
theorem Q4{κ:Type}{d:List (κ×V)}{vs:List (κ×Value)}(r:KV d vs):(!vs.isEmpty) = !d.isEmpty:=by
 cases r<;>rfl
theorem Fz{xs:List V}{its:List Value}(r:aX xs its):(!its.toArray.isEmpty) = !xs.isEmpty:=by
 cases r<;>simp
theorem pA:(sizeLine:Nat)<2 ^ 63:=by rw[sizeLine_eq];decide
theorem Q5:QD X (λx H Q=>∃k,xD X.K x H k/\Q k H):=by
 intro pins s σ H x v Q I j h;obtain⟨k,e,q⟩:=h;have J:=pA;have G:sizeLine=16777216:=sizeLine_eq
 cases x with
 |non =>
  cases j;have d:k=false:=e;subst d;exact truthy_none ⟨H,I,q⟩
 |bl b =>
  cases j;have d:k=b:=e;subst d;exact wpAny_truthy_bool ⟨H,I,q⟩
 |int i =>
  obtain⟨t,rfl⟩:=j;have d:k=(i != 0):=e;subst d;exact PySem.P.truthy_int ⟨H,I,q⟩
 |str y =>
  obtain⟨t,rfl⟩:=j;obtain⟨E,d⟩:y.length<=sizeLine/\k=((y.length:Int) != 0):=e;subst d;exact PySem.P.truthy_str (by omega) ⟨H,I.tok _,q⟩
 |byt y =>
  obtain⟨t,rfl⟩:=j;obtain⟨E,d⟩:y.size<=sizeLine/\k=((y.size:Int) != 0):=e;subst d;exact PySem.W.truthy_bytes (by omega) ⟨H,I.tok _,q⟩
 |ref p =>
  cases j;have d:(∃g,SqL X.K H p g/\k = !g.isEmpty)\/(∃g,SqT X.K H p g/\k = !g.isEmpty)\/∃f,H p=some (.dK f)/\k = !f.isEmpty:=e
  rcases d with⟨g,l,d⟩ | ⟨g,l,d⟩ | ⟨f,l,d⟩
  ·subst d;obtain⟨z,r,u,B⟩:=I.list l;have hlen:=r.length;exact wpAny_truthy_list u.isList (by simp only[zr];omega) ⟨H,I.tok _,by rw[Fz r];exact q⟩
  ·subst d;obtain⟨z,r,u,B⟩:=I.tuple l;have hlen:=r.length;exact truthy_tuple u (by simp only[zr];omega) ⟨H,I.tok _,by rw[Fz r];exact q⟩
  ·subst d;obtain⟨B,F,n,r,m⟩:f.length<=sizeLine/\(p == sysModules)=false/\∃n,KV f n/\s.heap.DictOf (fZ X.prog X.w) p n:=I.hok p _ l;have hlen:f.length=n.length:=Paired.length r;exact wpAny_truthy_dict F m (by omega) ⟨H,I.tok _,by rw[Q4 r];exact q⟩
 | _=>exact(show False from e).elim
theorem Q6(g:PE X a ta)(f:∀whole,isTrue a X.env whole=(do let v <-whole;standAt a.pos;holding [v] (truthy v))):
  PT X a (λσ H Q=>ta σ H λx d=>∃k,xD X.K x d k/\Q k d):=by
 intro pins s σ H Q I h;exact isTrue_plain (thn (g pins s σ H _ I h) λv s1 ⟨x,H1,I1,r1,q1⟩=>Q5 pins s1 σ H1 x v Q I1 r1 q1) (f _)
theorem Ra:OpR X (binaryOp .Add) (λx y H Q=>∃i j,x=.str i/\y=.str j/\i.length+j.length<=sizeLine/\Q (.str (i++j)) H):=by
 intro pins s σ H x y v u Q I g f h;obtain⟨i,j,rfl,rfl,k,q⟩:=h;obtain⟨t,rfl⟩:=g;obtain⟨d,rfl⟩:=f;exact add_str (λd tk=>⟨.str (i++j),H,I.tok _,⟨_,rfl⟩,q⟩) k
theorem vals1{x:V}{us:List Value}(r:aX [x] us):∃u,us=[u]/\RelV x u:=by
 cases r with
 |cons f d=>cases d;exact⟨_,rfl,f⟩
theorem vals2{x y:V}{us:List Value}(r:aX [x,y] us):∃u d,us=[u,d]/\RelV x u/\RelV y d:=by
 cases r with
 |cons r1 r2 =>
  cases r2 with
  |cons g f=>cases f;exact⟨_,_,rfl,r1,g⟩
theorem Rb(f:X.calm=true):iH X (.builtin "min") (λxs H Q=>∃i j,xs=[.int i,.int j]/\Q (.int (if j<i then j else i)) H):=by
 intro pins s σ H xs l Q I r h;obtain⟨i,j,rfl,q⟩:=h;obtain⟨u,g,rfl,⟨t,rfl⟩,⟨m,rfl⟩⟩:=vals2 r
 refine min_two_ints (I.ok.hd f) λn tk k=>⟨_,H,I.kept k,?_,q⟩
 by_cases d:j<i
 ·rw[if_pos d,if_pos d];exact⟨_,rfl⟩
 ·rw[if_neg d,if_neg d];exact⟨_,rfl⟩
theorem FJ:iH X (.type "int") (λxs H Q=>(∃i,xs=[.int i]/\Q (.int i) H)\/∃k,xs=[.bl k]/\Q (.int (if k then 1 else 0)) H):=by
 intro pins s σ H xs f Q I r h
 rcases h with⟨i,rfl,q⟩ | ⟨k,rfl,q⟩
 ·obtain⟨u,rfl,t,rfl⟩:=vals1 r;exact call_int_int ⟨.int i,H,I,⟨_,rfl⟩,q⟩
 ·obtain⟨u,rfl,d⟩:=vals1 r;cases d;exact call_int_bool ⟨.int (if k then 1 else 0),H,I.tok _,⟨_,rfl⟩,q⟩
def Rc(K:PySem.W.Frag)(x:V)(H:Hp)(n:Nat):Prop :=
 match x with
 | .str y=>y.length<=sizeLine/\n=y.length
 | .byt y=>y.size<=sizeLine/\n=y.size
 | .ref p=>(∃d,SqL K H p d/\n=d.length)\/∃d,SqT K H p d/\n=d.length
 | _=>False
theorem call_len:iH X (.builtin "len") (λxs H Q=>∃x n,xs=[x]/\Rc X.K x H n/\Q (.int n) H):=by
 intro pins s σ H xs z Q I r h;obtain⟨x,n,rfl,e,q⟩:=h;obtain⟨u,rfl,f⟩:=vals1 r;have E:=pA;have B:sizeLine=16777216:=sizeLine_eq
 cases x with
 |str y =>
  obtain⟨t,rfl⟩:=f;obtain⟨m,d⟩:y.length<=sizeLine/\n=y.length:=e;subst d;exact len_str (by omega) ⟨.int _,H,I.tok _,⟨_,rfl⟩,q⟩
 |byt y =>
  obtain⟨t,rfl⟩:=f;obtain⟨m,d⟩:y.size<=sizeLine/\n=y.size:=e;subst d;exact PySem.W.len_bytes (by omega) ⟨.int _,H,I.tok _,⟨_,rfl⟩,q⟩
 |ref p =>
  cases f;have d:(∃xs,SqL X.K H p xs/\n=xs.length)\/∃xs,SqT X.K H p xs/\n=xs.length:=e
  rcases d with⟨xs,j,d⟩ | ⟨xs,j,d⟩
  ·subst d;obtain⟨k,g,i,l⟩:=I.list j;have hlen:=g.length;exact Calls.call_len_list i.isList (by simp only[zr];omega) ⟨.int xs.length,H,I.tok _,⟨_,by simp only[zr];rw[hlen]⟩,q⟩
  ·subst d;obtain⟨k,g,i,l⟩:=I.tuple j;have hlen:=g.length;exact len_tuple i (by simp only[zr];omega) ⟨.int xs.length,H,I.tok _,⟨_,by simp only[zr];rw[hlen]⟩,q⟩
 | _=>exact(show False from e).elim
end
structure nj(h:Heap)(x dx C:Addr)(mA:Str->Option Value):Prop where
 obj:h.get? x=some (PySem.W.instObj C dx)
 ns:h.Ns1 dx mA
 ne:dx≠x
theorem Rf{h:Heap}{g:Addr}{d:Str->Option Value}(n:h.Ns1 g d):∃c,h.get? g=some c/\∀name,PySem.W.lookIn name c=some (d name):=by
 obtain⟨o,f,m,j,hd,l,_,k⟩:=n;refine⟨o,j,λname=>?_⟩;have e:=k name;unfold nsFind findBy at e;rw[<-Array.find?_toList] at e;unfold PySem.W.lookIn;rw[hd];dsimp only
 split
 ·rename_i y q;rw[q] at e;exact congrArg some e
 ·rename_i q;rw[q] at e
  have a:f.toList.any (·.refKey)=false:=by
   rw[List.any_eq_false];intro y i;obtain⟨z,t,b⟩:=l y (Array.mem_toList_iff.mp i);simp[DictEntry.refKey,b]
  have a':¬f.toList.any (·.refKey)=true:=by rw[a];exact zp
  rw[if_neg a'];exact congrArg some e
theorem nj.look{h:Heap}{x c C:Addr}{b:Str->Option Value}(I:nj h x c C b):∃a,PySem.W.InstAt h x (PySem.W.instObj C c) C (some a)/\∀name,PySem.W.lookIn name a=some (b name):=
 let ⟨a,ho,hl⟩:=Rf I.ns
 ⟨a,⟨I.obj,rfl,rfl,ho⟩,hl⟩
section
variable {prog:Program}{w:World}{A:Around}{E:Value->Shared->Prop}{s:Shared}{K:PySem.W.Frag}{x dx C f:Addr}{mA:Str->Option Value}{name:Str}{v:Value}
theorem Rg{expr:Bool}{Q:Value->Shared->Prop}(X:K.In s.heap)(I:nj s.heap x dx C mA)(d:PySem.W.plainGet K C name=true)(c:PySem.W.hasDictIn K C=true)
  (g:PySem.W.findIn K (.ref C) name=some none) (hv:mA name=some v) (a:PySem.W.handedIn v=true) (h:Q v {s with toks:=s.toks+1}):
  wpAny (model prog w) A (getAttr (.ref x) name expr) Q E s:=by
 obtain⟨i,J,b⟩:=I.look;exact PySem.W.get_value X J (PySem.W.plainGet_of d).1 (PySem.W.findObj_own c g rfl (by rw[b,hv])) a h
theorem Rh{pl:Sem Bool}{Q:Value×List Value->Shared->Prop}(X:K.In s.heap)(I:nj s.heap x dx C mA)(a:PySem.W.plainGet K C name=true)
  (g:PySem.W.findIn K (.ref C) name=some (some (.ref f))) (c:PySem.W.isFn K (.ref f)=true) (hv:mA name=none) (h:Q (.ref f,[.ref x]) s):
  wpAny (model prog w) A (getMethod (.ref x) name pl) Q E s:=by
 obtain⟨b,J,d⟩:=I.look;exact PySem.W.method_fn X J (PySem.W.plainGet_of a).1 (PySem.W.plainGet_of a).2 g (beq_iff_eq.mp c) (by show(PySem.W.lookIn name b).map (·.isSome)=some false;rw[d,hv];rfl) h
theorem Ri{ns:List Str}{Q:Unit->Shared->Prop}(X:K.In s.heap)(I:nj s.heap x dx C mA)
  (n:PySem.W.findIn K (.ref C) "__setattr__" = some (some (.builtin "object.__setattr__"))) (u:PySem.W.plainOver K C=true) (m:PySem.W.takerIn K C name=some none) (z:PySem.W.hasDictIn K C=true)
  (hw:PySem.Within mA ns) (hsz:ns.length<=sizeLine)
  (h:∀h',nj h' x dx C (λy=>if y=name then some v else mA y)->Heap.SameBut dx s.heap h'->Q () {s with heap:=h',toks:=s.toks+2}):
  wpAny (model prog w) A (setAttr (.ref x) name v) Q E s:=by
 obtain⟨H,J,L⟩:=I.look;refine PySem.W.set_plain X J n (PySem.W.osa_open (s:={s with toks:=s.toks+1}) (r:=none) X J u m λb=>?_);obtain⟨O,B,j⟩:=PySem.W.any_some z;have l:s.heap.get? x=some ⟨.ref C,some dx,.plain,#[]⟩:=I.obj;refine za (zb (za (za (wpAny_loadPart l (za (PySem.W.Looks.here (s:={s with toks:=s.toks+1}) (PySem.W.looks_clsIn X B) ?_))))));rw[j];refine zb (a:=some dx) (za (zb (za ?_)))
 refine wpAny_nsSet1 (s:={s with toks:=s.toks+1}) I.ns λh' d c=>?_
 obtain⟨oD,F,G,g,i,k⟩:=d.count (PySem.Within.cons name v hw);refine za (wpAny_lookBehind g (by rw[i];exact pastItsLine_dict (zH k (by rw[zC];omega))) ?_);exact zb (h _ ⟨(c.2 _ (Ne.symm I.ne)).trans I.obj,d,I.ne⟩ c)
theorem Rj{R:Result->Shared->Prop}{vs:List Value}{a:List (Str×Value)}(X:K.In s.heap)(b:PySem.W.makesIn K C=true)
  (hi:PySem.W.findIn K (.ref C) "__init__" = some (some (.ref f))) (c:PySem.W.typeIn K (.ref f)=some (.type "function"))
  (h:codeAny (model prog w) (A.under (.builtin "type.__call__" ⟨.ref C::vs,a⟩)) (.call (.ref f) ⟨.ref (s.heap.objs.size+1)::vs,a⟩) (PySem.W.InitBack (s.heap.objs.size+1) R)
   {s with heap:=(s.heap.push PySem.W.emptyDict).push (PySem.W.instObj C s.heap.objs.size)}):
  codeAny (model prog w) A (.call (.ref C) ⟨vs,a⟩) R s:=by
 obtain⟨i,g,d,t,os⟩:=s;exact PySem.W.make_core (PySem.W.makes_of X b) (PySem.W.looks_findIn X hi) (λself=>PySem.W.bind_fn X self c) (.inl rfl) h
end
def fK(f:Str)(v:V):List (Str×V)->List (Str×V)
 | []=>[(f,v)]
 | (g,x)::r=>if g=f then(g,v)::r else(g,x)::fK f v r
theorem FN(f g:Str)(v:V):∀fs:List (Str×V),(fK f v fs).lookup g=if g=f then some v else fs.lookup g
 | []=>by
  show List.lookup g [(f,v)]=_
  by_cases h:g=f
  ·have a:(g == f)=true:=beq_iff_eq.mpr h;simp only[List.lookup,a,if_pos h]
  ·have a:(g == f)=false:=beq_eq_false_iff_ne.mpr h;simp only[List.lookup,a,if_neg h]
 | (k,x)::r=>by
  have c:=FN f g v r;rw[show fK f v ((k,x)::r)=(if k=f then(k,v)::r else(k,x)::fK f v r) from rfl]
  by_cases b:k=f
  ·rw[if_pos b]
   by_cases h:g=k
   ·have a:(g == k)=true:=beq_iff_eq.mpr h;simp only[List.lookup,a,if_pos (h.trans b)]
   ·have a:(g == k)=false:=beq_eq_false_iff_ne.mpr h;simp only[List.lookup,a,if_neg (λe:g=f=>h (e.trans b.symm))]
  ·rw[if_neg b]
   by_cases h:g=k
   ·have a:(g == k)=true:=beq_iff_eq.mpr h;simp only[List.lookup,a,if_neg (λe:g=f=>b (h.symm.trans e))]
   ·have a:(g == k)=false:=beq_eq_false_iff_ne.mpr h;simp only[List.lookup,a];exact c
theorem xE(f:Str)(v:V):∀fs:List (Str×V),f∈(fK f v fs).map (·.1)/\∀g,g∈fs.map (·.1)->g∈(fK f v fs).map (·.1)
 | []=>⟨by simp[fK],λg h=>by simp at h⟩
 | (k,x)::r=>by
  obtain⟨c,b⟩:=xE f v r;rw[show fK f v ((k,x)::r)=(if k=f then(k,v)::r else(k,x)::fK f v r) from rfl]
  by_cases a:k=f
  ·rw[if_pos a];subst a;exact⟨by simp,λg h=>by simpa using h⟩
  ·rw[if_neg a];refine⟨?_,λg h=>?_⟩
   ·rw[zl];exact zv _ c
   ·rw[zl] at h ⊢
    rcases zm.mp h with e | e
    ·exact zm.mpr (.inl e)
    ·exact zv _ (b g e)
theorem FP(f:Str)(v:V):∀fs:List (Str×V),(fK f v fs).length<=fs.length+1
 | []=>by simp[fK]
 | (k,x)::r=>by
  have b:=FP f v r;rw[show fK f v ((k,x)::r)=(if k=f then(k,v)::r else(k,x)::fK f v r) from rfl]
  by_cases a:k=f
  ·rw[if_pos a,zC,zC];omega
  ·rw[if_neg a,zC,zC];omega
theorem fQ.some_of{v:V}{o:Option Value}(r:fQ (some v) o):∃u,o=some u/\RelV v u:=by
 cases o with
 |none=>exact(show False from r).elim
 |some u=>exact⟨u,rfl,r⟩
theorem fQ.none_of{o:Option Value}(r:fQ none o):o=none:=by
 cases o with
 |none=>rfl
 |some u=>exact(show False from r).elim
theorem Rk{v:V}{u:Value}(r:RelV v u):PySem.W.handedIn u=true:=by
 cases v with
 |non=>cases(show u=Value.none from r);rfl
 |bl b=>cases(show u=Value.bool b from r);rfl
 |int i=>obtain⟨t,e⟩:=(show ∃t,u=Value.int i t from r);cases e;rfl
 |str x=>obtain⟨t,e⟩:=(show ∃t,u=Value.str x t from r);cases e;rfl
 |byt b=>obtain⟨t,e⟩:=(show ∃t,u=Value.bytes b t from r);cases e;rfl
 |flt b=>obtain⟨t,e⟩:=(show ∃t,u=Value.float b t from r);cases e;rfl
 |ref a=>cases(show u=Value.ref a from r);rfl
 |ty n=>cases(show u=Value.type n from r);rfl
section
variable {P:Program}{w:World}{H H':Hp}{h h':Heap}{a C dx:Addr}{fs fs':List (Str×V)}
theorem uC(hok:HOk P w H h)(e:H a=some (.ins C dx fs)):∃b,nj h a dx C b/\(∀f,fQ (fs.lookup f) (b f))/\PySem.Within b (fs.map (·.1))/\fs.length<=1000/\H dx=some (.own a):=by
 obtain⟨d,z,ne,ob,b,n,r,q⟩:=(show cW P w H h a (.ins C dx fs) from hok a _ e);exact⟨b,⟨ob,n,ne⟩,r,q,z,d⟩
end
structure Cls(K:PySem.W.Frag)(C:Addr):Prop where
 pg:PySem.W.plainGet K C Str.empty=true
 hd:PySem.W.hasDictIn K C=true
 po:PySem.W.plainOver K C=true
 sa:PySem.W.findIn K (.ref C) "__setattr__" = some (some (.builtin "object.__setattr__"))
theorem Cls.get{K:PySem.W.Frag}{C:Addr}(c:Cls K C)(f:Str):PySem.W.plainGet K C f=true:=c.pg
def nu(K:PySem.W.Frag)(C:Addr)(f:Str):Prop:=PySem.W.findIn K (.ref C) f=some none
theorem nu.taker{K:PySem.W.Frag}{C:Addr}{f:Str}(n:nu K C f):PySem.W.takerIn K C f=some none:=by
 unfold PySem.W.takerIn;rw[show PySem.W.findIn K (.ref C) f=some none from n];rfl
structure Con(K:PySem.W.Frag)(C:Addr)(f:Str)(v:V)(u:Value):Prop where
 at_:PySem.W.findIn K (.ref C) f=some (some u)
 rel:RelV v u
 get:PySem.W.specialIn K u "__get__" = some none
 cp:PySem.W.copiedNames.contains f=false
structure rz(K:PySem.W.Frag)(C:Addr)(m:Str)(f:Addr):Prop where
 at_:PySem.W.findIn K (.ref C) m=some (some (.ref f))
 fn:PySem.W.isFn K (.ref f)=true
 kp:PySem.W.keepIn K (.ref f)=true
section
variable {X:Cx}{pins:List (Addr×Obj)}{σ:St}{H:Hp}{s:Shared}{a C dx:Addr}{fs:List (Str×V)}{f:Str}{v:V}{A:Around}{E:Value->Shared->Prop}
theorem Rm{b:Bool}{Q:Value->Shared->Prop}(I:Inv X pins σ H s)(e:H a=some (.ins C dx fs))(c:Cls X.K C)(n:nu X.K C f)(l:fs.lookup f=some v)
  (h:∀u d,Inv X pins σ H d->RelV v u->Q u d):wpAny (model X.prog X.w) A (getAttr (.ref a) f b) Q E s:=by
 obtain⟨i,O,r,_,_,_⟩:=uC I.hok e;obtain⟨u,j,g⟩:=fQ.some_of (v:=v) (o:=i f) (by rw[<-l];exact r f);exact Rg I.kIn O (c.get f) c.hd n j (Rk g) (h u _ (I.tok _) g)
theorem FQ{m:Str}{g:Addr}{pl:Sem Bool}{Q:Value×List Value->Shared->Prop}(I:Inv X pins σ H s)(e:H a=some (.ins C dx fs))(c:Cls X.K C)(k:rz X.K C m g)(l:fs.lookup m=none)
  (h:Q (.ref g,[.ref a]) s):wpAny (model X.prog X.w) A (getMethod (.ref a) m pl) Q E s:=by
 obtain⟨b,O,r,_,_,_⟩:=uC I.hok e;have d:b m=none:=fQ.none_of (by rw[<-l];exact r m);exact Rh I.kIn O (c.get m) k.at_ k.fn d h
theorem Rn{y:V}{u:Value}{Q:Unit->Shared->Prop}(I:Inv X pins σ H s)(e:H a=some (.ins C dx fs))(c:Cls X.K C)(n:nu X.K C f)(P:fs.length<1000)(B:RelV y u)
  (h:∀j,Inv X pins σ (upd H a (.ins C dx (fK f y fs))) j->Q () j):wpAny (model X.prog X.w) A (setAttr (.ref a) f u) Q E s:=by
 obtain⟨k,O,r,i,_,l⟩:=uC I.hok e
 have F:(fs.map (·.1)).length<=sizeLine:=by rw[zd,sizeLine_eq];omega
 refine Ri I.kIn O c.sa c.po n.taker c.hd i F λL d m=>h _ ?_
 have hd:∃o,L.get? dx=some o:=let ⟨o,_,_,e',_⟩:=d.ns;⟨o,e'⟩;refine I.write (x:=a) (e:=dx) (by rw[e];exact True.intro) (.inr l) (λb q J z=>(m.2 b J).trans z) hd ?_;refine⟨by rw[aP O.ne];exact l,?_,O.ne,d.obj,_,d.ns,λg=>?_,λg G=>?_⟩
 ·have:=FP f y fs;omega
 ·show fQ ((fK f y fs).lookup g) (if g=f then some u else k g);rw[FN]
  by_cases q:g=f
  ·rw[if_pos q,if_pos q];exact B
  ·rw[if_neg q,if_neg q];exact r g
 ·by_cases q:g=f
  ·rw[q];exact(xE f y fs).1
  ·refine(xE f y fs).2 g (i g λz=>G ?_);show(if g=f then some u else k g)=none;rw[if_neg q];exact z
theorem Inv.made(I:Inv X pins σ H s):Inv X pins σ (upd (upd H s.heap.objs.size (.own (s.heap.objs.size+1))) (s.heap.objs.size+1) (.ins C s.heap.objs.size []))
  {s with heap:=(s.heap.push PySem.W.emptyDict).push (PySem.W.instObj C s.heap.objs.size)}:=by
 have c:(s.heap.push PySem.W.emptyDict).get? s.heap.objs.size=some PySem.W.emptyDict:=zF s.heap rfl
 have i:((s.heap.push PySem.W.emptyDict).push (PySem.W.instObj C s.heap.objs.size)).get? (s.heap.objs.size+1)=some (PySem.W.instObj C s.heap.objs.size):=by
  have:=zF (s.heap.push PySem.W.emptyDict) (o:=PySem.W.instObj C s.heap.objs.size) rfl
  rwa [Heap.size_push] at this
 have h:(s.heap.push PySem.W.emptyDict).Ns s.heap.objs.size (λ_=>none):=⟨PySem.W.emptyDict,#[],_,c,rfl,(λe g=>absurd g (by simp)),λ_=>rfl⟩;have j:=I.laid (a:=s.heap.objs.size) (o:=.own (s.heap.objs.size+1)) (h':=s.heap.push PySem.W.emptyDict) (t':=s.toks) (λb u q=>zt _ q) (zc _) ⟨_,c⟩;refine j.laid (a:=s.heap.objs.size+1) (o:=.ins C s.heap.objs.size []) (t':=s.toks) (λb u q=>zt _ q) (Nat.le_of_eq (Heap.size_push _ _)) ?_;have ne:s.heap.objs.size≠s.heap.objs.size+1:=zB (ja _);refine⟨by rw[aP ne,bW],Nat.zero_le _,ne,i,λ_=>none,(Heap.Ns1.of_empty h).at λo q=>zt _ q,λ_=>True.intro,λy d=>absurd rfl d⟩
theorem Ro{prog:Program}{w:World}{env:Env}{e:Expr}{f:Str}{pos:Pos}{s:Shared}{Q:Value->Shared->Prop}(hb:attributeBase e f env (eval e env)=eval e env)
  (h:wpAny (model prog w) A (eval e env) (λo b=>wpAny (model prog w) A (getAttr o f true) Q E b) E s):wpAny (model prog w) A (eval (.Attribute e f pos) env) Q E s :=
 Attribute_any_ h (by rw[arm_eval_Attribute,hb])
end
def Rq(K:PySem.W.Frag)(c:TE)(f:Str):TE:=λσ H Q=>c σ H λx b=>∃a C d fs v,x=.ref a/\b a=some (.ins C d fs)/\Cls K C/\nu K C f/\fs.lookup f=some v/\Q v b
def Rr(K:PySem.W.Frag)(g d:TE)(f:Str):TS:=λD σ H=>d σ H λy h=>g σ h λx c=>∃a C b fs,x=.ref a/\c a=some (.ins C b fs)/\Cls K C/\nu K C f/\fs.length<1000 /\
 D.nx σ (upd c a (.ins C b (fK f y fs)))
section
variable {X:Cx}{o e value:Expr}{f:Str}{pos pos' tpos:Pos}{ta tv:TE}
theorem Rt(d:PE X e ta)(hb:attributeBase e f X.env (eval e X.env)=eval e X.env):PE X (.Attribute e f pos) (Rq X.K ta f):=by
 intro pins s σ H Q I h;refine Ro hb (thn (d pins s σ H _ I h) λu s1 ⟨x,H1,I1,rx,a,C,dx,fs,v,ex,ea,c,n,l,q⟩=>?_);subst ex;obtain rfl:u=Value.ref a:=rx
 exact Rm I1 ea c n l λi j g b=>⟨v,H1,g,b,q⟩
theorem Ru(d:PE X o ta)(hv:PE X value tv)(b:swapsWith value (some (.Attribute o f pos')) pos.line X.env=pure false):PS X (.Assign [.Attribute o f pos'] value pos) (Rr X.K ta tv f):=by
 intro pins s σ H D I h;refine plainObj_wpAny_Assign_Attribute (thn (hv pins s σ H _ I h) λu s1 ⟨y,H1,I1,ry,q⟩=>thn (d pins s1 σ H1 _ I1 q) λov s2 ⟨x,H2,I2,rx,a,C,dx,fs,ex,ea,c,n,l,q2⟩=>?_) b;subst ex;obtain rfl:ov=Value.ref a:=rx
 exact Rn I2 ea c n l ry λi g=>⟨σ,_,g,q2⟩
end
section
variable {X:Cx}{pins:List (Addr×Obj)}{σ:St}{H:Hp}{s:Shared}{A:Around}{E:Value->Shared->Prop}{Q:Value->Shared->Prop}{c:Value}{b:Bool}
inductive iI (K:PySem.W.Frag) (H:Hp):V->Value->Prop where
 | non:iI K H .non (.type "NoneType")
 | bl (x:Bool):iI K H (.bl x) (.type "bool")
 | int (i:Int):iI K H (.int i) (.type "int")
 | str (x:Str):iI K H (.str x) (.type "str")
 | flt (x:UInt64):iI K H (.flt x) (.type "float")
 | lst {a:Addr}{xs:List V} (e:H a=some (.lst xs)):iI K H (.ref a) (.type "list")
 | frz {a:Addr}{o:Obj}{xs:List V} (e:H a=some (.frz o (.lst xs))):iI K H (.ref a) (.type "list")
 | tup {a:Addr}{xs:List V} (e:H a=some (.tup xs)):iI K H (.ref a) (.type "tuple")
 | dK {a:Addr}{kvs:List (Key×V)} (e:H a=some (.dK kvs)):iI K H (.ref a) (.type "dict")
 | dT {a:Addr}{kvs:List (List Key×V)} (e:H a=some (.dT kvs)):iI K H (.ref a) (.type "dict")
 | ins {a C dx:Addr}{fs:List (Str×V)} (e:H a=some (.ins C dx fs)) (cl:Cls K C) (ha:PySem.W.findIn K (.ref C) "__class__" = some (some (.builtin "object.__class__")))
   (hn:PySem.W.specialIn K (.builtin "object.__class__") "__get__" = some (some (.builtin "getset_descriptor.__get__"))) (htk:PySem.W.takesIn K (.builtin "object.__class__")=some true)
   (hm:PySem.W.mroIn K C (.type "object")=some true):iI K H (.ref a) (.ref C)
theorem rE{x:V}{u t:Value}(I:Inv X pins σ H s)(d:RelV x u)(ty:iI X.K H x t)(e:PySem.W.kitOne X.K t c=some b)(h:∀tk,Q (.bool b) {s with toks:=tk}):
  wpAny (model X.prog X.w) A (call (.builtin "isinstance") [u,c]) Q E s:=by
 cases ty with
 |non=>cases(show u=Value.none from d);exact PySem.W.kia_one PySem.W.kitx_none I.kIn True.intro e (λz=>nomatch z) h
 |bl y=>cases(show u=Value.bool y from d);exact PySem.W.kia_one PySem.W.kitx_bool I.kIn True.intro e (λz=>nomatch z) h
 |int i=>obtain⟨t,q⟩:=(show ∃t,u=Value.int i t from d);cases q;exact PySem.W.kia_one PySem.W.kitx_int I.kIn True.intro e (λz=>nomatch z) h
 |str y=>obtain⟨t,q⟩:=(show ∃t,u=Value.str y t from d);cases q;exact PySem.W.kia_one PySem.W.kitx_str I.kIn True.intro e (λz=>nomatch z) h
 |flt y=>obtain⟨t,q⟩:=(show ∃t,u=Value.float y t from d);cases q;exact PySem.W.kia_one PySem.W.kitx_float I.kIn True.intro e (λz=>nomatch z) h
 | @lst a f ea =>
  cases(show u=Value.ref a from d);obtain⟨_,_,n,_,h1⟩:=(show cW X.prog X.w H s.heap a (.lst f) from I.hok a _ ea);exact PySem.W.kia_one PySem.W.kitx_list I.kIn ⟨_,h1,rfl⟩ e (λz=>nomatch z) h
 | @frz a ob f ea =>
  cases(show u=Value.ref a from d);obtain⟨_,_,_,n,_,h1⟩:=(show cW X.prog X.w H s.heap a (.frz ob (.lst f)) from I.hok a _ ea);exact PySem.W.kia_one PySem.W.kitx_list I.kIn ⟨_,h1,rfl⟩ e (λz=>nomatch z) h
 | @tup a f ea =>
  cases(show u=Value.ref a from d);obtain⟨_,_,_,p⟩:=(show cW X.prog X.w H s.heap a (.tup f) from I.hok a _ ea);obtain⟨o,h1,h2,_⟩:=p;exact PySem.W.kia_one PySem.W.kitx_tuple I.kIn ⟨o,h1,h2⟩ e (λz=>nomatch z) h
 | @dK a kvs ea =>
  cases(show u=Value.ref a from d);obtain⟨_,_,k,_,p⟩:=(show cW X.prog X.w H s.heap a (.dK kvs) from I.hok a _ ea);obtain⟨o,g,j,h1,h2,_⟩:=p;exact PySem.W.kia_one PySem.W.kitx_dict I.kIn ⟨o,h1,h2.1⟩ e (λz=>nomatch z) h
 | @dT a kvs ea =>
  cases(show u=Value.ref a from d);obtain⟨_,_,f,_,o,g,j,h1,h2,_⟩:=(show cW X.prog X.w H s.heap a (.dT kvs) from I.hok a _ ea);exact PySem.W.kia_one PySem.W.kitx_dict I.kIn ⟨o,h1,h2.1⟩ e (λz=>nomatch z) h
 | @ins a C dx fs ea cl ha hn htk hm =>
  cases(show u=Value.ref a from d);obtain⟨m,O,_⟩:=uC I.hok ea;obtain⟨l,J,_⟩:=O.look;exact PySem.W.kia_one (PySem.W.kitx_own (cl.get _) cl.hd ha hn htk hm) I.kIn J e (λz=>nomatch z) h
end
structure bM(k:Nat)(A:Around):Prop where
 hd:A.handled=none
 dp:A.depth+3 * k+5<recursionLimit
 un:A.units+16 * k+200<cLine
theorem bM.mono{j k:Nat}{A:Around}(r:bM k A)(h:j<=k):bM j A:=⟨r.hd,by have:=r.dp;omega,by have:=r.un;omega⟩
theorem bM.deeper{k:Nat}{A:Around}(r:bM (k+1) A)(env:Env):bM k (A.deeper env):=
 ⟨r.hd,by have:=r.dp;show A.depth+1+3 * k+5<_;omega,by have:=r.un;show A.units+3+16 * k+200<_;omega⟩
theorem Rv{A:Around}{C:Addr}{us:List Value}{a:List (Str×Value)}:(A.under (.builtin "type.__call__" ⟨.ref C::us,a⟩)).depth=A.depth+1:=by
 first | rfl | simp[Around.under,Code.weight,Code.isCreation,Code.isGuard,Code.isCaller,Code.frames,Code.isFrame,guardIds]
theorem Rw{A:Around}{C:Addr}{us:List Value}{a:List (Str×Value)}:(A.under (.builtin "type.__call__" ⟨.ref C::us,a⟩)).units=A.units+1:=by
 first | rfl | simp[Around.under,Code.cUnits,Code.frames,Code.isFrame]
theorem bM.make{k:Nat}{A:Around}(r:bM (k+1) A)(C:Addr)(us:List Value)(a:List (Str×Value)):bM k (A.under (.builtin "type.__call__" ⟨.ref C::us,a⟩)):=
 ⟨r.hd,by have:=r.dp;rw[Rv];omega,by have:=r.un;rw[Rw];omega⟩
theorem bM.depth{k:Nat}{A:Around}(r:bM k A):A.depth<recursionLimit:=by have:=r.dp;omega
theorem bM.units{k:Nat}{A:Around}(r:bM k A):A.units+64<cLine:=by have:=r.un;omega
def rG:TA:=λ_ H Q=>Q [] H
def uD(c:TE)(b:TA):TA:=λσ H Q=>c σ H λx f=>b σ f λa d=>Q (x::a) d
section
variable {X:Cx}{e:Expr}{es:List Expr}{te:TE}{t:TA}{pos:Pos}
theorem iJ:PA X [] rG:=λ_ _ _ _ H Q I h=>Calls.spliced_nil ⟨[],H,I,.nil,h⟩
theorem gm(c:PE X e te)(b:PA X es t)(a:starEach (e::es) X.env=(false,eval e X.env)::starEach es X.env:=by rfl):PA X (e::es) (uD te t):=by
 intro pos pins s σ H Q I h;rw[a];show wpAny _ _ (spliced ((false,eval e X.env)::backTo pos (starEach es X.env))) _ _ s;refine Calls.spliced_cons (thn (c pins s σ H _ I h) λu s1 ⟨x,H1,I1,r1,q1⟩=>?_)
 exact thn (b pos pins s1 σ H1 _ I1 q1) λus s2 ⟨xs,H2,I2,r2,q2⟩=>⟨x::xs,H2,I2,.cons r1 r2,q2⟩
def Rx(t:TA):TE:=λσ H Q=>t σ H λa b=>a.length<=sizeLine/\∀p,b p=none->Q (.ref p) (upd b p (.tup a))
def Ry(t:TA):TE:=λσ H Q=>t σ H λa b=>a.length<=sizeLine/\∀p,b p=none->Q (.ref p) (upd b p (.lst a))
theorem Rz{x1}(h:PA X es t):PE X (.Tuple es x1 pos) (Rx t):=by
 intro pins s σ H Q I a;refine wpAny_Tuple_spliced (thn (h pos pins s σ H _ I a) λus s1 ⟨xs,H1,I1,r,z,q⟩=>⟨by rw[<-r.length];exact z,?_⟩);have c:H1 s1.heap.objs.size=none:=I1.hok.fresh (zc _);refine⟨.ref s1.heap.objs.size,upd H1 s1.heap.objs.size (.tup xs),I1.laid (t':=s1.toks) (λb u e=>zt _ e) (zc _) ?_,rfl,q _ c⟩;exact⟨z,us,r,⟨_,zF _ rfl,rfl,_,rfl⟩⟩
theorem RB(h:PA X es t):PE X (.List es pos) (Ry t):=by
 intro pins s σ H Q I a;refine wpAny_List_spliced (thn (h pos pins s σ H _ I a) λus s1 ⟨xs,H1,I1,r,z,q⟩=>⟨by rw[<-r.length];exact z,?_⟩);have c:H1 s1.heap.objs.size=none:=I1.hok.fresh (zc _);refine⟨.ref s1.heap.objs.size,upd H1 s1.heap.objs.size (.lst xs),I1.laid (t':=s1.toks) (λb u e=>zt _ e) (zc _) ?_,rfl,q _ c⟩;exact⟨z,us,0,r,zF _ rfl⟩
end
abbrev Sp:=List V->Hp->VK->XK->Prop
abbrev CXT:=List Env->Hp->Shared->XK->Value->Shared->Prop
structure lN(P:Program)(w:World)(K:PySem.W.Frag)(mg:Str->Option Value)(base:Heap)(A:Around)(outer:List Env)(s:Shared)(H:Hp):Prop where
 frames:A.frames=some outer
 mod:Mod K mg base
 bs:∀b o,base.get? b=some o->s.heap.get? b=some o/\H b=none
 bsz:base.objs.size<=s.heap.objs.size
 funs:s.heap.FunFrames base outer
 frf:∀b∈frs outer,H b=none
 hok:HOk P w H s.heap
 bare:AllBare s.gens
def CE(outer:List Env)(P:Program)(w:World)(H:Hp)(s:Shared)(Q:VK)(u:Value)(a:Shared):Prop :=
 ∃v b,a.os=s.os/\AllBare a.gens/\Un (frs outer) [] H b s.heap a.heap/\HOk P w b a.heap/\RelV v u/\Q v b
def CR(CX:CXT)(outer:List Env)(P:Program)(w:World)(H:Hp)(s:Shared)(Q:VK)(E:XK)(r:Result)(a:Shared):Prop :=
 match r with
 | .ok (.ret u)=>CE outer P w H s Q u a
 | .ok _=>False
 | .error e=>CX outer H s E e a
structure fc(P:Program)(w:World)(K:PySem.W.Frag)(mg:Str->Option Value)(base:Heap)(CX:CXT)(k:Nat)(f:Addr)(fd:FuncData)(ps:List Str)(sp:Sp):Prop where
 len:∀vs H Q E,sp vs H Q E->vs.length=ps.length
 run:∀(A:Around) (outer:List Env) (s:Shared) (H:Hp) (args:Args) (us:List Value) (vs:List V) (Q:VK) (E:XK),bM k A->lN P w K mg base A outer s H->BindsTo s fd args (ps.zip us)->aX vs us->sp vs H Q E ->
  codeAny (model P w) A (.call (.ref f) args) (CR CX outer P w H s Q E) s
theorem fc.imp{P:Program}{w:World}{K:PySem.W.Frag}{mg:Str->Option Value}{base:Heap}{CX:CXT}{k:Nat}{f:Addr}{fd:FuncData}{ps:List Str}{sp a:Sp}(F:fc P w K mg base CX k f fd ps sp)
  (h:∀vs H Q E,a vs H Q E->sp vs H Q E):fc P w K mg base CX k f fd ps a :=
 ⟨λvs H Q E q=>F.len vs H Q E (h _ _ _ _ q),λA outer s H args b vs Q E g i j c d=>F.run A outer s H args b vs Q E g i j c (h _ _ _ _ d)⟩
theorem lN.make{P:Program}{w:World}{K:PySem.W.Frag}{mg:Str->Option Value}{base:Heap}{A:Around}{outer:List Env}{s:Shared}{H:Hp}(e:lN P w K mg base A outer s H)(C:Addr)(us:List Value)(a:List (Str×Value)):
  lN P w K mg base (A.under (.builtin "type.__call__" ⟨.ref C::us,a⟩)) outer s H:=⟨by first | exact e.frames | (simpa [Around.under,Code.envs,Code.isFrame,pushEnvs] using e.frames),e.mod,e.bs,e.bsz,e.funs,e.frf,e.hok,e.bare⟩
section
variable {X:Cx}{pins:List (Addr×Obj)}{σ:St}{H:Hp}{s s':Shared}
theorem Inv.env0(I:Inv X pins σ H s):lN X.prog X.w X.K X.mg X.base X.A X.stack s H :=
 ⟨I.ok.frames,I.ok.mod,I.bs,zH I.ok.bsz I.sz,I.stack,I.stkFree,I.hok,I.bare⟩
theorem Inv.after{Q:VK}{u:Value}(I:Inv X pins σ H s)(h:CE X.stack X.prog X.w H s Q u s'):EP X pins σ Q u s':=by
 obtain⟨v,f,os,bare,un,hok,r,q⟩:=h;obtain⟨c,g,d,t,a⟩:=s';obtain rfl:a=s.os:=os;exact⟨v,f,I.call (h':=c) (g':=g) (d':=d) (t':=t) (ch:=[]) un hok bare (λb z=>absurd z (by simp)),r,q⟩
end
def xF(sp:Sp)(dvs:List V)(E:XK)(t:TA):TE:=λσ H Q=>t σ H λa b=>sp (a++dvs) b Q E
def xG(C:Addr)(m:Str)(sp:Sp)(dvs:List V)(E:XK)(d:TE)(t:TA):TE:=λσ H Q=>d σ H λx b=>∃a f fs,x=.ref a/\b a=some (.ins C f fs)/\fs.lookup m=none /\
 t σ b λc g=>sp (x::(c++dvs)) g Q E
def FT(C:Addr)(sp:Sp)(dvs:List V)(E:XK)(t:TA):TE:=λσ H Q=>t σ H λc b=>∀x a,b x=none->b a=none->a≠x ->
 sp (.ref x::(c++dvs)) (upd (upd b a (.own x)) x (.ins C a [])) (λv d=>v=.non/\Q (.ref x) d) E
def Binds(K:PySem.W.Frag)(fd:FuncData)(ps:List Str)(ds:List Value):Prop :=
 ∀(s:Shared) (a:List Value),K.In s.heap->(a++ds).length=ps.length->BindsTo s fd ⟨a,[]⟩ (ps.zip (a++ds))
theorem Binds.all{K:PySem.W.Frag}{fd:FuncData}{ps:List Str}(h:∀us:List Value,us.length=ps.length->bindArgs fd ⟨us,[]⟩=pure (ps.zip us)):Binds K fd ps []:=λs us _ a=>by
 rw[zT] at a ⊢;exact .of_eq (h us a)
def nA(CX:CXT)(X:Cx)(E:XK):Prop:=∀(pins:List (Addr×Obj)) (σ:St) (H:Hp) (s:Shared) (e:Value) (a:Shared),Inv X pins σ H s->CX X.stack H s E e a->X.xe e a
section
variable {X:Cx}{CX:CXT}{k:Nat}{f C:Addr}{fd:FuncData}{ps:List Str}{sp:Sp}{dvs:List V}{ds:List Value}{E:XK}{x m:Str}{p pos apos:Pos}{e o:Expr}{es:List Expr}{ta:TE}{t:TA}
theorem xH{pins:List (Addr×Obj)}{σ:St}{H:Hp}{s:Shared}{Q:VK}{us:List Value}{vs:List V}(F:fc X.prog X.w X.K X.mg X.base CX k f fd ps sp)(g:bM k X.A)(hb:Binds X.K fd ps ds)(hd:aX dvs ds)(d:nA CX X E)
  (I:Inv X pins σ H s) (r:aX vs us) (h:sp (vs++dvs) H Q E):wpAny (model X.prog X.w) X.A (call (.ref f) us) (EP X pins σ Q) X.xe s:=by
 have b:aX (vs++dvs) (us++ds):=r.append hd
 have i:(us++ds).length=ps.length:=by rw[<-b.length];exact F.len _ _ _ _ h
 refine wpAny_call (codeAny_mono (F.run X.A X.stack s H ⟨us,[]⟩ (us++ds) (vs++dvs) Q E g I.env0 (hb s us I.kIn i) b h) λr c a=>?_)
 cases r with
 |error e=>exact d pins σ H s e c I a
 |ok fl =>
  cases fl with
  |ret u=>exact I.after a
  |next=>exact False.elim a
  |brk=>exact False.elim a
  |cont=>exact False.elim a
theorem RC(F:fc X.prog X.w X.K X.mg X.base CX k f fd ps sp)(d:bM k X.A)(j:Gl X x)(g:X.mg x=some (.ref f))(i:PySem.W.keepIn X.K (.ref f)=true)(hb:Binds X.K fd ps ds)(hd:aX dvs ds)(c:nA CX X E)
  (n:PA X (e::es) t) (b:(x == ("__debug__":Str))=false:=by decide) (l:starEach (e::es) X.env=(false,eval e X.env)::starEach es X.env:=by rfl) (a:(backTo pos (starEach es X.env)).any (·.1)=false:=by rfl):
  PE X (.Call (.Name x p) (e::es) [] pos) (xF sp dvs E t):=by
 intro pins s σ H Q I h;refine wpAny_Call_Name_kw (xj I j g ?_ b);refine PySem.W.callWith_K (h₀:=X.base) I.ok.mod.kin i (thn (n pos pins s σ H _ I h) λus s1 ⟨vs,H1,I1,r,q⟩=>⟨I1.kIn,?_⟩) l a;exact xH F d hb hd c I1 r q
theorem RD{pl:Sem Bool}(y:PE X o ta)(c:Cls X.K C)(g:rz X.K C m f)(F:fc X.prog X.w X.K X.mg X.base CX k f fd ps sp)(n:bM k X.A)(hb:Binds X.K fd ps ds)(hd:aX dvs ds)(i:nA CX X E)(z:PA X (e::es) t)
  (b:starEach (e::es) X.env=(false,eval e X.env)::starEach es X.env:=by rfl) (d:(backTo pos (starEach es X.env)).any (·.1)=false:=by rfl)
  (j:eval (.Call (.Attribute o m apos) (e::es) [] pos) X.env=(do
   let ov <-eval o X.env
   standAt apos.atName
   let (f,first) <-holding [ov] (getMethod ov m pl)
   callWith pos f first (backTo pos (starEach (e::es) X.env)) (backToKw pos (keywordEach [] X.env))):=by rfl):
  PE X (.Call (.Attribute o m apos) (e::es) [] pos) (xG C m sp dvs E ta t):=by
 intro pins s σ H Q I h;refine PySem.W.methodCall_KW (pl:=pl) (thn (y pins s σ H _ I h) λu s1 ⟨x,H1,I1,rx,a,dx,fs,ex,ea,l,q⟩=>?_) j;subst ex;obtain rfl:u=Value.ref a:=rx;refine FQ I1 ea c g l ?_;refine PySem.W.callWith_K (first:=[.ref a]) (h₀:=X.base) I.ok.mod.kin g.kp (thn (z pos pins s1 σ H1 _ I1 q) λus s2 ⟨vs,H2,I2,r,q2⟩=>⟨I2.kIn,?_⟩) b d;exact xH (us:=.ref a::us) (vs:=.ref a::vs) F n hb hd i I2 (.cons rfl r) q2
theorem RG{pl:Sem Bool}(j:PE X o ta)(c:Cls X.K C)(b:rz X.K C m f)(F:fc X.prog X.w X.K X.mg X.base CX k f fd ps sp)(i:bM k X.A)(hb:Binds X.K fd ps ds)(hd:aX dvs ds)(d:nA CX X E)
  (g:eval (.Call (.Attribute o m apos) [] [] pos) X.env=(do
   let ov <-eval o X.env
   standAt apos.atName
   let (f,first) <-holding [ov] (getMethod ov m pl)
   callWith pos f first (backTo pos (starEach [] X.env)) (backToKw pos (keywordEach [] X.env))):=by rfl):
  PE X (.Call (.Attribute o m apos) [] [] pos) (xG C m sp dvs E ta rG):=by
 intro pins s σ H Q I h;refine PySem.W.methodCall_KW (pl:=pl) (thn (j pins s σ H _ I h) λu s1 ⟨x,H1,I1,rx,a,dx,fs,ex,ea,l,q⟩=>?_) g;subst ex;obtain rfl:u=Value.ref a:=rx;refine FQ I1 ea c b l ?_;exact PySem.W.callWith_K0 (first:=[.ref a]) I1.kIn b.kp (xH (us:=[.ref a]) (vs:=[.ref a]) F i hb hd d I1 (.cons rfl .nil) q)
structure Mk(K:PySem.W.Frag)(C f:Addr):Prop where
 makes:PySem.W.makesIn K C=true
 init:PySem.W.findIn K (.ref C) "__init__" = some (some (.ref f))
 fn:PySem.W.isFn K (.ref f)=true
 kp:PySem.W.keepIn K (.ref C)=true
theorem RJ{pins:List (Addr×Obj)}{σ:St}{H:Hp}{s:Shared}{Q:VK}{us:List Value}{vs:List V}(M:Mk X.K C f)(F:fc X.prog X.w X.K X.mg X.base CX k f fd ps sp)(y:bM (k+1) X.A)(hb:Binds X.K fd ps ds)(hd:aX dvs ds)
  (n:nA CX X E) (I:Inv X pins σ H s) (r:aX vs us)
  (h:∀x b,H x=none->H b=none->b≠x->sp (.ref x::(vs++dvs)) (upd (upd H b (.own x)) x (.ins C b [])) (λv J=>v=.non/\Q (.ref x) J) E):
  wpAny (model X.prog X.w) X.A (call (.ref C) us) (EP X pins σ Q) X.xe s:=by
 have g:=h (s.heap.objs.size+1) s.heap.objs.size (I.hok.fresh (Nat.le_succ _)) (I.hok.fresh (zc _)) (zB (ja _));have c:=Inv.made (C:=C) I;have d:aX (V.ref (s.heap.objs.size+1)::(vs++dvs)) (Value.ref (s.heap.objs.size+1)::(us++ds)):=.cons rfl (r.append hd)
 have z:(Value.ref (s.heap.objs.size+1)::us++ds).length=ps.length:=by
  have e:=d.length;rw[F.len _ _ _ _ g] at e;exact e.symm
 refine wpAny_call (Rj (f:=f) I.kIn M.makes M.init (beq_iff_eq.mp M.fn) (codeAny_mono (F.run _ X.stack _ _ ⟨Value.ref (s.heap.objs.size+1)::us,[]⟩ (Value.ref (s.heap.objs.size+1)::(us++ds)) _ _ E (y.make C us [])
  (c.env0.make C us []) (hb _ (Value.ref (s.heap.objs.size+1)::us) c.kIn z) d g) λr i a=>?_))
 cases r with
 |error e=>exact n pins σ _ _ e i c a
 |ok fl =>
  cases fl with
  |ret u =>
   obtain⟨v,L,G,j,B,l⟩:=c.after a;subst B;exact⟨j,⟨V.ref (s.heap.objs.size+1),L,G,rfl,l⟩⟩
  |next=>exact False.elim a
  |brk=>exact False.elim a
  |cont=>exact False.elim a
theorem RK(M:Mk X.K C f)(F:fc X.prog X.w X.K X.mg X.base CX k f fd ps sp)(d:bM (k+1) X.A)(i:Gl X x)(g:X.mg x=some (.ref C))(hb:Binds X.K fd ps ds)(hd:aX dvs ds)(c:nA CX X E)
  (l:PA X (e::es) t) (b:(x == ("__debug__":Str))=false:=by decide) (j:starEach (e::es) X.env=(false,eval e X.env)::starEach es X.env:=by rfl) (a:(backTo pos (starEach es X.env)).any (·.1)=false:=by rfl):
  PE X (.Call (.Name x p) (e::es) [] pos) (FT C sp dvs E t):=by
 intro pins s σ H Q I h;refine wpAny_Call_Name_kw (xj I i g ?_ b);refine PySem.W.callWith_K (h₀:=X.base) I.ok.mod.kin M.kp (thn (l pos pins s σ H _ I h) λus s1 ⟨vs,H1,I1,r,q⟩=>⟨I1.kIn,?_⟩) j a;exact RJ M F d hb hd c I1 r q
end
section
variable {X:Cx}{CX:CXT}{k:Nat}{f C:Addr}{fd:FuncData}{ps ks:List Str}{sp:Sp}{E:XK}{x m:Str}{p pos apos kpos:Pos}{e o:Expr}{es:List Expr}{kws:List Keyword}{te ta:TE}{t tk:TA}{nm:Option Str}
structure Qzl(K:PySem.W.Frag)(fd:FuncData)(ps ks:List Str)(g:List Value->List Value->List Value)(gV:List V->List V->List V):Prop where
 to:∀(s:Shared) (us ws:List Value),K.In s.heap->(g us ws).length=ps.length->BindsTo s fd ⟨us,ks.zip ws⟩ (ps.zip (g us ws))
 rel:∀{vs:List V}{us:List Value}{zs:List V}{ws:List Value},aX vs us->aX zs ws->aX (gV vs zs) (g us ws)
variable {g:List Value->List Value->List Value}{gV:List V->List V->List V}
end
structure cg(N P:List Str)(sc:Scope):Prop where
 kind:sc.kind=.function
 co:sc.isCoroutine=false
 gen:sc.isGenerator=false
 nd:N.Nodup
 pre:N.take P.length=P
 par:∀x∈P,sc.names.lookup x=some .local\/sc.names.lookup x=some .cell
 nofree:∀y∈sc.names,y.2≠.free
theorem FZ{kindOf:Str->Option NameKind}{x:Str}:∀{binds:List (Str×Value)}{m:Str->Option Value},(∀v,(x,v)∉binds)->bindL kindOf binds m x=m x
 | [],_,_=>rfl
 | (n,v)::r,m,h=>by
  unfold bindL;rw[FZ λw hw=>h w (zv _ hw)]
  split
  ·have:x≠n:=by rintro rfl;exact h v zo
   simp[this]
  ·rfl
theorem Ga{kindOf:Str->Option NameKind}{x:Str}:∀{binds:List (Str×Value)}{m:Str->Option Value},(∀v,(x,v)∉binds)->bindC kindOf binds m x=m x
 | [],_,_=>rfl
 | (n,v)::r,m,h=>by
  unfold bindC;rw[Ga λw hw=>h w (zv _ hw)]
  split
  ·rfl
  ·have:x≠n:=by rintro rfl;exact h v zo
   simp[this]
theorem Gb{kindOf:Str->Option NameKind}{x:Str}{v:Value}:∀{P:List Str}{vs:List Value}{i:Nat}{m:Str->Option Value},P.Nodup->P[i]?=some x->vs[i]?=some v->kindOf x=some .local ->
  bindL kindOf (P.zip vs) m x=some v
 | [],_,_,_,_,h,_,_=>by simp at h
 | _::_,[],_,_,_,_,h,_=>by simp at h
 |p::P,w::vs,0,m,nd,h1,h2,hk=>by
  simp at h1 h2;subst h1;subst h2
  show bindL kindOf ((p,w)::P.zip vs) m p=_;unfold bindL;rw[FZ λv a=>(List.nodup_cons.mp nd).1 (List.of_mem_zip a).1,if_pos hk];simp
 |p::P,w::vs,i+1,m,nd,h1,h2,hk=>by
  show bindL kindOf ((p,w)::P.zip vs) m x=_;unfold bindL;exact Gb (i:=i) (List.nodup_cons.mp nd).2 (by simpa using h1) (by simpa using h2) hk
theorem Gd{kindOf:Str->Option NameKind}{x:Str}{v:Value}:∀{P:List Str}{vs:List Value}{i:Nat}{m:Str->Option Value},P.Nodup->P[i]?=some x->vs[i]?=some v->kindOf x≠some .local ->
  bindC kindOf (P.zip vs) m x=some v
 | [],_,_,_,_,h,_,_=>by simp at h
 | _::_,[],_,_,_,_,h,_=>by simp at h
 |p::P,w::vs,0,m,nd,h1,h2,hk=>by
  simp at h1 h2;subst h1;subst h2
  show bindC kindOf ((p,w)::P.zip vs) m p=_;unfold bindC;rw[Ga λv a=>(List.nodup_cons.mp nd).1 (List.of_mem_zip a).1,if_neg hk];simp
 |p::P,w::vs,i+1,m,nd,h1,h2,hk=>by
  show bindC kindOf ((p,w)::P.zip vs) m x=_;unfold bindC;exact Gd (i:=i) (List.nodup_cons.mp nd).2 (by simpa using h1) (by simpa using h2) hk
def start(N:List Str)(vs:List V):St:=vs.map some++List.replicate (N.length - vs.length) none
def iZ(CX:CXT)(P:Program)(w:World)(K:PySem.W.Frag)(mg:Str->Option Value)(base:Heap)(N:List Str)(qual:Str)(scope:Scope)(f:Addr)(cd:Value)(A:Around)(outer:List Env)(s:Shared)(H:Hp)(E:XK):Cx where
 prog:=P
 w:=w
 K:=K
 mg:=mg
 base:=base
 A:=A.deeper (envOfC qual scope s.heap.objs.size f cd)
 N:=N
 s₀:=s
 H₀:=H
 env:=envOfC qual scope s.heap.objs.size f cd
 outer:=outer
 stack:=envOfC qual scope s.heap.objs.size f cd::outer
 ex:=[]
 calm:=true
 fn:=λ_=>true
 pn:=[]
 xe:=λe s'=>wpAny (model P w) (A.deeper (envOfC qual scope s.heap.objs.size f cd)) (leaving (envOfC qual scope s.heap.objs.size f cd) e) (λ_ s''=>CX outer H s E e s'') (λe' s''=>CX outer H s E e' s'') s'
theorem Ge{a:Scope}{n:Nat}{x:Str}(h:a.names.lookup x=some .cell):∃c,(cellsFrom n a.names []).lookup x=some c:=by
 have q:=PySem.W.cellsFrom_some a.names n [] (.inl h);exact Option.isSome_iff_exists.mp q
theorem RL{CX:CXT}{P:Program}{w:World}{K:PySem.W.Frag}{mg:Str->Option Value}{base:Heap}{N ps:List Str}{qual:Str}{scope:Scope}{f:Addr}{B:Value}{A:Around}{outer:List Env}{s F:Shared}{H:Hp}{E:XK}{us:List Value}{vs:List V}
  (S:cg N ps scope) (hd:A.handled=none) (d:lN P w K mg base A outer s H) (Q:vs.length=ps.length) (r:aX vs us)
  (x:InCallC s s.heap.objs.size (bindL (envOfC qual scope s.heap.objs.size f B).kindOf (ps.zip us) λ_=>none) (cellsFrom (s.heap.objs.size+1) scope.names []) (bindC (envOfC qual scope s.heap.objs.size f B).kindOf (ps.zip us) λ_=>none) F):
  Inv (iZ CX P w K mg base N qual scope f B A outer s H E) [] (start N vs) H F:=by
 have O:ps.length<=N.length:=by have:=congrArg List.length S.pre;rw[List.length_take] at this;omega
 obtain⟨h1,tk,rfl,I⟩:=x.done
 have j:∀b:Addr,b∉(iZ CX P w K mg base N qual scope f B A outer s H E).ex:=λb z=>absurd (show b∈([]:List Addr) from z) (by simp)
 refine⟨⟨d.mod,S.kind,rfl,rfl,zc _,λy z c h1 h2=>?_,λy g=>?_,λy c _ h=>?_,λ_=>hd,Around.frames_deeper d.frames,.inr ⟨rfl,rfl⟩,λb z=>absurd z (j b),d.bs,d.bsz,λb _ _=>j b,λb z=>absurd z (j b),d.funs,d.frf⟩,
  rfl,d.bare,Un.kept I,⟨_,x.toInCall.ns,λi y v h1 h2 h3=>?_⟩,λy c h=>⟨_,x.cell y c h⟩,d.hok.fresh (zc _),λy c h=>?_,λp l=>absurd (show p∈([]:List (Addr×Obj)) from l) (by simp),d.hok.kept I,?_⟩
 ·exact name_of_addr x.apart (PySem.mem_of_lookup h1) (PySem.mem_of_lookup h2)
 ·have g:scope.names.lookup y=some .cell\/scope.names.lookup y=some .free:=g
  rcases g with g | g
  ·exact Ge g
  ·exact absurd rfl (S.nofree _ (PySem.mem_of_lookup g))
 ·exact Nat.le_of_lt (x.above y c (PySem.mem_of_lookup h))
 ·have hi:i<vs.length:=by
   unfold start at h2
   by_cases hi:i<vs.length
   ·exact hi
   ·rw[zE (by simpa using hi)] at h2;rw[List.getElem?_replicate] at h2
    split at h2<;>cases h2
  have L:vs[i]?=some v:=by
   unfold start at h2;rw[zx (by simpa using hi),zq] at h2
   cases e:vs[i]? with
   |none=>rw[e] at h2;cases h2
   |some a=>rw[e] at h2;cases h2;rfl
  obtain⟨u,G,J⟩:=r.get L
  have l:ps[i]?=some y:=by
   rw[<-S.pre,List.getElem?_take_of_lt (by omega)];exact h1
  have m:ps.Nodup:=by rw[<-S.pre];exact S.nd.sublist (List.take_sublist _ _)
  refine⟨u,J,?_⟩
  rcases S.par y (zD l) with k | k
  ·exact .inl ⟨k,Gb m l G k⟩
  ·obtain⟨c,e⟩:=Ge (n:=s.heap.objs.size+1) k;refine .inr ⟨.inl k,c,e,?_⟩;have q:=x.cell y c e;rw[Gd m l G (by show scope.names.lookup y≠_;rw[k];decide)] at q;exact q
 ·exact d.hok.fresh (Nat.le_of_lt (x.above y c (PySem.mem_of_lookup h)))
 ·unfold start;show _=N.length;rw[zh,zd,List.length_replicate];omega
theorem RM{CX:CXT}{P:Program}{w:World}{K:PySem.W.Frag}{mg:Str->Option Value}{base:Heap}{k:Nat}{f:Addr}{name qual:Str}{params:Arguments}{body:List Stmt}{scope:Scope}{U kV z pm a ct oc:Value}{X od:Option Addr}
  {L:Array (Option Value)}{N ps:List Str}{sp:Sp} (lk:K.lookup f=some ⟨oc,od,.func (PySem.W.fnOf name qual params body scope U kV z pm X a ct),L⟩) (R:PySem.W.codeIn K a qual=true) (S:cg N ps scope)
  (len:∀vs H Q E,sp vs H Q E->vs.length=ps.length)
  (h:∀(A:Around) (outer:List Env) (s:Shared) (H:Hp) (vs:List V) (Q:VK) (E:XK),bM k (A.deeper (envOfC qual scope s.heap.objs.size f a))->sp vs H Q E ->
   ∃t,PSs (iZ CX P w K mg base N qual scope f a A outer s H E) body t/\t {nx:=λ_ d=>Q .non d,rt:=Q} (start N vs) H):
  fc P w K mg base CX (k+1) f (PySem.W.fnOf name qual params body scope U kV z pm X a ct) ps sp:=by
 refine⟨len,λA outer s H args Z vs Q E G j hb r l=>?_⟩;have hl:=len _ _ _ _ l
 have Y:K.In s.heap:=j.mod.kin.keeps λb o e=>(j.bs b o e).1
 have O:s.heap.NoLimit:=j.mod.nolimit.keeps λb o e=>(j.bs b o e).1
 have g:∀y∈ps.zip Z,scope.names.lookup y.1=some .local\/(scope.names.lookup y.1=some .cell/\((cellsFrom (s.heap.objs.size+1) scope.names []).lookup y.1).isSome=true):=λ⟨n,v⟩ hy=>by
  rcases S.par n (List.of_mem_zip hy).1 with q | q
  ·exact .inl q
  ·exact .inr ⟨q,PySem.W.cellsFrom_some _ _ _ (.inl q)⟩
 refine codeAny_call_function G.depth (Y _ _ lk) rfl S.co S.gen rfl (PySem.W.codeRec_of Y R) (hb _ _ _ _ ?_)
 refine wpAny_newFunctionEnv_cells S.kind g λenv he T x=>?_
 subst he;refine⟨O.keeps x.toInCall.keep,codeAny_func ?_⟩;obtain⟨t,ht,hq⟩:=h A outer s H vs Q E (G.deeper _) l;have I:Inv (iZ CX P w K mg base N qual scope f a A outer s H E) [] (start N vs) H T:=RL S G.hd j hl r x
 refine zS (ht [] T (start N vs) H _ I hq) (λfl B i=>?_) λe B i=>i
 have m:∀{c:St}{d:Hp}{v:V}{u:Value},Inv (iZ CX P w K mg base N qual scope f a A outer s H E) [] c d B->RelV v u->Q v d->CE outer P w H s Q u B :=
  λ{c d v u} J F q=>⟨v,d,J.os,J.bare,J.base,J.hok,F,q⟩
 cases fl with
 |ret u =>
  obtain⟨v,c,d,J,F,q⟩:=i;exact m J F q
 |next =>
  obtain⟨c,d,J,q⟩:=i;exact m (v:=V.non) (u:=Value.none) J rfl q
 |brk =>
  obtain⟨_,_,_,q⟩:=i;exact False.elim q
 |cont =>
  obtain⟨_,_,_,q⟩:=i;exact False.elim q
section
variable {X:Cx}{x:Str}{p pos:Pos}{e:Expr}{es:List Expr}{t:TA}{id T:String}{r:List V->Hp->VK->Prop}
def tCB(r:List V->Hp->VK->Prop)(t:TA):TE:=λσ H Q=>t σ H λa b=>r a b Q
theorem uE(i:iH X (.builtin id) r)(f:Gl X x)(d:X.mg x=none)(hv:bootBuiltins x=some (.builtin id))(j:PA X (e::es) t)(c:x≠"__name__":=by decide)(b:(x == ("__debug__":Str))=false:=by decide)
  (g:starEach (e::es) X.env=(false,eval e X.env)::starEach es X.env:=by rfl) (a:(backTo pos (starEach es X.env)).any (·.1)=false:=by rfl):PE X (.Call (.Name x p) (e::es) [] pos) (tCB r t):=by
 intro pins s σ H Q I h;refine wpAny_Call_Name_kw (iY I f d hv ?_ c b);exact PyProof.Rows.callWith_builtin1 (thn (j pos pins s σ H _ I h) λus s1 ⟨vs,H1,I1,r1,q1⟩=>i pins s1 σ H1 vs us Q I1 r1 q1) g a
theorem RN(i:iH X (.type T) r)(f:Gl X x)(d:X.mg x=none)(hv:bootBuiltins x=some (.type T))(j:PA X (e::es) t)(c:x≠"__name__":=by decide)(b:(x == ("__debug__":Str))=false:=by decide)
  (g:starEach (e::es) X.env=(false,eval e X.env)::starEach es X.env:=by rfl) (a:(backTo pos (starEach es X.env)).any (·.1)=false:=by rfl):PE X (.Call (.Name x p) (e::es) [] pos) (tCB r t):=by
 intro pins s σ H Q I h;refine wpAny_Call_Name_kw (iY I f d hv ?_ c b);exact PyProof.Rows.callWith_type1 (thn (j pos pins s σ H _ I h) λus s1 ⟨vs,H1,I1,r1,q1⟩=>i pins s1 σ H1 vs us Q I1 r1 q1) g a
end
end L2
namespace HT
open PySem PyProof.Rows
section
open PySem.SeqAt
open PySem.AutoSeq1 (wpAny_loadPart')
open PySem.MeetsSeq PySem.MeetsSeq2 PySem.MeetsSeq3
end
section
variable {prog:Program}{w:World}{A:Around}{E:Value->Shared->Prop}{s:Shared}
theorem cat_tup{t b:Addr}{vs a:List Value}{Q:Value->Shared->Prop}(u:IsTup s.heap t vs.toArray)(hb:IsTup s.heap b a.toArray)(hv:vs≠[])
  (h1:a=[]->Q (.ref t) s) (h2:a≠[]->Q (.ref s.heap.objs.size) {s with heap:=s.heap.push {cls:=.type "tuple",data:=.seq (vs++a).toArray}})
  (hsz:vs.length+a.length<=sizeLine):wpAny (model prog w) A (binaryOp .Add (.ref t) (.ref b)) Q E s:=by
 obtain⟨⟨cls,l,data,sl⟩,i,k,n,hd⟩:=id u;obtain⟨⟨m,h,data2,d⟩,c,g,j,f⟩:=id hb;simp only at k hd g f;subst k hd g f
 have e:vs.toArray++a.toArray=(vs++a).toArray:=by simp
 by_cases hw:a=[]
 ·exact concat_meets ⟨_,i,rfl⟩ ⟨_,c,rfl⟩ noFill_tuple_add seq_tuple_add PySem.F.slot_tuple_add PySem.F.entry_tuple_add (PySem.F.args_tuple_add_2 _ _)
   (tuple_addW1 t b vs.toArray a.toArray n j l h sl d (by simpa using hv) (by simp[hw])) ⟨i,c,h1 hw⟩
 ·refine concat_meets ⟨_,i,rfl⟩ ⟨_,c,rfl⟩ noFill_tuple_add seq_tuple_add PySem.F.slot_tuple_add PySem.F.entry_tuple_add (PySem.F.args_tuple_add_2 _ _)
   (tuple_addW2 t b vs.toArray a.toArray n j l h sl d (by simpa using hv) (by simpa using hw) (by rw[zr,zr];exact hsz)) ⟨i,c,?_⟩
  rw[e];exact h2 hw
def sIx(n d:Nat):Option Int->Nat
 |none=>d
 |some v=>if v<0 then(v+(n:Int)).toNat else min v.toNat n
theorem sIx_none(n d:Nat):sIx n d none=d:=rfl
theorem sIx_nat(n d k:Nat):sIx n d (some (k:Int))=min k n:=by
 show(if(k:Int)<0 then((k:Int)+(n:Int)).toNat else min (k:Int).toNat n)=min k n;rw[if_neg (by omega),Int.toNat_natCast]
theorem sIx_le(n d:Nat)(hd:d<=n)(o:Option Int):sIx n d o<=n:=by
 cases o with
 |none=>exact hd
 |some v =>
  show(if v<0 then(v+(n:Int)).toNat else min v.toNat n)<=n
  by_cases a:v<0
  ·rw[if_pos a];omega
  ·rw[if_neg a];exact Nat.min_le_right _ _
theorem Gf(v:Int)(n d:Nat):(if v<0 then max (v+(n:Int)) 0 else min v (n:Int))=((sIx n d (some v):Nat):Int):=by
 show(if v<0 then max (v+(n:Int)) 0 else min v (n:Int))=(((if v<0 then(v+(n:Int)).toNat else min v.toNat n):Nat):Int)
 by_cases a:v<0
 ·simp only[if_pos a];omega
 ·simp only[if_neg a];omega
theorem RP(lo hi:Option Int)(n:Nat):Builtin.Slice.sliceAdjust lo hi 1 (n:Int)=(((sIx n 0 lo:Nat):Int),((sIx n n hi:Nat):Int)):=by
 have h1:¬((1:Int)<0):=by omega
 unfold Builtin.Slice.sliceAdjust;simp only[h1,if_false];refine Prod.ext ?_ ?_
 ·cases lo with
  |none=>rfl
  |some v=>exact Gf v n 0
 ·cases hi with
  |none=>rfl
  |some v=>exact Gf v n n
theorem RQ(i j:Nat):Builtin.Slice.slicePlaces (i:Int) (j:Int) 1=j - i:=by
 unfold Builtin.Slice.slicePlaces
 have h1:(1:Int)>0:=by omega
 simp only[h1,if_true,Int.ediv_one]
 split<;>omega
theorem Gg{v:Value}{o:Option Int}{Q:Option Int->Shared->Prop}(p:IsPart v o)(h:Q o s):wpAny (model prog w) A (Builtin.Slice.slicePartIndex v) Q E s:=by
 cases p with
 |none=>exact slicePart_none h
 |int i t=>exact slicePart_int h
theorem sliceApplied_gen{sl:Addr}{vl c:Value}{lo hi:Option Int}{n:Nat}{Q:Int×Int×Nat->Shared->Prop}(d:s.heap.IsSliceOf sl vl c .none)(pl:IsPart vl lo)(pu:IsPart c hi)
  (h:Q (((sIx n 0 lo:Nat):Int),1,sIx n n hi - sIx n 0 lo) s):wpAny (model prog w) A (Builtin.Slice.sliceApplied (.ref sl) (pure (n:Int))) Q E s:=by
 obtain⟨os,a,f,b⟩:=id d;unfold Builtin.Slice.sliceApplied Builtin.Slice.sliceFields;refine za (za (wpAny_field a b (x:=vl) rfl (za (wpAny_field a b (x:=c) rfl (za (wpAny_field a b (x:=.none) rfl (zb ?_)))))));refine za (slicePart_none ?_);show wpAny _ _ (if((1:Int) == 0)=true then _ else _) _ _ s;rw[if_neg (by decide)];refine za (Gg pl (za (Gg pu (za (zb ?_)))));show wpAny _ _ (match Builtin.Slice.sliceAdjust lo hi 1 (n:Int) with | (lo,hi)=>pure (lo,(1:Int),Builtin.Slice.slicePlaces lo hi 1)) _ _ s;rw[RP lo hi n];show wpAny _ _ (pure (((sIx n 0 lo:Nat):Int),(1:Int),Builtin.Slice.slicePlaces ((sIx n 0 lo:Nat):Int) ((sIx n n hi:Nat):Int) 1)) _ _ s
 rw[RQ];exact zb h
theorem RT(xs:Array Value)(i k:Nat):((List.range k).filterMap λ(m:Nat)=>xs[((i:Int)+(m:Int) * 1).toNat]?).toArray=((xs.toList.drop i).take k).toArray:=by
 have e:(λ(m:Nat)=>xs[((i:Int)+(m:Int) * 1).toNat]?)=λm=>xs[i+m]?:=by
  funext m
  have:((i:Int)+(m:Int) * 1).toNat=i+m:=by omega
  rw[this]
 rw[e]
 have:=pick_run xs i k
 rw[List.filterMap_map] at this
 have a:((λx=>xs[x]?) ∘ λx=>i+x)=λm=>xs[i+m]?:=rfl
 rw[a] at this;rw[this]
theorem getItem_tuple_cut{t sl:Addr}{items:Array Value}{vl i:Value}{lo hi:Option Int}{Q:Value->Shared->Prop}(b:IsTup s.heap t items)(j:s.heap.IsSliceOf sl vl i .none)(pl:IsPart vl lo)(pu:IsPart i hi)
  (hw:¬(sIx items.size 0 lo=0/\sIx items.size items.size hi=items.size))
  (h:Q (.ref s.heap.objs.size) {s with heap:=s.heap.push {cls:=.type "tuple",data:=.seq ((items.toList.drop (sIx items.size 0 lo)).take (sIx items.size items.size hi - sIx items.size 0 lo)).toArray}})
  (hsz:items.size<=sizeLine):wpAny (model prog w) A (getItem (.ref t) (.ref sl)) Q E s:=by
 have a:sizeOk (.seq ((items.toList.drop (sIx items.size 0 lo)).take (sIx items.size items.size hi - sIx items.size 0 lo)).toArray):=by
  show((items.toList.drop (sIx items.size 0 lo)).take (sIx items.size items.size hi - sIx items.size 0 lo)).toArray.size<=sizeLine;rw[zr,List.length_take,List.length_drop,Array.length_toList];omega
 have u:sIx items.size items.size hi<=items.size:=sIx_le _ _ (zc _) hi;obtain⟨os,c,f,k⟩:=id j;have g:s.TypeIs (.ref sl) "slice":=⟨os,c,f⟩;unfold getItem
 try with_reducible refine zO ?_
 first | refine za (zb ?_) | skip
 refine za (wpAny_sequenceKey b.typeIs (by decide) ?_)
 refine za (wpAny_callSpecial?_slot (name:=Str.ofString "__getitem__") b.typeIs PyProof.Rows.slot_tuple_getitem
  (wpAny_call_entry PyProof.Rows.slot_tuple_getitem b.typeIs entry_tuple_getitem ?_ (args_tuple_getitem _ _)))
 show wpAny _ _ (Builtin.Tuple.tupleItemsOf (.ref t) >>= _) _ _ s;refine za (tupleItemsOf_ b ?_);refine za (wpAny_typeOf g ?_);rw[if_pos (by decide)];refine za (sliceApplied_gen j pl pu ?_)
 have d:¬((((sIx items.size 0 lo:Nat):Int) == 0&&(1:Int) == 1&&(sIx items.size items.size hi - sIx items.size 0 lo) == items.size)=true):=by
  intro q;rw[zu,zu] at q;have n:((sIx items.size 0 lo:Nat):Int)=0:=eq_of_beq q.1.1;have l:sIx items.size items.size hi - sIx items.size 0 lo=items.size:=eq_of_beq q.2;exact hw ⟨by omega,by omega⟩
 show wpAny _ _ (if(((sIx items.size 0 lo:Nat):Int) == 0&&(1:Int) == 1&&(sIx items.size items.size hi - sIx items.size 0 lo) == items.size)=true then _ else _) _ _ s;rw[if_neg d,RT]
 first
  | exact za (m:=Builtin.Tuple.tupleExact _) (wpAny_newObj_type (zb ⟨_,rfl,zb h⟩) a)
  | exact za (m:=Builtin.Tuple.tupleExact _) (wpAny_newObj_type (za (zb (zb ⟨_,rfl,zb h⟩))) a)
  | exact za (za (m:=Builtin.Tuple.tupleExact _) (wpAny_newObj_type (zb (zb ⟨_,rfl,zb h⟩)) a))
  | exact za (za (m:=Builtin.Tuple.tupleExact _) (wpAny_newObj_type (zb ⟨_,rfl,zb h⟩) a))
end
end HT
namespace L2
open PySem PySem.Spec PyProof.Rows
abbrev TO:=St->Hp->(Option Int->Hp->Prop)->Prop
def PO(X:Cx)(e:Option Expr)(t:TO):Prop :=
 ∀(pins:List (Addr×Obj)) (s:Shared) (σ:St) (H:Hp) (Q:Option Int->Hp->Prop),Inv X pins σ H s->t σ H Q ->
  wpAny (model X.prog X.w) X.A (evalPart e X.env) (λu b=>∃o a,Inv X pins σ a b/\IsPart u o/\Q o a) X.xe s
def RV:TO:=λ_ H Q=>Q none H
def RW(t:TE):TO:=λσ H Q=>t σ H λx a=>∃i,x=.int i/\Q (some i) a
section
variable {X:Cx}{e:Expr}{te:TE}{lo hi:Option Expr}{tl th:TO}{pos p2:Pos}
theorem RX:PO X none RV:=by
 intro pins s σ H Q I h;rw[evalPart_none];exact zb ⟨none,H,I,.none,h⟩
theorem RZ(h:PE X e te):PO X (some e) (RW te):=by
 intro pins s σ H Q I hw;rw[evalPart_some]
 refine thn (h pins s σ H _ I hw) λu s1 ⟨x,H1,I1,r1,q1⟩=>?_
 obtain⟨i,rfl,q⟩:=q1;obtain⟨t,rfl⟩:=r1;exact⟨some i,H1,I1,.int i t,q⟩
def SlR(X:Cx)(r:V->Option Int->Option Int->Hp->VK->Prop):Prop :=
 ∀(pins:List (Addr×Obj)) (s:Shared) (σ:St) (H:Hp) (x:V) (v vl a:Value) (lo hi:Option Int) (sl:Addr) (Q:VK),Inv X pins σ H s->RelV x v->s.heap.IsSliceOf sl vl a .none->IsPart vl lo->IsPart a hi->r x lo hi H Q ->
  ∃T b,typeLookup (.type T) "__getitem__" = pure (some (.builtin b))/\s.TypeIs v T/\wpAny (model X.prog X.w) X.A (getItem v (.ref sl)) (EP X pins σ Q) X.xe s
def tSl(r:V->Option Int->Option Int->Hp->VK->Prop)(te:TE)(tl th:TO):TE:=λσ H Q=>te σ H λx c=>tl σ c λl b=>th σ b λu a=>r x l u a Q
theorem R0{r:V->Option Int->Option Int->Hp->VK->Prop}(d:SlR X r)(i:PE X e te)(f:PO X lo tl)(a:PO X hi th):PE X (.Subscript e (.Slice lo hi none p2) pos) (tSl r te tl th):=by
 intro pins s σ H Q I h;refine Subscript_ (thn (i pins s σ H _ I h) λv s1 ⟨x,H1,I1,r1,q1⟩=>?_);refine wpAny_Slice (thn (f pins s1 σ H1 _ I1 q1) λvl s2 ⟨l,H2,I2,pl,q2⟩=>thn (a pins s2 σ H2 _ I2 q2) λvu s3 ⟨u,H3,I3,pu,q3⟩=>?_);rw[evalPart_none];refine zb ?_
 have j:Inv X pins σ H3 {s3 with heap:=s3.heap.push {cls:=.type "slice",data:=.fields #[vl,vu,.none]}}:=I3.kept (t':=s3.toks) λb ob q=>zt _ q
 obtain⟨T,k,hT,c,g⟩:=d pins {s3 with heap:=s3.heap.push {cls:=.type "slice",data:=.fields #[vl,vu,.none]}} σ H3 x v vl vu l u s3.heap.objs.size Q j r1 (Heap.IsSliceOf.new ..) pl pu q3;show wpAny (model X.prog X.w) X.A (subscriptTail e (.Slice lo hi none p2) v (.ref s3.heap.objs.size)) (EP X pins σ Q) X.xe {s3 with heap:=s3.heap.push {cls:=.type "slice",data:=.fields #[vl,vu,.none]}};exact tail_any (ops:=[.ref s3.heap.objs.size,v]) c hT g (by with_unfolding_all rfl)
def j0(xs:List V)(lo hi:Option Int):List V:=(xs.drop (HT.sIx xs.length 0 lo)).take (HT.sIx xs.length xs.length hi - HT.sIx xs.length 0 lo)
theorem Gh(xs:List V)(lo hi:Option Int):(j0 xs lo hi).length<=xs.length:=by
 unfold j0;rw[List.length_take,List.length_drop];omega
def R1(K:PySem.W.Frag):V->Option Int->Option Int->Hp->VK->Prop:=λx lo hi H Q=>∃a b,x=.ref a/\SqT K H a b /\
 ¬(HT.sIx b.length 0 lo=0/\HT.sIx b.length b.length hi=b.length)/\∀p,H p=none->Q (.ref p) (upd H p (.tup (j0 b lo hi)))
theorem R3:SlR X (R1 X.K):=by
 intro pins s σ H x v vl m lo hi sl Q I i l j pu h;obtain⟨a,c,rfl,k,hw,q⟩:=h;cases i;obtain⟨d,r,g,f⟩:=I.tuple k
 have hlen:d.toArray.size=c.length:=by rw[zr];exact r.length.symm
 refine⟨"tuple",_,PyProof.Rows.slot_tuple_getitem.lookup,g.typeIs,?_⟩;refine HT.getItem_tuple_cut g l j pu (by rw[hlen];exact hw) ?_ (by rw[hlen];exact f);rw[hlen];refine⟨.ref s.heap.objs.size,_,I.laid (t':=s.toks) (o:=.tup (j0 c lo hi)) (λb ob q=>zt _ q) (zc _) ?_,rfl,q _ (I.hok.fresh (zc _))⟩;exact⟨zH (Gh c lo hi) f,_,(r.drop (HT.sIx c.length 0 lo)).take (HT.sIx c.length c.length hi - HT.sIx c.length 0 lo),IsTup.new _ _⟩
def R4(K:PySem.W.Frag):R2:=λx y H Q=>∃a b d c,x=.ref a/\y=.ref b/\SqT K H a d/\SqT K H b c/\d≠[]/\d.length+c.length<=sizeLine /\
 (c=[]->Q (.ref a) H)/\(c≠[]->∀p,H p=none->Q (.ref p) (upd H p (.tup (d++c))))
theorem aX.nil_iff{xs:List V}{us:List Value}(r:aX xs us):us=[]↔xs=[]:=by
 cases r with
 |nil=>simp
 |cons _ _=>simp
theorem R5:OpR X (binaryOp .Add) (R4 X.K):=by
 intro pins s σ H x y v u Q I l k h;obtain⟨a,b,j,i,rfl,rfl,G,F,E,f,n,m⟩:=h;cases l;cases k;obtain⟨J,d,B,_⟩:=I.tuple G;obtain⟨g,c,p2,_⟩:=I.tuple F;refine HT.cat_tup B p2 (λz=>E (d.nil_iff.mp z)) (λz=>⟨.ref a,H,I,rfl,n (c.nil_iff.mp z)⟩) (λz=>?_) (by rw[<-d.length,<-c.length];exact f);refine⟨.ref s.heap.objs.size,_,I.laid (t':=s.toks) (o:=.tup (j++i)) (λb ob q=>zt _ q) (zc _) ?_,rfl,m (λw=>z (c.nil_iff.mpr w)) _ (I.hok.fresh (zc _))⟩;exact⟨by rw[zh];exact f,_,d.append c,IsTup.new _ _⟩
end
def ixN(n:Nat)(i:Int):Option Nat:=if 0<=i then(if i<n then some i.toNat else none) else if -(n:Int)<=i then some (i+n).toNat else none
def atI{α:Type}(xs:List α)(i:Int):Option α:=(ixN xs.length i).bind λj=>xs[j]?
theorem Gi{n:Nat}{i:Int}{j:Nat}(h:ixN n i=some j):seqIndex? i n=some j/\j<n/\-(n:Int)<=i/\i<n:=by
 unfold ixN at h
 by_cases h0:0<=i
 ·rw[if_pos h0] at h
  by_cases h1:i<n
  ·rw[if_pos h1] at h;have e:i.toNat=j:=zA h;exact⟨by rw[seqIndex_of h0 h1,e],by omega,by omega,h1⟩
  ·rw[if_neg h1] at h;cases h
 ·rw[if_neg h0] at h
  by_cases h1:-(n:Int)<=i
  ·rw[if_pos h1] at h;have e:(i+n).toNat=j:=zA h;exact⟨by rw[seqIndex_neg (by omega) h1,e],by omega,h1,by omega⟩
  ·rw[if_neg h1] at h;cases h
theorem xJ{α:Type}{xs:List α}{i:Int}{v:α}(h:atI xs i=some v):∃j,seqIndex? i xs.length=some j/\xs[j]?=some v/\j<xs.length/\-(xs.length:Int)<=i/\i<xs.length:=by
 unfold atI at h
 cases e:ixN xs.length i with
 |none=>rw[e] at h;cases h
 |some j =>
  rw[e] at h;obtain⟨h1,h2,h3,h4⟩:=Gi e;exact⟨j,h1,h,h2,h3,h4⟩
def uF(b:Expr):Prop:=∀o i,subscripted b false o i=operate [o,i] (getItem o i)
def IxR(X:Cx)(r:R2):Prop :=
 ∀(value slice:Expr) (pins:List (Addr×Obj)) (s:Shared) (σ:St) (H:Hp) (x y:V) (v u:Value) (Q:VK),Inv X pins σ H s->RelV x v->RelV y u->r x y H Q ->
  subscripted slice false v u=operate [v,u] (getItem v u)->wpAny (model X.prog X.w) X.A (subscriptTail value slice v u) (EP X pins σ Q) X.xe s
def MtR(X:Cx)(c:String)(r:V->List V->Hp->VK->Prop):Prop :=
 ∀(pins:List (Addr×Obj)) (s:Shared) (σ:St) (H:Hp) (x:V) (a:List V) (v:Value) (b:List Value) (Q:VK),Inv X pins σ H s->RelV x v->aX a b->r x a H Q ->
  wpAny (model X.prog X.w) X.A (call (.builtin c) (v::b)) (EP X pins σ Q) X.xe s
section
variable {X:Cx}{a b:Expr}{ta tb:TE}{pos:Pos}
theorem R6{r:R2}(i:IxR X r)(j:PE X a ta)(hb:PE X b tb)(g:uF b):PE X (.Subscript a b pos) (tOp r ta tb):=by
 intro pins s σ H Q I h;exact Subscript_ (xu j hb I h λv u c x y l k f d q=>i a b pins c σ l x y v u Q k f d q (g _ _))
def R7(K:PySem.W.Frag):R2:=λx y H Q=>∃p c i v,x=.ref p/\y=.int i/\SqL K H p c/\atI c i=some v/\Q v H
def R8(K:PySem.W.Frag):R2:=λx y H Q=>∃p c i v,x=.ref p/\y=.int i/\SqT K H p c/\atI c i=some v/\Q v H
def R9:R2:=λx y H Q=>∃z i c,x=.str z/\y=.int i/\z.length<=sizeLine/\atI z.cps.toList i=some c/\Q (.str ⟨#[c]⟩) H
theorem Sd:IxR X (R7 X.K):=by
 intro value slice pins s σ H x y v u Q I E B h l;obtain⟨p,O,i,z,rfl,rfl,F,J,q⟩:=h;cases E;obtain⟨t,rfl⟩:=B;obtain⟨k,r,d,P⟩:=I.list F;obtain⟨j,h1,h2,h3,h4,L⟩:=xJ J;obtain⟨w,m,g⟩:=r.get h2;have G:=r.length;have R:=pA;have c:EP X pins σ Q w s:=⟨z,H,I,g,q⟩
 by_cases h0:0<=i
 ·have f:i.toNat=j:=by
   rw[seqIndex_of h0 L] at h1;exact zA h1
  exact item_listR d.isList h0 (by omega) (by rw[f];simpa using m) c l
 ·have f:(i+(k.toArray.size:Int)).toNat=j:=by
   rw[seqIndex_neg (by omega) h4] at h1;rw[zr,<-G];exact zA h1
  exact subscriptTail_builtinR (x:=w) d.isList.typeIs slot_list_getitem.lookup
   (wpAny_getItem_list_neg (Q:=λr n=>r=w/\EP X pins σ Q r n) d.isList (by omega) (by rw[zr]<;>omega) (by omega) (by rw[f];simpa using m) ⟨rfl,c⟩) l
theorem Sh:IxR X (R8 X.K):=by
 intro value slice pins s σ H x y v u Q I l k h m;obtain⟨p,J,i,z,rfl,rfl,n,E,q⟩:=h;cases l;obtain⟨t,rfl⟩:=k;obtain⟨G,r,f,L⟩:=I.tuple n;obtain⟨j,h1,h2,h3,h4,P⟩:=xJ E;obtain⟨w,F,c⟩:=r.get h2;have B:=r.length;have O:=pA;have d:EP X pins σ Q w s:=⟨z,H,I,c,q⟩;exact subscriptTail_builtinR (x:=w) f.typeIs slot_tuple_getitem.lookup
  (getItem_tuple (j:=j) (Q:=λr g=>r=w/\EP X pins σ Q r g) f (by omega) (by omega) (by rw[zr,<-B];exact h1) (by simpa using F) ⟨rfl,d⟩) m
theorem Sq:IxR X R9:=by
 intro value slice pins s σ H x y v u Q I f d h g;obtain⟨z,i,c,rfl,rfl,F,l,q⟩:=h;obtain⟨t,rfl⟩:=f;obtain⟨E,rfl⟩:=d;obtain⟨j,h1,h2,h3,h4,m⟩:=xJ l
 have k:z.cps.toList.length=z.length:=by simp[Str.length]
 rw[k] at h1 h4 m;have G:=pA
 exact tail_any (typeIs_str s z t) slot_str_getitem.lookup (getItem_str (c:=c) (by
  have B:decide (i < -(2 ^ 63:Int))=false:=zf (by omega);have n:decide (i>=2 ^ 63)=false:=zf (by omega)
  rw[B,n,Bool.or_false]) (by rw[h1];simpa using h2) ⟨.str ⟨#[c]⟩,H,I.tok _,⟨_,rfl⟩,q⟩) g
theorem Ss(its:List Value)(n j:Nat)(u:Value):Obj.mapSeq (·.setIfInBounds j u) {cls:=.type "list",data:=.seq its.toArray n} = {cls:=.type "list",data:=.seq (its.set j u).toArray n}:=by
 simp[Obj.mapSeq]
theorem Inv.lst{pins:List (Addr×Obj)}{σ:St}{H:Hp}{s:Shared}{p:Addr}{xs:List V}(I:Inv X pins σ H s)(h:H p=some (.lst xs)):
  ∃(its:List Value) (n:Nat),aX xs its/\s.heap.get? p=some {cls:=.type "list",data:=.seq its.toArray n}/\xs.length<=sizeLine:=by
 obtain⟨z,its,n,r,e⟩:=I.hok p _ h;exact⟨its,n,r,e,z⟩
theorem Inv.lstUpd{pins:List (Addr×Obj)}{σ:St}{H:Hp}{s:Shared}{p:Addr}{xs c:List V}{its its':List Value}{n d:Nat}{f:Obj->Obj}(I:Inv X pins σ H s)(h:H p=some (.lst xs))
  (i:s.heap.get? p=some {cls:=.type "list",data:=.seq its.toArray n}) (g:f {cls:=.type "list",data:=.seq its.toArray n} = {cls:=.type "list",data:=.seq its'.toArray d}) (r:aX c its') (hz:c.length<=sizeLine) (t:Nat):
  Inv X pins σ (upd H p (.lst c)) {s with heap:=s.heap.update p f,toks:=t}:=by
 have e:(s.heap.update p f).get? p=some {cls:=.type "list",data:=.seq its'.toArray d}:=by
  rw[Heap.get?_update_self f i (by rw[g]<;>rfl),g]
 refine I.write (x:=p) (e:=p) (by rw[h];trivial) (.inl rfl) (λb u j q=>(jd _ _ (Ne.symm j)).trans q) ⟨_,e⟩ ?_;exact⟨hz,its',d,r,e⟩
def Su:V->V->V->Hp->(Hp->Prop)->Prop:=λo i v H Q=>∃p c k j,o=.ref p/\i=.int k/\H p=some (.lst c)/\ixN c.length k=some j/\Q (upd H p (.lst (c.set j v)))
theorem set_list:Fd X Su:=by
 intro pins s σ H o i v F G u Q I y z x h;obtain⟨p,m,k,j,rfl,rfl,l,E,q⟩:=h;cases y;obtain⟨t,rfl⟩:=z;obtain⟨c,n,r,d,B⟩:=I.lst l;obtain⟨h1,h2,h3,h4⟩:=Gi E;have f:=r.length;have J:=pA;have I':Inv X pins σ (upd H p (.lst (m.set j v))) {s with heap:=s.heap.update p (Obj.mapSeq (·.setIfInBounds j u))}:=
  I.lstUpd l d (Ss c n j u) (r.set x j) (by rw[zU];exact B) s.toks
 by_cases h0:0<=k
 ·have g:k.toNat=j:=by
   rw[seqIndex_of h0 h4] at h1;exact zA h1
  exact PySem.W.ki_setAt d h0 (by omega) (by rw[zr,<-f];exact h4) (by rw[g];exact⟨_,I',q⟩)
 ·have g:(k+(c.toArray.size:Int)).toNat=j:=by
   rw[seqIndex_neg (by omega) h3] at h1;rw[zr,<-f];exact zA h1
  exact PySem.W.ki_setBack d (by omega) (by rw[zr,<-f];exact h3) (by omega) (by rw[g];exact⟨_,I',q⟩)
theorem Gj(lo hi:Option Int)(n:Nat):(sliceBounds lo hi none n).1=((HT.sIx n 0 lo:Nat):Int)/\(sliceBounds lo hi none n).2.1=((HT.sIx n n hi:Nat):Int)/\(sliceBounds lo hi none n).2.2=1:=by
 refine⟨?_,?_,rfl⟩
 ·cases lo with
  |none=>simp[sliceBounds,HT.sIx]
  |some i =>
   simp only[sliceBounds,HT.sIx,Option.getD_none,show(1:Int)>0 by decide,if_true]
   by_cases h:i<0
   ·simp only[h,if_true]<;>omega
   ·simp only[h,if_false]<;>omega
 ·cases hi with
  |none=>simp[sliceBounds,HT.sIx]
  |some i =>
   simp only[sliceBounds,HT.sIx,Option.getD_none,show(1:Int)>0 by decide,if_true]
   by_cases h:i<0
   ·simp only[h,if_true]<;>omega
   ·simp only[h,if_false]<;>omega
theorem Sw(its:List Value)(lo hi:Option Int):slicePick its.toArray lo hi none=((its.drop (HT.sIx its.length 0 lo)).take (HT.sIx its.length its.length hi - HT.sIx its.length 0 lo)).toArray:=by
 obtain⟨h1,h2,h3⟩:=Gj lo hi its.toArray.size;unfold slicePick;rw[h1,h2,h3]
 simp only[sliceRange_one,pick_run,zr]<;>rfl
def Sx(K:PySem.W.Frag):V->Option Int->Option Int->Hp->VK->Prop:=λx lo hi H Q=>∃a c,x=.ref a/\SqL K H a c/\∀p,H p=none->Q (.ref p) (upd H p (.lst (j0 c lo hi)))
theorem Sy:SlR X (Sx X.K):=by
 intro pins s σ H x v vl m lo hi sl Q I f k g pu h;obtain⟨a,c,rfl,j,q⟩:=h;cases f;obtain⟨l,r,d,i⟩:=I.list j;have hlen:=r.length;refine⟨"list",_,slot_list_getitem.lookup,d.isList.typeIs,?_⟩;refine wpAny_getItem_list_slice d.isList k g pu .none (by simp) ?_ (by rw[zr]<;>omega);rw[Sw,<-hlen];refine⟨.ref s.heap.objs.size,_,I.laid (t':=s.toks) (o:=.lst (j0 c lo hi)) (λb ob q=>zt _ q) (zc _) ?_,rfl,q _ (I.hok.fresh (zc _))⟩;exact⟨zH (Gh c lo hi) i,_,0,(r.drop (HT.sIx c.length 0 lo)).take (HT.sIx c.length c.length hi - HT.sIx c.length 0 lo),zF _ rfl⟩
def eqV:V->V->Bool
 | .non,.non=>true
 | .bl a,.bl b=>a == b
 | .bl a,.int b=>(if a then 1 else 0) == b
 | .int a,.bl b=>a == (if b then 1 else 0)
 | .int a,.int b=>a == b
 | .str a,.str b=>a == b
 | _,_=>false
theorem Gk:iH X (.type "list") (λxs H Q=>∃p f,xs=[.ref p]/\(SqL X.K H p f\/SqT X.K H p f)/\∀l,H l=none->Q (.ref l) (upd H l (.lst f))):=by
 intro pins s σ H xs F Q I r h;obtain⟨p,f,rfl,k,q⟩:=h;obtain⟨u,rfl,E⟩:=vals1 r;cases E;have m:∀(c:List Value),aX f c->f.length<=sizeLine->∀(d:Heap) (i:Nat),(∀b B,s.heap.get? b=some B->d.get? b=some B) ->
   d.get? s.heap.objs.size=some {cls:=.type "list",dict:=none,data:=.seq c.toArray i,slots:=#[]}->EP X pins σ Q (.ref s.heap.objs.size) {s with heap:=d}:=λc g j d i kp e =>
  ⟨.ref s.heap.objs.size,_,I.laid (t':=s.toks) kp (zc _) (show cW X.prog X.w _ d _ (.lst f) from⟨j,c,i,g,e⟩),rfl,q _ (I.hok.fresh (zc _))⟩
 rcases k with k | k
 ·obtain⟨c,g,x,j⟩:=I.list k;have hlen:=g.length;obtain⟨o,y,z,n,hd⟩:=x.isList;exact call_list_seq p (.inl rfl) y z hd (λd i kp e=>m c g j d i kp e) (by simp only[zr]<;>omega)
 ·obtain⟨c,g,x,j⟩:=I.tuple k;have hlen:=g.length;obtain⟨o,y,z,n,hd⟩:=x;exact call_list_seq p (.inr rfl) y z hd (λd i kp e=>m c g j d i kp e) (by simp only[zr]<;>omega)
def tyV(K:PySem.W.Frag)(T:String)(x:V)(H:Hp):Prop:=match x with
 | .str _=>T = "str"
 | .int _=>T = "int"
 | .ref p=>(T = "list"/\∃d,SqL K H p d)\/(T = "tuple"/\∃o,K.lookup p=some o/\o.cls=.type "tuple"/\o.dict=none) \/
   (T = "dict"/\((∃c,H p=some (.dK c))\/∃c,H p=some (.dT c)))\/(T = "set"/\∃S n,H p=some (.set S n))
 | _=>False
theorem SJ{pins:List (Addr×Obj)}{σ:St}{H:Hp}{s:Shared}{T:String}{x:V}{v:Value}(I:Inv X pins σ H s)(r:RelV x v)(ty:tyV X.K T x H):
  s.TypeIs v T/\∀a,v=.ref a->∃ob,s.heap.get? a=some ob/\ob.dict=none:=by
 cases x with
 |str z =>
  obtain⟨t,rfl⟩:=r;cases(show T = "str" from ty);exact⟨typeIs_str s z t,λ_ e=>nomatch e⟩
 |int i =>
  obtain⟨t,rfl⟩:=r;cases(show T = "int" from ty);exact⟨typeIs_int s i t,λ_ e=>nomatch e⟩
 |ref p =>
  cases r
  rcases ty with⟨rfl,m,j⟩ | ⟨rfl,o,d,k,hd⟩ | ⟨rfl,d⟩ | ⟨rfl,S,n,d⟩
  ·obtain⟨l,_,h,_⟩:=I.list j;refine⟨h.isList.typeIs,λa e=>?_⟩;cases e;obtain⟨o,n,e,c,hd,_⟩:=h;exact⟨o,e,hd⟩
  ·refine⟨⟨o,I.kIn p o d,k⟩,λa e=>?_⟩;cases e;exact⟨o,I.kIn _ o d,hd⟩
  ·have z:∃o,s.heap.get? p=some o/\o.ExactDict:=by
    rcases d with⟨g,d⟩ | ⟨g,d⟩
    ·obtain⟨_,_,_,_,o,_,_,e,ex,_⟩:=I.hok p _ d;exact⟨o,e,ex⟩
    ·obtain⟨_,_,_,_,o,_,_,e,ex,_⟩:=I.hok p _ d;exact⟨o,e,ex⟩
   obtain⟨o,e,ex⟩:=z;refine⟨⟨o,e,ex.1⟩,λa f=>?_⟩;cases f;exact⟨o,e,ex.2.1⟩
  ·obtain⟨o,_,_,_,e,ex,_⟩:=I.hok p _ d;refine⟨⟨o,e,ex.1⟩,λa f=>?_⟩;cases f;exact⟨o,e,ex.2.1⟩
 | _=>exact False.elim ty
def tBM(K:PySem.W.Frag)(T:String)(r:V->List V->Hp->VK->Prop)(to:TE)(t:TA):TE:=λσ H Q=>to σ H λx c=>tyV K T x c/\t σ c λd f=>r x d f Q
variable {o e:Expr}{es:List Expr}{to:TE}{t:TA}{name:Str}{apos cpos:Pos}{T id:String}{r:V->List V->Hp->VK->Prop}
theorem xK(k:PlainAttrs T)(slot:Slot T name id)(i:typeOf (.builtin id)=pure (.type "method_descriptor"))(n:MtR X id r)(m:PE X o to)(u:PA X (e::es) t)
  (f:attributeBase o name X.env (eval o X.env)=eval o X.env:=by rfl)
  (g:((backTo cpos (starEach (e::es) X.env)).all (λx=>!x.1)&&(backToKw cpos (keywordEach [] X.env)).all (λx=>x.1.isSome)
   && decide ((e::es).length+([]:List Keyword).length+(if([]:List Keyword).isEmpty then 0 else 1)<30))=true:=by rfl)
  (d:(apos.endLine == cpos.line)=true:=by rfl) (l:starEach (e::es) X.env=(false,eval e X.env)::starEach es X.env:=by rfl) (c:(backTo cpos (starEach es X.env)).any (·.1)=false:=by rfl):
  PE X (.Call (.Attribute o name apos) (e::es) [] cpos) (tBM X.K T r to t):=by
 intro pins s σ H Q I h;refine wpAny_Call_method_late f g d rfl (thn (m pins s σ H _ I h) λv s1 ⟨x,H1,I1,r1,ty,q1⟩=>?_);obtain⟨h1,h2⟩:=SJ I1 r1 ty;refine⟨T,id,k,slot,i,h1,h2,?_⟩;have j:=u cpos pins s1 σ H1 _ I1 q1;rw[l] at j ⊢;refine Calls.callWith_builtin (by show(false || (backTo cpos (starEach es X.env)).any (·.1))=false;rw[c]<;>rfl) (Calls.evalArgs_plain ?_)
 exact thn j λus s2 ⟨vs,H2,I2,r2,q2⟩=>n pins s2 σ H2 x vs v us Q I2 r1 r2 q2
/- xs.append(e),list.index on a module's tuple .. are MtR facts of 06m -/
end
def MtM(X:Cx)(c:String)(r:V->List V->Hp->VK->Prop):Prop :=
 ∀(pins:List (Addr×Obj)) (s:Shared) (σ:St) (H:Hp) (x:V) (a:List V) (v:Value) (b:List Value) (Q:VK),Inv X pins σ H s->RelV x v->aX a b->r x a H Q ->
  wpAny (model X.prog X.w) X.A (call (.builtin c) (v::b)) (EP X pins σ Q) X.xe s
theorem aX.one:∀{x:V}{us:List Value},aX [x] us->∃u,us=[u]/\RelV x u
 | _,_,.cons r .nil=>⟨_,rfl,r⟩
theorem aX.rep{xs:List V}{us:List Value}(h:aX xs us):∀k:Nat,aX (List.replicate k xs).flatten (List.replicate k us).flatten
 | 0=>.nil
 |k+1=>by
  rw[List.replicate_succ,List.replicate_succ,List.flatten_cons,List.flatten_cons];exact aX.append h (aX.rep h k)
theorem foldl_rep(its:List Value):∀(k:Nat) (acc:List Value),
  List.foldl (λb a=>b++a) acc.toArray (List.replicate k its.toArray)=(acc++(List.replicate k its).flatten).toArray
 | 0,acc=>by simp
 |k+1,acc=>by
  have e:acc.toArray++its.toArray=(acc++its).toArray:=by simp
  have c:(acc++its)++(List.replicate k its).flatten=acc++(List.replicate (k+1) its).flatten:=by
   rw[List.replicate_succ,List.flatten_cons,zP]
  rw[<-c,<-foldl_rep its k (acc++its),<-e,List.replicate_succ,List.foldl_cons]
section
variable {X:Cx}{pins:List (Addr×Obj)}{σ:St}{H:Hp}{s:Shared}{l b:Addr}{xs ys zs:List V}
theorem Inv.lset{its its':List Value}{n:Nat}{f:Array Value->Array Value}{t':Nat}(I:Inv X pins σ H s)(g:H l=some (.lst xs))
  (e:s.heap.get? l=some {cls:=.type "list",data:=.seq its.toArray n}) (c:f its.toArray=its'.toArray) (hv:aX ys its') (hz:ys.length<=sizeLine):
  Inv X pins σ (upd H l (.lst ys)) {s with heap:=s.heap.update l (Obj.mapSeq f),toks:=t'}:=by
 have q:=PySem.IsL.update e f;rw[c] at q;refine I.write (x:=l) (e:=l) (by rw[g];exact trivial) (.inl rfl) (λh u d a=>(jd s.heap (Obj.mapSeq f) (Ne.symm d)).trans a) ⟨_,q⟩ ?_;exact⟨hz,its',_,hv,q⟩
theorem Inv.lnew{its:List Value}{t':Nat}(I:Inv X pins σ H s)(hv:aX ys its)(hz:ys.length<=sizeLine):
  Inv X pins σ (upd H s.heap.objs.size (.lst ys)) {s with heap:=s.heap.push {cls:=.type "list",data:=.seq its.toArray},toks:=t'}:=
 I.laid (λ_ _ q=>zt _ q) (zc _) ⟨hz,its,0,hv,zF _ rfl⟩
theorem Inv.fresh(I:Inv X pins σ H s):H s.heap.objs.size=none:=I.hok.fresh (zc _)
theorem Inv.lstM(I:Inv X pins σ H s)(a:H l=some (.lst xs)):xs.length<=sizeLine/\∃(its:List Value) (n:Nat),aX xs its/\xs.length=its.length/\s.heap.get? l=some {cls:=.type "list",data:=.seq its.toArray n}:=by
 obtain⟨z,its,n,r,e⟩:=I.hok l _ a;exact⟨z,its,n,r,r.length,e⟩
theorem Gm{n:Nat}(h:n<=sizeLine):Builtin.List.listTooLong n=false:=by
 unfold Builtin.List.listTooLong;exact zf (by omega)
end
section
variable {X:Cx}
def SM:V->List V->Hp->VK->Prop:=λx b H Q=>∃l a y,x=.ref l/\b=[y]/\H l=some (.lst a)/\a.length<sizeLine/\Q .non (upd H l (.lst (a++[y])))
theorem SN:MtM X "list.append" SM:=by
 intro pins s σ H x i v j Q I c d h;obtain⟨l,g,y,rfl,rfl,b,k,q⟩:=h;cases c;obtain⟨u,rfl,f⟩:=d.one;obtain⟨z,a,n,r,m,e⟩:=I.lstM b;refine call_meets F.slot_list_append ⟨_,e,rfl⟩ F.entry_list_append (F.args_list_append_2 _ _) (PySem.list_append l a.toArray n u (by rw[zr];omega)) ⟨e,?_⟩;refine⟨.non,_,I.lset (its':=a++[u]) b e (by simp) (r.append (.cons f .nil)) ?_,rfl,q⟩;rw[zh,je];omega
theorem len_rep{α:Type}(xs:List α)(k:Nat):(List.replicate k xs).flatten.length=k * xs.length:=by
 induction k with
 |zero=>simp
 |succ k a=>rw[List.replicate_succ,List.flatten_cons,zh,a,Nat.succ_mul,Nat.add_comm]
end
section
variable {prog:Program}{w:World}{A:Around}{E:Value->Shared->Prop}{s:Shared}
end
section
variable {X:Cx}
end
end L2
namespace Att
open PySem PySem.W PySem.Calls PyProof.Rows
theorem SQ{P:Params}{h:Heap}:∀(ns:List Int) (vs:List Value),WellAll P h vs (ns.map WData.int)->IntsAre vs ns:=by
 intro ns
 induction ns with
 |nil =>
  intro vs w;rw[zQ] at w;cases w;exact .nil
 |cons n ns ih =>
  intro vs w;rw[zl] at w
  cases w with
  |cons a b =>
   cases a;exact .cons _ _ (ih _ b)
theorem SX{l:OpenLaw}{n:Nat}(m:l.most=some n){P:Params}{h:Heap}{args:List WData}{vals:List Value}
  (b:l.row.toRowW.claim.pre args=true) (g:WellAll P h vals args):
  ∃a vs ns,vals=[Value.ref a]/\args=[WData.list (ns.map WData.int)]/\h.get? a=some {cls:=.type "list",data:=.seq vs.toArray}/\IntsAre vs ns/\ns.length<=n:=by
 have i:WShape.hasAll [] args [.list .int]=true:=(pre_splitW b).1;have j:l.pre.holds [] {args:=args}=true:=(pre_splitW b).2;obtain⟨d,r,rfl,h1,h2⟩:=hasAllW_cons i;obtain rfl:=hasAllW_nil h2;obtain⟨u,rfl,h3⟩:=hasW_list h1;obtain⟨ns,rfl⟩:=items_int h3
 have hlen:ns.length<=n:=by
  unfold OpenLaw.pre at j
  have h4:(WTm.not (.lt (.lit (.int (n:Int))) (.len (.arg 0)))).holds [] {args:=[.list (ns.map .int)]}=true:=by
   have h4:=(holds_andW j).1;rw[m] at h4;exact h4
  have f:=condW_of h4 (w_not (w_lt w_lit (w_len_list (w_arg rfl))));rw[zd] at f
  refine Nat.le_of_not_lt λq=>?_
  have q':(n:Int)<((ns.length:Nat):Int):=by omega
  first
   | (rw[zn q'] at f;exact absurd f (by decide))
   | (simp at f;omega)
 cases g with
 |cons w1 w2 =>
  cases w2
  cases w1 with
  |list k c=>exact⟨_,_,ns,rfl,rfl,k,SQ ns _ c,hlen⟩
theorem S8(l:OpenLaw)(args:List WData):l.row.toRowW.claim.post args (.bool true) args=true :=
 postW_of (r:=l.row.toRowW) (X:=(true == true))
  (show WShape.has [] (.bool true) .bool=true by first | rfl | decide | simp[WShape.has,WShape.arms,WShape.armsAll])
  (show(WTm.eq .res (.lit (.bool true))).value [] {args:=args,res:=some (.bool true),after:=args}=some (.bool (true == true)) from w_eq_bool (w_res rfl) w_lit) rfl
theorem attach_call{l:OpenLaw}{n:Nat}{q:Program}{loose:List Str}{B:(Str->Option Value)->Heap->Prop}{z:World->Heap->Prop}{d:DefRec}
  (I:l.most=some n) (u:d.params.defaults=[])
  (call:∀(w:World) (s₀ b:Shared) (mg mb:Str->Option Value) (fa:Addr) (o:Obj) (pm j c:Value) (a:Addr) (vs:List Value) (ns:List Int),
   Ground q loose [] B w s₀ mg mb b.heap->z w b.heap ->
   b.heap.get? fa=some o->o.data=.func (docDef d.name d.params d.body d.scope pm j c)->b.heap.CodeRec j d.name->mg d.name=some (.ref fa) ->
   b.heap.get? a=some {cls:=.type "list",data:=.seq vs.toArray}->IntsAre vs ns->ns.length<=n->b.gens = #[] ->
   codeAny (model l.prog w) callerA (.call (.ref fa) ⟨[.ref a],[]⟩) (λr i=>r=.ok (.ret (.bool true))/\OldK b.heap i.heap/\i.os=b.os/\AllBare i.gens) b):
  WalkO q loose B z l.row.toRowW d [] (λf vs=>PySem.call f vs):=by
 intro w s₀ b mg mb G Y fa o pm j c O kV H hd x y m L args vals R g E P k Q;obtain rfl:O=.none:=Dflts.none y u;obtain rfl:kV=.none:=Dflts.noKw y;obtain⟨a,vs,ns,rfl,rfl,h,hints,hlen⟩:=SX I g k;refine enter_call (codeAny_mono (call w s₀ b mg mb fa o pm j c a vs ns G Y H (fd_plain hd) x m h hints hlen L) λr i F=>?_);obtain⟨rfl,h2,h3,h4⟩:=F;exact⟨.inl ⟨.bool true,.bool true,[],rfl,λ_=>rfl,.bool true,S8 l _,λ_=>⟨List.Pairwise.nil,λ_ J=>(nomatch J)⟩⟩,h2,h3,h4⟩
section
variable {prog:Program}{w:World}{A:Around}{E:Value->Shared->Prop}{s:Shared}{K:Frag}
end
end Att
namespace L2
open PySem PySem.Spec PyProof.Rows
theorem xN:∀{vs:List Value}{ns:List Int},IntsAre vs ns->aX (ns.map V.int) vs
 | _,_,.nil=>.nil
 | _,_,.cons n t h=>.cons ⟨t,rfl⟩ (xN h)
def nC(H:Hp):Prop:=∀b,H b=none\/∃o a,H b=some (.frz o (.lst a))
theorem S9{P:Program}{w:World}{K:PySem.W.Frag}{mg mb:Str->Option Value}{CX:CXT}{k:Nat}{fa a:Addr}{fd:FuncData}{x:Str}{sp:Sp}{c:Shared}{vs:List Value}{ns:List Int}
  (KX:K.In c.heap) (B:c.heap.Ns mainGlobals mg) (hb:c.heap.Ns builtinsNs mb) (R:∀x:Str,x≠"__name__"->mb x=bootBuiltins x) (J:c.heap.NoLimit) (hg:c.gens = #[])
  (L:c.heap.get? a=some {cls:=.type "list",data:=.seq vs.toArray}) (hi:IntsAre vs ns) (X:ns.length<=sizeLine) (hr:bM k callerA)
  (F:∀base:Heap,K.In base->base.Ns mainGlobals mg->fc P w K mg base CX k fa fd [x] sp) (j:∀(s:Shared) (u:Value),BindsTo s fd ⟨[u],[]⟩ [(x,u)])
  (Q:∀H:Hp,nC H->SqL K H a (ns.map V.int)->sp [.ref a] H (λv _=>v=.bl true) λ_ _ _=>False)
  (T:∀H e g,CX [] H c (λ_ _ _=>False) e g->False):
  codeAny (model P w) callerA (.call (.ref fa) ⟨[.ref a],[]⟩) (λr g=>r=.ok (.ret (.bool true))/\OldK c.heap g.heap/\g.os=c.os/\AllBare g.gens) c:=by
 have U:=xN hi;have G:=hi.length;have core:∀H:Hp,nC H->SqL K H a (ns.map V.int)->HOk P w H c.heap->(∀b,H b≠none->b=a)->(H a≠none->K.lookup a=none) ->
   codeAny (model P w) callerA (.call (.ref fa) ⟨[.ref a],[]⟩) (λr g=>r=.ok (.ret (.bool true))/\OldK c.heap g.heap/\g.os=c.os/\AllBare g.gens) c:=by
  intro H Y hS hok Z hK
  have f:∀{b:Addr}{o:Obj},c.heap.get? b=some o->H b=none->(gM c.heap H).get? b=some o:=λe n=>Es e n
  have O:∀{b:Addr}{o:Obj}{l:Array DictEntry}{y:Nat},c.heap.get? b=some o->o.data=.dict l y->H b=none:=λ{b o l y} e d=>by
   cases q:H b with
   |none=>rfl
   |some u =>
    have e':b=a:=Z b (by rw[q];simp);subst e';rw[L] at e;cases e;have d':Data.seq vs.toArray _=Data.dict l y:=d;cases d'
  have i:∀{b:Addr}{m:Str->Option Value},c.heap.Ns b m->(gM c.heap H).Ns b m:=λ{b m} ⟨o,l,y,e,d,r⟩=>⟨o,l,y,f e (O e d),d,r⟩
  have E:K.In (gM c.heap H):=λb o e=>f (KX b o e) (by
   cases q:H b with
   |none=>rfl
   |some u =>
    have e':b=a:=Z b (by rw[q];simp);subst e'
    rw[hK (by rw[q];simp)] at e;cases e)
  have hM:Mod K mg (gM c.heap H):=⟨E,i B,⟨mb,i hb,R⟩,let ⟨mc,h1,h2⟩:=J;⟨mc,i h1,h2⟩⟩;have e0:lN P w K mg (gM c.heap H) callerA [] c H:=⟨rfl,hM,λb o e=>Et e,Nat.le_of_eq (Er _ _),trivial,λb hb=>absurd (show b∈([]:List Addr) from hb) (by simp),hok,.of_eq hg⟩
  refine codeAny_mono ((F _ E (i B)).run callerA [] c H ⟨[.ref a],[]⟩ [.ref a] [.ref a] _ _ hr e0 (j c (.ref a)) (.cons rfl .nil) (Q H Y hS)) λr g h=>?_
  cases r with
  |error e=>exact(T H e g h).elim
  |ok fl =>
   cases fl with
   |next=>exact False.elim h
   |brk=>exact False.elim h
   |cont=>exact False.elim h
   |ret u =>
    obtain⟨v,H',os,bare,un,I,r',q⟩:=h;have q':v=.bl true:=q;subst q';obtain rfl:u=Value.bool true:=r';refine⟨rfl,OldK.of_keep λb o e=>?_,os,bare⟩
    cases q:H b with
    |none=>exact un.keep b o e q (by intro z;exact absurd (show b∈([]:List Addr) from z) (by simp)) (by simp)
    |some u =>
     rcases Y b with z | ⟨ob,xs,z⟩
     ·rw[q] at z;cases z
     ·have z2:=un.frzs b ob _ z;obtain⟨e1,_⟩:=hok b _ z;obtain⟨e2,_⟩:=I b _ z2;rw[e] at e1;cases e1;exact e2
 cases hk:K.lookup a with
 |some o =>
  have e:=KX a o hk;rw[L] at e;cases e
  refine core (λ_=>none) (λ_=>.inl rfl) (.inr ⟨_,vs.toArray,_,hk,rfl,rfl,rfl,by rw[zr,G];exact X,by simpa using U⟩) (λb u z=>by have z':(none:Option HO)=some u:=z;cases z') (λb z=>absurd rfl z) λz=>absurd rfl z
 |none =>
  refine core (λb=>if b=a then some (.frz {cls:=.type "list",data:=.seq vs.toArray} (.lst (ns.map V.int))) else none) (λb=>?_) (.inl (.inr ⟨{cls:=.type "list",data:=.seq vs.toArray},if_pos rfl⟩)) (λb u z=>?_) (λb z=>?_) λ_=>hk
  ·by_cases hb:b=a
   ·exact .inr ⟨_,_,if_pos hb⟩
   ·exact .inl (if_neg hb)
  ·by_cases hb:b=a
   ·have z':=(if_pos hb).symm.trans z;cases z';subst hb;exact⟨L,by rw[zd];exact X,vs,_,U,L⟩
   ·have z':=(if_neg hb).symm.trans z;cases z'
  ·by_cases hb:b=a
   ·exact hb
   ·exact absurd (if_neg hb) z
abbrev KOf{K:PySem.W.Frag}{h:Heap}(_:K.In h):PySem.W.Frag:=K
theorem walk_of{l:PySem.W.OpenLaw}{n k:Nat}{q:Program}{loose:List Str}{XP:(Str->Option Value)->Heap->Prop}{YP:World->Heap->Prop}{d:DefRec}{K:Params->PySem.W.Frag}{CX:World->CXT}{sp:World->Sp}{x:Str}
  (hn:l.most=some n) (hn2:n<=sizeLine) (hdf:d.params.defaults=[]) (hr:bM k callerA)
  (hY:∀(w:World) (h:Heap),YP w h->(K w.params).In h)
  (F:∀(w:World) (mg:Str->Option Value) (fa:Addr) (h:Heap),(K w.params).In h->h.Ns mainGlobals mg->mg d.name=some (.ref fa) ->
   ∃fd:FuncData,(∀(s:Shared) (u:Value),BindsTo s fd ⟨[u],[]⟩ [(x,u)]) /\
    ∀base:Heap,(K w.params).In base->base.Ns mainGlobals mg->fc l.prog w (K w.params) mg base (CX w) k fa fd [x] (sp w))
  (hsp:∀(w:World) (H:Hp) (a:Addr) (ns:List Int),ns.length<=n->nC H->SqL (K w.params) H a (ns.map V.int)->sp w [.ref a] H (λv _=>v=.bl true) λ_ _ _=>False)
  (hCX:∀(w:World) (H:Hp) (s:Shared) (e:Value) (s':Shared),CX w [] H s (λ_ _ _=>False) e s'->False):
  PySem.W.WalkO q loose XP YP l.row.toRowW d [] (λf vs=>PySem.call f vs):=by
 refine Att.attach_call hn hdf λw s₀ s₁ mg mb fa o pm cd doc a vs ns G Y ho hd hcd hmg hobj hints hlen hg=>?_
 have KX:=hY w _ Y;obtain⟨fd,hb,hF⟩:=F w mg fa _ KX G.T.g hmg
 exact S9 KX G.T.g G.T.b G.T.builtins G.T.nolimit hg hobj hints (zH hlen hn2) hr hF hb (λH hO hS=>hsp w H a ns hlen hO hS) λH e s'=>hCX w H s₁ e s'
end L2
/- THE LAST THEOREM (shape;LID,My.* are yours):
   My.Adr: a structure of the addresses that your layer names (classes,functions);My.Txt K t: a structure (Prop) of the equations over K;
   My.txt_mk:{K}{implicit addresses ..} (e1:nsIn K mainGlobals "law" = some (some (.ref f))) (e2:K.lookup f=some ⟨oc,od,.func (fnOf "law" "law" params body scope dV kV doc pm an cdv ct),sl⟩) (e3:codeIn K cdv "law" = true) ..:∃t,My.Txt K t
set_option maxRecDepth 100000 in
set_option maxHeartbeats 0 in
theorem PySem.Challenge.cw_LID_holds : PySem.Challenge.rw_LID.Holds := by
 w_on;o_law;k_head;(case hw=>w_witness2)
 k_fill
 refine L2.walk_of (l:=PySem.Challenge.rw_LID) (n:=63) (k:=40) (x:="script") (CX:=λw=>..) (sp:=λ_=>My.sp_law) rfl (by decide) rfl ⟨rfl,by decide,by decide⟩ (λw h Y=>PySem.W.kIn_of Y) ?F ?S ?C
 case F =>
  intro w mg fa h KX G hmg
  have T:∃t,My.Txt (L2.KOf KX) t:=by
   dsimp only[L2.KOf]                          -- K must stand as «<heap const> w.params» for k_is
   refine' My.txt_mk ?e1 ?e2 ?e3 ..
   (case e1=>PySem.W.k_is)                    -- in the order: a name -> its address -> its object -> its parts
   (case e2=>PySem.W.k_is)
   ..
  obtain⟨t,T⟩:=T;have e0:=hmg.symm.trans (PySem.W.mg_of KX G T.law);cases e0                                       -- fa is the law's own address
  exact⟨_,λs u=>.of_eq rfl,λbase kb nb=>My.law_fn T kb nb⟩     -- if «.of_eq rfl» comes too early: refine'⟨_,?b,λbase kb nb=>My.law_fn T kb nb⟩;exact λs u=>.of_eq rfl
 case S=>exact λw H a ns hl hO hS=>..
 case C=>exact ..
(the tactic k_is has no namespace: write k_is) -/
namespace L2
open PySem PySem.Spec PyProof.Rows
def inClass(s:Stmt)(j:Nat):Stmt:=match s with
 | .ClassDef _ _ _ body _ _ _ _ _ _ _=>body.getD j (.Pass ⟨0,0,0,0⟩)
 | _=>.Pass ⟨0,0,0,0⟩
def iK(s:Stmt):Arguments:=match s with
 | .FunctionDef _ a _ _ _ _ _ _ _ _=>a
 | _=>{posonlyargs:=[],args:=[],vararg:=none,kwonlyargs:=[],kw_defaults:=[],kwarg:=none,defaults:=[]}
def fU(s:Stmt):List Stmt:=match s with
 | .FunctionDef _ _ b _ _ _ _ _ _ _=>b
 | _=>[]
def bu(s:Stmt):Scope:=match s with
 | .FunctionDef _ _ _ _ _ _ sc _ _ _=>sc
 | _=>{kind:=.function,names:=[],isGenerator:=false,isCoroutine:=false}
abbrev CX0:CXT:=λ_ _ _ _ _ _=>False
abbrev E0:XK:=λ_ _ _=>False
theorem uG{X:Cx}:nA CX0 X E0:=λ_ _ _ _ _ _ _ h=>h.elim
structure Fun(K:PySem.W.Frag)(x qual:Str)(st:Stmt)(f:Addr)(fd:FuncData):Prop where
 ex:∃(oc:Value) (od:Option Addr) (kV doc pm:Value) (an:Option Addr) (cdv ct:Value) (osl:Array (Option Value)),
  fd=PySem.W.fnOf x qual (iK st) (fU st) (bu st) .none kV doc pm an cdv ct/\K.lookup f=some ⟨oc,od,.func fd,osl⟩/\PySem.W.codeIn K cdv qual=true
 kp:PySem.W.keepIn K (.ref f)=true
section
variable {P:Program}{w:World}{K:PySem.W.Frag}{mg:Str->Option Value}{base:Heap}
theorem Fun.ok{x qual:Str}{st:Stmt}{f:Addr}{fd:FuncData}{N ps:List Str}{k:Nat}{sp:Sp}(F:Fun K x qual st f fd)(S:cg N ps (bu st))(len:∀vs H Q E,sp vs H Q E->vs.length=ps.length)
  (b:∀(a:Value) (A:Around) (outer:List Env) (s:Shared) (H:Hp) (vs:List V) (Q:VK) (E:XK),bM k (A.deeper (envOfC qual (bu st) s.heap.objs.size f a))->sp vs H Q E ->
   ∃t,PSs (iZ CX0 P w K mg base N qual (bu st) f a A outer s H E).nox (fU st) t/\t {nx:=λ_ i=>Q .non i,rt:=Q} (start N vs) H):fc P w K mg base CX0 (k+1) f fd ps sp:=by
 obtain⟨u,n,kV,l,m,y,a,ct,j,rfl,lk,d⟩:=F.ex
 refine RM lk d S len λA outer s H vs Q E g c=>?_
 obtain⟨t,h,q⟩:=b a A outer s H vs Q E g c;exact⟨t,h.nox,q⟩
theorem Fun.binds{x qual:Str}{st:Stmt}{f:Addr}{fd:FuncData}{ps:List Str}(F:Fun K x qual st f fd)
  (h:∀(kV a pm:Value) (c:Option Addr) (b ct:Value) (us:List Value),us.length=ps.length->bindArgs (PySem.W.fnOf x qual (iK st) (fU st) (bu st) .none kV a pm c b ct) ⟨us,[]⟩=pure (ps.zip us)):Binds K fd ps []:=by
 obtain⟨j,i,kV,a,pm,c,b,ct,d,rfl,lk,g⟩:=F.ex;exact .all (h kV a pm c b ct)
theorem xO{x qual:Str}{st:Stmt}{f:Addr}{i:Value}{h g:Option Addr}{d:Array (Option Value)}{kV b pm a ct:Value}(l:K.lookup f=some ⟨i,h,.func (PySem.W.fnOf x qual (iK st) (fU st) (bu st) .none kV b pm g a ct),d⟩)
  (c:PySem.W.codeIn K a qual=true) (k:PySem.W.keepIn K (.ref f)=true):Fun K x qual st f (PySem.W.fnOf x qual (iK st) (fU st) (bu st) .none kV b pm g a ct):=⟨⟨i,h,kV,b,pm,g,a,ct,d,rfl,l,c⟩,k⟩
end
theorem uH{A:Around}{k:Nat}(a:bM k A):A.units+1<cLine:=Nat.lt_of_le_of_lt (Nat.add_le_add_left (by decide:1<=64) _) a.units
section
variable {X:Cx}
end
def Same(H a:Hp):Prop:=∀b o,H b=some o->a b=some o
theorem Same.refl(H:Hp):Same H H:=λ_ _ h=>h
theorem Same.trans{H f d:Hp}(a:Same H f)(b:Same f d):Same H d:=λc o h=>b c o (a c o h)
theorem Same.seq{K:PySem.W.Frag}{H b:Hp}{a:Addr}{xs:List V}(e:Same H b)(h:SqL K H a xs):SqL K b a xs:=by
 rcases h with(h | ⟨o,h⟩) | h
 ·exact .inl (.inl (e _ _ h))
 ·exact .inl (.inr ⟨o,e _ _ h⟩)
 ·exact .inr h
section
variable {κ:Type}[DecidableEq κ]
def ik(a:List (κ×V))(k:κ):Option V:=(a.find? λb=>decide (b.1=k)).map (·.2)
def putK(a:List (κ×V))(k:κ)(v:V):List (κ×V):=
 if(a.any λb=>decide (b.1=k))=true then a.map (λb=>if b.1=k then(b.1,v) else b) else a++[(k,v)]
theorem uI{p:κ×V}{r:List (κ×V)}{k:κ}(e:p.1=k):ik (p::r) k=some p.2:=by simp[ik,List.find?_cons,e]
theorem uJ{p:κ×V}{r:List (κ×V)}{k:κ}(e:¬p.1=k):ik (p::r) k=ik r k:=by simp[ik,List.find?_cons,e]
theorem Gn(k:κ):∀a:List (κ×V),(a.any λb=>decide (b.1=k))=(ik a k).isSome
 | []=>rfl
 |p::r=>by
  rw[List.any_cons]
  by_cases e:p.1=k
  ·simp only[uI e,zn e,Bool.true_or,Option.isSome_some]
  ·rw[uJ e,zf e,Bool.false_or];exact Gn k r
theorem Gp(a:List (κ×V))(k:κ)(v:V):(putK a k v).length<=a.length+1:=by
 unfold putK
 split
 ·rw[zd];omega
 ·rw[zh,zC,jn];omega
theorem fQ.isSome_eq{o:Option V}{u:Option Value}(r:fQ o u):o.isSome=u.isSome:=by
 cases o with
 |none=>cases u with
  |none=>rfl
  |some _=>exact(show False from r).elim
 |some _=>cases u with
  |none=>exact(show False from r).elim
  |some _=>rfl
theorem fQ.getD{o:Option V}{u:Option Value}{d:V}{d':Value}(r:fQ o u)(a:RelV d d'):RelV (o.getD d) (u.getD d'):=by
 cases o with
 |none=>cases u with
  |none=>exact a
  |some _=>exact(show False from r).elim
 |some _=>cases u with
  |none=>exact(show False from r).elim
  |some _=>exact r
theorem KV.val{a:List (κ×V)}{vs:List (κ×Value)}(r:KV a vs)(k:κ):fQ (ik a k) (valueAt vs k):=by
 unfold KV at r
 induction r with
 |nil=>exact True.intro
 | @cons p q ps qs h t ih =>
  obtain⟨h1,h2⟩:=h
  by_cases e:p.1=k
  ·have e':q.1=k:=h1.symm.trans e
   have b:valueAt (q::qs) k=some q.2:=by simp[valueAt,List.find?_cons,e']
   rw[uI e,b];exact h2
  ·have e':¬q.1=k:=λz=>e (h1.trans z)
   have b:valueAt (q::qs) k=valueAt qs k:=by simp[valueAt,List.find?_cons,e']
   rw[uJ e,b];exact ih
theorem KV.any{a:List (κ×V)}{vs:List (κ×Value)}(r:KV a vs)(k:κ):(a.any λb=>decide (b.1=k))=vs.any λb=>decide (b.1=k):=by
 unfold KV at r
 induction r with
 |nil=>rfl
 |cons h t c=>rw[List.any_cons,List.any_cons,c,h.1]
theorem KV.repl{b:List (κ×V)}{vs:List (κ×Value)}(r:KV b vs)(k:κ){y:V}{u:Value}(c:RelV y u):
  KV (b.map λa=>if a.1=k then(a.1,y) else a) (vs.map λa=>if a.1=k then(a.1,u) else a):=by
 unfold KV at r ⊢
 induction r with
 |nil=>exact .nil
 | @cons p q ps qs h t ih =>
  rw[zl,zl];refine .cons ?_ ih;obtain⟨h1,h2⟩:=h
  by_cases e:p.1=k
  ·rw[if_pos e,if_pos (h1.symm.trans e)];exact⟨h1,c⟩
  ·rw[if_neg e,if_neg (λz=>e (h1.trans z))];exact⟨h1,h2⟩
theorem KV.put{a:List (κ×V)}{vs:List (κ×Value)}(r:KV a vs)(k:κ){y:V}{u:Value}(b:RelV y u):KV (putK a k y) (stored vs k u):=by
 unfold putK stored;rw[r.any k]
 by_cases e:(vs.any λc=>decide (c.1=k))=true
 ·rw[if_pos e,if_pos e];exact r.repl k b
 ·rw[if_neg e,if_neg e];exact Paired.snoc r ⟨rfl,b⟩
theorem KV.length{a:List (κ×V)}{vs:List (κ×Value)}(r:KV a vs):a.length=vs.length:=Paired.length r
end
theorem uK{P:Program}{w:World}{k:Key}{u:Value}(r:RelV (kV k) u):(fZ P w).is k u=true:=by
 cases k with
 |inl i=>obtain⟨t,e⟩:=(show ∃t,u=Value.int i t from r);subst e;exact Ov P w i t
 |inr x=>obtain⟨t,e⟩:=(show ∃t,u=Value.str x t from r);subst e;exact Ox P w x t
theorem Gq{P:Program}{w:World}:∀{ks:List Key}{us:List Value},aX (ks.map kV) us->ItemsAre (fZ P w) ks us
 | [],_,r=>by rw[zQ] at r;cases r;exact .nil
 |k::ks,_,r=>by
  rw[zl] at r
  cases r with
  |cons h t=>exact .cons (uK h) (Gq t)
abbrev KT(H:Hp):List (List Key×V)->List (List Key×Addr×Value)->Prop:=Paired λp q=>p.1=q.1/\H q.2.1=some (.tup (p.1.map kV))/\RelV p.2 q.2.2
theorem KT.val{H:Hp}{a:List (List Key×V)}{xs:List (List Key×Addr×Value)}(r:KT H a xs)(k:List Key):fQ (ik a k) ((atKey xs k).map (·.2)):=by
 induction r with
 |nil=>exact True.intro
 | @cons p q ps qs h t ih =>
  obtain⟨h1,_,h2⟩:=h
  by_cases e:p.1=k
  ·have e':q.1=k:=h1.symm.trans e
   have b:atKey (q::qs) k=some q.2:=by simp[atKey,List.find?_cons,e']
   rw[uI e,b];exact h2
  ·have e':¬q.1=k:=λz=>e (h1.trans z)
   have b:atKey (q::qs) k=atKey qs k:=by simp[atKey,List.find?_cons,e']
   rw[uJ e,b];exact ih
theorem KT.repl{H:Hp}{a:List (List Key×V)}{xs:List (List Key×Addr×Value)}(r:KT H a xs)(k:List Key){y:V}{u:Value}(c:RelV y u):
  KT H (a.map λb=>if b.1=k then(b.1,y) else b) (xs.map (putAt k u)):=by
 induction r with
 |nil=>exact .nil
 | @cons p q ps qs h t ih =>
  rw[zl,zl];refine .cons ?_ ih;obtain⟨h1,h2,h3⟩:=h;unfold putAt
  by_cases e:p.1=k
  ·rw[if_pos e,if_pos (h1.symm.trans e)];exact⟨h1,h2,c⟩
  ·rw[if_neg e,if_neg (λz=>e (h1.trans z))];exact⟨h1,h2,h3⟩
theorem KT.put{H:Hp}{a:List (List Key×V)}{xs:List (List Key×Addr×Value)}(r:KT H a xs)(k:List Key){b:Addr}{y:V}{u:Value}(hb:H b=some (.tup (k.map kV)))(c:RelV y u):
  KT H (putK a k y) (storedH xs k b u):=by
 have e:(a.any λd=>decide (d.1=k))=(atKey xs k).isSome:=by
  rw[Gn,(r.val k).isSome_eq,Option.isSome_map]
 unfold putK storedH;rw[e]
 by_cases q:(atKey xs k).isSome=true
 ·rw[if_pos q,if_pos q];exact r.repl k c
 ·rw[if_neg q,if_neg q];exact Paired.snoc r ⟨rfl,hb,c⟩
theorem KT.keeps{H d:Hp}{a:List (List Key×V)}{xs:List (List Key×Addr×Value)}(r:KT H a xs)(f:∀b c,H b=some (.tup c)->d b=some (.tup c)):KT d a xs :=
 Paired.mapP r λ_ _ z=>⟨z.1,f _ _ z.2.1,z.2.2⟩
section
variable {P:Program}{w:World}{H:Hp}{h:Heap}{a:Addr}
theorem Gs{u:HO}(ok:HOk P w H h)(e:Rd H a u):cW P w H h a u:=e.ok ok
theorem rH{b:List (Key×V)}(ok:HOk P w H h)(e:Rd H a (.dK b)):b.length<=sizeLine/\(a == sysModules)=false/\∃vs,KV b vs/\h.DictOf (fZ P w) a vs :=
 show cW P w H h a (.dK b) from Gs ok e
theorem Tc{b:List (Key×V)}(ok:HOk P w H h)(e:H a=some (.dK b)):b.length<=sizeLine/\(a == sysModules)=false/\∃vs,KV b vs/\h.DictOf (fZ P w) a vs:=rH ok (.inl e)
theorem uL{ks:List Key}(ok:HOk P w H h)(e:H a=some (.tup (ks.map kV))):(tupleKind (fZ P w)).is h ks a:=by
 obtain⟨_,b,r,o,h1,h2,n,h3⟩:=(show cW P w H h a (.tup (ks.map kV)) from ok a _ e);exact⟨o,b.toArray,n,h1,h2,h3,by simpa using Gq r⟩
theorem nD{b:List (List Key×V)}(ok:HOk P w H h)(e:Rd H a (.dT b)):b.length<=sizeLine/\(a == sysModules)=false /\
  ∃xs,KT H b xs/\h.DictOfH (tupleKind (fZ P w)) a xs:=by
 obtain⟨z,y,xs,r,o,f,g,h1,h2,h3,h4,d⟩:=(show cW P w H h a (.dT b) from Gs ok e);refine⟨z,y,xs,r,o,f,g,h1,h2,h3,h4,λx c=>?_,d⟩
 have all:∀{l:List (List Key×V)}{m:List (List Key×Addr×Value)},KT H l m->∀x∈m,(tupleKind (fZ P w)).is h x.1 x.2.1:=by
  intro l m q
  induction q with
  |nil=>intro x c;exact nomatch c
  | @cons p q ps qs hq t ih =>
   intro x c
   rcases zm.mp c with e | c
   ·subst e;exact uL ok (by rw[<-hq.1];exact hq.2.1)
   ·exact ih x c
 exact all r x c
theorem Td{b:List (List Key×V)}(ok:HOk P w H h)(e:H a=some (.dT b)):b.length<=sizeLine/\(a == sysModules)=false /\
  ∃xs,KT H b xs/\h.DictOfH (tupleKind (fZ P w)) a xs:=nD ok (.inl e)
end
def j4(H:Hp)(a:Addr)(y:V)(r:Option V):Prop :=
 (∃c k,Rd H a (.dK c)/\y=kV k/\r=ik c k)\/∃c k b,Rd H a (.dT c)/\y=.ref b/\H b=some (.tup (k.map kV))/\r=ik c k
def rJ(H:Hp)(a:Addr)(y v:V)(d:Hp):Prop :=
 (∃c k,H a=some (.dK c)/\y=kV k/\c.length<sizeLine/\d=upd H a (.dK (putK c k v))) \/
 ∃c k b,H a=some (.dT c)/\y=.ref b/\H b=some (.tup (k.map kV))/\c.length<sizeLine/\d=upd H a (.dT (putK c k v))
theorem j4.t{H:Hp}{a b:Addr}{c:List (List Key×V)}{k:List Key}(e:H a=some (.dT c))(d:H b=some (.tup (k.map kV))):j4 H a (.ref b) (ik c k):=.inr ⟨c,k,b,.inl e,rfl,d,rfl⟩
theorem rJ.t{H:Hp}{a b:Addr}{c:List (List Key×V)}{k:List Key}{v:V}(e:H a=some (.dT c))(f:H b=some (.tup (k.map kV)))(d:c.length<sizeLine):
  rJ H a (.ref b) v (upd H a (.dT (putK c k v))):=.inr ⟨c,k,b,e,rfl,f,d,rfl⟩
section
variable {X:Cx}{pins:List (Addr×Obj)}{σ:St}{H:Hp}{s:Shared}{a:Addr}{y v:V}{u r:Value}{o:Option V}{A:Around}{E:Value->Shared->Prop}
theorem Inv.big(I:Inv X pins σ H s):sysModules<s.heap.objs.size:=by
 have h:mainGlobals<s.heap.objs.size:=(I.mod.glob.keeps I.bk).lt;exact Nat.lt_trans (by decide) h
theorem Te{Q:Value->Shared->Prop}(G:A.units+1<cLine)(I:Inv X pins σ H s)(g:j4 H a y (some v))(x:RelV y u)(h:∀d n,Inv X pins σ H n->RelV v d->Q d n):
  wpAny (model X.prog X.w) A (getItem (.ref a) u) Q E s:=by
 rcases g with⟨j,k,e,f,l⟩ | ⟨j,k,b,e,f,L,l⟩
 ·subst f;obtain⟨z,hd,F,rel,i⟩:=rH I.hok e;obtain⟨d,hw,c⟩:=fQ.some_of (v:=v) (o:=valueAt F k) (by rw[l];exact rel.val k);exact wpAny_getItem_of (uK x) i.mapOf hw (h d _ (I.tok _) c)
 ·subst f;cases(show u=Value.ref b from x);obtain⟨z,hd,B,rel,i⟩:=nD I.hok e;obtain⟨d,hw,c⟩:=fQ.some_of (v:=v) (o:=(atKey B k).map (·.2)) (by rw[l];exact rel.val k);obtain⟨p,J,m⟩:=Option.map_eq_some_iff.mp hw;refine wpAny_getItem_heap (tupleKind_room_in1 G) (uL I.hok L) i J ?_;rw[m];exact h d _ (I.tok _) c
theorem Gu{h':Heap}{t':Nat}{ob:HO}(I:Inv X pins σ H s)(d:Mut (H a))(f:Heap.SameBut a s.heap h')(g:∃q,h'.get? a=some q)(c:cW X.prog X.w (upd H a ob) h' a ob):
  Inv X pins σ (upd H a ob) {s with heap:=h',toks:=t'}:=
 I.write (x:=a) (e:=a) d (.inl rfl) (λb q h z=>(f.2 b h).trans z) g c
theorem Tf{P:Program}{w:World}{d:Hp}{h':Heap}{b:List (Key×V)}{vs:List (Key×Value)}(z:b.length<=sizeLine)(hd:(a == sysModules)=false)(rel:KV b vs)(c:h'.DictOf (fZ P w) a vs):
  cW P w d h' a (.dK b):=⟨z,hd,vs,rel,c⟩
theorem Tg{R:Hp}{Q:Unit->Shared->Prop}(W:A.units+1<cLine)(I:Inv X pins σ H s)(g:rJ H a y v R)(G:RelV y u)(J:RelV v r)(h:∀F,Inv X pins σ R F->Q () F):
  wpAny (model X.prog X.w) A (setItem (.ref a) u r) Q E s:=by
 rcases g with⟨d,k,e,x,l,eH⟩ | ⟨d,k,b,e,x,P,l,eH⟩
 ·subst x eH;obtain⟨z,hd,U,rel,B⟩:=Tc I.hok e
  have j:U.length<=sizeLine:=by rw[<-rel.length];exact z
  have n:(putK d k v).length<=sizeLine:=by have:=Gp d k v;omega
  refine wpAny_setItem_pairs (hsz:=j) (uK G) B λL f m=>h _ ?_
  have Y:∃q,L.get? a=some q:=let ⟨q,_,_,i,_⟩:=f;⟨q,i⟩;exact Gu I (by rw[e];exact True.intro) m Y (Tf n hd (rel.put k J) f)
 ·subst x eH;cases(show u=Value.ref b from G);obtain⟨z,hd,T,rel,B⟩:=Td I.hok e
  have j:T.length<=sizeLine:=by rw[<-Paired.length rel];exact z
  have n:(putK d k v).length<=sizeLine:=by have:=Gp d k v;omega
  refine wpAny_setItem_heap (hsz:=j) (tupleKind_room_in1 W) (uL I.hok P) B λL f m=>h _ ?_
  obtain⟨q,es,ep,i,h2,h3,h4,_,Z⟩:=f;refine Gu I (by rw[e];exact True.intro) m ⟨q,i⟩ ⟨n,hd,_,(rel.put k P J).keeps λc ys O=>?_,q,es,ep,i,h2,h3,h4,Z⟩;rw[aP (ne_of O e (λz=>nomatch z))];exact O
end
section
variable {X:Cx}{pins:List (Addr×Obj)}{σ:St}{H:Hp}{s:Shared}{a:Addr}{kvs:List (Key×V)}{k:Key}{u:Value}{A:Around}{E:Value->Shared->Prop}
end
def Gv(i:Expr):Prop:=∀a b,subscripted i false a b=operate [a,b] (getItem a b)
theorem Th{prog:Program}{w:World}{A:Around}{E:Value->Shared->Prop}{s:Shared}{env:Env}{value slice:Expr}{pos:Pos}{T k:String}{Q:Value->Shared->Prop}
  (m:typeLookup (.type T) "__getitem__" = pure (some (.builtin k))) (l:Gv slice)
  (h:wpAny (model prog w) A (eval value env) (λo d=>wpAny (model prog w) A (eval slice env) (λi a=>a.TypeIs o T/\wpAny (model prog w) A (getItem o i) Q E a) E d) E s):
  wpAny (model prog w) A (eval (.Subscript value slice pos) env) Q E s:=by
 refine Subscript_ (zS h (λo d j=>zS j (λi a b=>?_) λ_ _ x=>x) λ_ _ x=>x);obtain⟨hT,b⟩:=b;unfold subscriptTail;refine za ?_;rw[getitemInPython_of_ne hT.not_modules];refine za (wpAny_specialOf hT m ?_)
 have f:wpAny (model prog w) A (subscripted slice false o i) (λr c=>wpAny (model prog w) A (letTemporaryGo value o r >>= λ_=>pure r) Q E c) E a:=by
  rw[l o i];exact wpAny_operating (zS b (λr c g=>za (wpAny_letTemporaryGo (zb g))) λ_ _ x=>x)
 first
  | exact zb (za f)
  | exact za (zb (za f))
  | exact za f
theorem Ti{X:Cx}{pins:List (Addr×Obj)}{σ:St}{H:Hp}{s:Shared}{a:Addr}{y:V}{o:Option V}(I:Inv X pins σ H s)(g:j4 H a y o):s.TypeIs (.ref a) "dict":=by
 rcases g with⟨d,k,e,_,_⟩ | ⟨d,k,b,e,_,_,_⟩
 ·obtain⟨_,_,h,_,c⟩:=rH I.hok e;exact c.typeIs
 ·obtain⟨_,_,f,_,c⟩:=nD I.hok e;exact c.typeIs
def Tj(c ty:TE):TE:=λσ H Q=>c σ H λx d=>ty σ d λy b=>∃a v,x=.ref a/\j4 b a y (some v)/\Q v b
def Tn(d ty c:TE):TS:=λD σ H=>c σ H λv h=>d σ h λx g=>ty σ g λy f=>∃a b,x=.ref a/\rJ f a y v b/\D.nx σ b
section
variable {X:Cx}{o i e value:Expr}{pos pos' tpos:Pos}{td ty tv:TE}
theorem Gw(c:X.A.units+1<cLine)(f:PE X o td)(hi:PE X i ty)(d:Gv i):PE X (.Subscript o i pos) (Tj td ty):=by
 intro pins s σ H Q I h;refine Th PySem.F.slot_dict_getitem.lookup d (thn (f pins s σ H _ I h) λu s1 ⟨x,H1,I1,rx,q1⟩=>thn (hi pins s1 σ H1 _ I1 q1) λiv s2 ⟨y,H2,I2,ry,a,v,ex,g,q2⟩=>?_);subst ex;obtain rfl:u=Value.ref a:=rx;exact⟨Ti I2 g,Te c I2 g ry λk l j b=>⟨v,H2,j,b,q2⟩⟩
theorem Tp(b:X.A.units+1<cLine)(d:PE X o td)(hi:PE X i ty)(hv:PE X value tv)(c:swapsWith value (some (.Subscript o i pos')) pos.line X.env=pure false):
  PS X (.Assign [.Subscript o i pos'] value pos) (Tn td ty tv):=by
 intro pins s σ H D I h;refine wpAny_Assign_Subscript (thn (hv pins s σ H _ I h) λr s1 ⟨v,H1,I1,rv,q1⟩=>thn (d pins s1 σ H1 _ I1 q1) λu s2 ⟨x,H2,I2,rx,q2⟩=>thn (hi pins s2 σ H2 _ I2 q2) λiv s3 ⟨y,H3,I3,ry,a,H4,ex,g,q3⟩=>?_) c;subst ex;obtain rfl:u=Value.ref a:=rx
 exact Tg b I3 g ry rv λj f=>⟨σ,H4,f,q3⟩
end
theorem Tq{P:Program}{w:World}{H:Hp}(h:Heap)(hb:sysModules<h.objs.size):cW P w H (h.push {cls:=.type "dict",data:=.dict #[]}) h.objs.size (.dT []):=
 ⟨Nat.zero_le _,beq_eq_false_iff_ne.mpr (Ne.symm (zB hb)),[],.nil,_,#[],0,zF _ rfl,⟨rfl,rfl,rfl⟩,rfl,rfl,List.nodup_nil⟩
def Tt:TE:=λ_ H Q=>∀p,H p=none->Q (.ref p) (upd H p (.dT []))
section
variable {X:Cx}{pos:Pos}
theorem Tu:PE X (.Dict [] [] pos) Tt:=λpins s σ H Q I h =>
 wpAny_Dict_empty ⟨.ref s.heap.objs.size,_,I.laid (a:=s.heap.objs.size) (o:=.dT []) (t':=s.toks) (λ_ _ q=>zt _ q) (zc _) (Tq s.heap I.big),rfl,h _ (I.hok.fresh (zc _))⟩
end
def xP:List (TE×TE)->St->Hp->(List (V×V)->Hp->Prop)->Prop
 | [],_,H,Q=>Q [] H
 | (tk,tv)::r,σ,H,Q=>tk σ H λx d=>tv σ d λy c=>xP r σ c λa b=>Q ((x,y)::a) b
abbrev VV:List (V×V)->List (Value×Value)->Prop:=Paired λp q=>RelV p.1 q.1/\RelV p.2 q.2
def PPs(X:Cx)(pos:Pos)(keys:List (Option Expr))(values:List Expr)(a:List (TE×TE)):Prop :=
 ∀(pins:List (Addr×Obj)) (s:Shared) (σ:St) (H:Hp) (Q:List (V×V)->Hp->Prop),Inv X pins σ H s->xP a σ H Q ->
  wpAny (model X.prog X.w) X.A (evalPairs (pairTrees keys values X.env pos)) (λd f=>∃b c,Inv X pins σ c f/\VV b d/\Q b c) X.xe s
structure M1(X:Cx)(o:Expr)(m:Str)(apos:Pos)(e:Expr)(cpos:Pos):Prop where
 base:attributeBase o m X.env (eval o X.env)=eval o X.env
 few:((backTo cpos (starEach [e] X.env)).all (λx=>!x.1)&&(backToKw cpos (keywordEach [] X.env)).all (λx=>x.1.isSome)
  && decide (([e]:List Expr).length+([]:List Keyword).length+(if([]:List Keyword).isEmpty then 0 else 1)<30))=true
 line:(apos.endLine == cpos.line)=true
 trees:backTo cpos (starEach [e] X.env)=[(false,eval e X.env)]
structure M2(X:Cx)(o:Expr)(m:Str)(apos:Pos)(e f:Expr)(cpos:Pos):Prop where
 base:attributeBase o m X.env (eval o X.env)=eval o X.env
 few:((backTo cpos (starEach [e,f] X.env)).all (λx=>!x.1)&&(backToKw cpos (keywordEach [] X.env)).all (λx=>x.1.isSome)
  && decide (([e,f]:List Expr).length+([]:List Keyword).length+(if([]:List Keyword).isEmpty then 0 else 1)<30))=true
 line:(apos.endLine == cpos.line)=true
 trees:backTo cpos (starEach [e,f] X.env)=[(false,eval e X.env),(false,eval f X.env)]
def IsD(H:Hp)(a:Addr):Prop:=(∃b,Rd H a (.dK b))\/∃b,Rd H a (.dT b)
theorem Tv{X:Cx}{pins:List (Addr×Obj)}{σ:St}{H:Hp}{s:Shared}{a:Addr}(I:Inv X pins σ H s)(d:IsD H a):
  s.TypeIs (.ref a) "dict"/\(∀b,Value.ref a=.ref b->∃ob,s.heap.get? b=some ob/\ob.dict=none)/\(a == sysModules)=false:=by
 rcases d with⟨f,e⟩ | ⟨f,e⟩
 ·obtain⟨_,hd,h,_,c⟩:=rH I.hok e;refine⟨c.typeIs,λb q=>?_,hd⟩;cases q;obtain⟨ob,_,_,h1,h2,_⟩:=c;exact⟨ob,h1,h2.2.1⟩
 ·obtain⟨_,hd,g,_,c⟩:=nD I.hok e;refine⟨c.typeIs,λb q=>?_,hd⟩;cases q;obtain⟨ob,_,_,h1,h2,_⟩:=c;exact⟨ob,h1,h2.2.1⟩
section
variable {X:Cx}{pins:List (Addr×Obj)}{σ:St}{H:Hp}{s:Shared}{a:Addr}{y d:V}{u r:Value}{o:Option V}{A:Around}{E:Value->Shared->Prop}
theorem Tw{Q:Value->Shared->Prop}(B:A.units+1<cLine)(I:Inv X pins σ H s)(g:j4 H a y o)(n:RelV y u)(h:∀j m,Inv X pins σ H m->RelV (o.getD .non) j->Q j m):
  wpAny (model X.prog X.w) A (call (.builtin "dict.get") [.ref a,u]) Q E s:=by
 rcases g with⟨i,k,e,f,l⟩ | ⟨i,k,b,e,f,G,l⟩
 ·subst f;obtain⟨z,hd,J,rel,c⟩:=rH I.hok e;refine call_meetsIn PySem.F.slot_dict_get c.typeIs PySem.F.entry_dict_get (PySem.F.args_dict_get_2 _ _) (meets_dict_get (fZ X.prog X.w) a (uK n) hd) ⟨_,c.mapOf,h _ _ (I.tok _) ?_⟩;rw[l];exact(rel.val k).getD rfl
 ·subst f;cases(show u=Value.ref b from n);obtain⟨z,hd,x,rel,c⟩:=nD I.hok e;refine call_meetsIn PySem.F.slot_dict_get c.typeIs PySem.F.entry_dict_get (PySem.F.args_dict_get_2 _ _) (meetsH_dict_get (tupleKind (fZ X.prog X.w)) a b hd) ⟨tupleKind_room_in1 B,k,x,uL I.hok G,c,h _ _ (I.tok _) ?_⟩;rw[l];exact(rel.val k).getD rfl
end
def Tz(d ty:TE):TE:=λσ H Q=>d σ H λx c=>∃a,x=.ref a/\IsD c a/\ty σ c λy b=>∃o,j4 b a y o/\Q (o.getD .non) b
section
variable {X:Cx}{o e f:Expr}{apos cpos:Pos}{td ty tx:TE}
theorem TF(j:X.A.units+1<cLine)(k:PE X o td)(l:PE X e ty)(m:M1 X o "get" apos e cpos):PE X (.Call (.Attribute o "get" apos) [e] [] cpos) (Tz td ty):=by
 intro pins s σ H Q I h;refine wpAny_Call_method m.base m.few m.line PySem.F.plainAttrs_dict PySem.F.slot_dict_get PySem.F.type_dict_get (thn (k pins s σ H _ I h) λu s1 ⟨x,H1,I1,rx,a,ex,d,q1⟩=>?_);subst ex;obtain rfl:u=Value.ref a:=rx;obtain⟨i,c,_⟩:=Tv I1 d;refine⟨i,c,?_⟩;rw[m.trees];refine Calls.callWith_builtin rfl (Calls.evalArgs_plain (Calls.spliced_cons (thn (l pins s1 σ H1 _ I1 q1) λiv s2 ⟨y,H2,I2,ry,ov,g,q2⟩=>Calls.spliced_nil ?_)))
 exact Tw j I2 g ry λz B n b=>⟨_,H2,n,b,q2⟩
end
section
variable {X:Cx}{pins:List (Addr×Obj)}{σ:St}{H:Hp}{s:Shared}{a:Addr}{kvs:List (Key×V)}{A:Around}{E:Value->Shared->Prop}
end
section
variable {X:Cx}{pins:List (Addr×Obj)}{σ:St}{H:Hp}{s:Shared}{a:Addr}{y:V}{u:Value}{A:Around}{E:Value->Shared->Prop}
end
section
variable {X:Cx}
end
section
variable {κ:Type}[DecidableEq κ]
end
def j5(cells:List (Str×Addr)):List (Str×NameKind)->List (Str×Addr)->List (Str×Addr)
 | [],acc=>acc
 | (n,k)::r,acc=>if k == .free then j5 cells r ((n,(cells.lookup n).getD 0)::acc) else j5 cells r acc
def lO(scope:Scope)(env:Env):List (Str×Addr):=j5 env.cells scope.names []
theorem Gx{scope:Scope}{env:Env}(d:∀y∈scope.names,y.2=.free->∃c,env.cells.lookup y.1=some c):closureFor scope env=pure (lO scope env):=by
 simp only[closureFor,lO]
 generalize ([]:List (Str×Addr))=f
 generalize scope.names=names at d
 induction names generalizing f with
 |nil=>rfl
 |cons y r ih =>
  obtain⟨n,k⟩:=y
  have g:=λa=>ih a λz h=>d z (zv _ h)
  by_cases b:k=.free
  ·obtain⟨c,i⟩:=d (n,k) zo b;have hc':env.cells.lookup n=some c:=i;subst b;simp only[List.forIn_cons,beq_self_eq_true,if_true,cellOf,hc',pure_bind,bind_assoc,j5,Option.getD_some];exact g _
  ·have j:(k == NameKind.free)=false:=by simpa using b
   simp only[List.forIn_cons,j,Bool.false_eq_true,if_false,pure_bind,bind_assoc,j5];exact g _
theorem xQ{cells:List (Str×Addr)}{x:Str}{c:Addr}:∀{names:List (Str×NameKind)}{acc:List (Str×Addr)},(j5 cells names acc).lookup x=some c->acc.lookup x=some c\/(∃k,(x,k)∈names/\k=.free/\(cells.lookup x).getD 0=c)
 | [],acc,h=>.inl h
 | (n,k)::r,acc,h=>by
  unfold j5 at h
  by_cases f:k=.free
  ·subst f;simp only[beq_self_eq_true,if_true] at h
   rcases xQ h with z | ⟨k,a,q⟩
   ·rw[List.lookup_cons] at z
    by_cases d:x=n
    ·subst d;simp at z;exact .inr ⟨.free,zo,rfl,z⟩
    ·have b:(x == n)=false:=by simpa using d
     rw[b] at z;exact .inl z
   ·exact .inr ⟨k,zv _ a,q⟩
  ·have b:(k == NameKind.free)=false:=by simpa using f
   simp only[b,Bool.false_eq_true,if_false] at h
   rcases xQ h with z | ⟨k,a,q⟩
   ·exact .inl z
   ·exact .inr ⟨k,zv _ a,q⟩
theorem uM{cells:List (Str×Addr)}{x:Str}:∀{names:List (Str×NameKind)}{acc:List (Str×Addr)},((∃c,acc.lookup x=some c)\/(x,NameKind.free)∈names)->∃c,(j5 cells names acc).lookup x=some c
 | [],acc,h=>by
  rcases h with h | h
  ·exact h
  ·cases h
 | (n,k)::r,acc,h=>by
  unfold j5
  by_cases b:k=.free
  ·subst b;simp only[beq_self_eq_true,if_true];refine uM ?_
   by_cases a:x=n
   ·subst a;exact .inl ⟨(cells.lookup x).getD 0,by simp[List.lookup_cons]⟩
   ·have d:(x == n)=false:=by simpa using a
    rcases h with⟨c,h⟩ | h
    ·exact .inl ⟨c,by rw[List.lookup_cons,d];exact h⟩
    ·rcases zm.mp h with e | h
     ·cases e;exact absurd rfl a
     ·exact .inr h
  ·have d:(k == NameKind.free)=false:=by simpa using b
   simp only[d,Bool.false_eq_true,if_false];refine uM ?_
   rcases h with h | h
   ·exact .inl h
   ·rcases zm.mp h with e | h
    ·cases e;exact absurd rfl b
    ·exact .inr h
def jG(scope a:Scope):List (Str×NameKind):=
 scope.names.map λ(n,k)=>if(k == .free&&a.kind == .function&&a.names.lookup n == some .cell) then(n,.cell) else(n,k)
theorem Gy{scope a:Scope}(g:∀y∈scope.names,y.2≠.cell){x:Str}{k:NameKind}(h:(jG scope a).lookup x=some k)(f:k=.cell\/k=.free):(x,NameKind.free)∈scope.names:=by
 have d:=PySem.mem_of_lookup h;unfold jG at d;obtain⟨⟨n,c⟩,h1,h2⟩:=zL.mp d;dsimp only at h2
 by_cases b:(c == NameKind.free&&a.kind == .function&&a.names.lookup n == some .cell)=true
 ·rw[if_pos b] at h2
  have e:c=.free:=by
   simp only[zu,beq_iff_eq] at b;exact b.1.1
  cases h2;rw[<-e];exact h1
 ·rw[if_neg b] at h2;cases h2
  rcases f with e | e
  ·exact absurd e (g _ h1)
  ·rw[<-e];exact h1
def bQ(a own:List Str)(cap:List Nat):List Str:=own++cap.map λj=>a.getD j (Str.ofString "")
def compSt(own:List Str)(cap:List Nat)(σ:St):St:=own.map (λ_=>none)++cap.map λj=>(σ[j]?).join
def nF(a:Scope)(b:List Str)(scope:Scope)(own:List Str)(cap:List Nat):Bool :=
 (scope.kind == .function)&&scope.names.all (λy=>y.2 != .cell)&&scope.names.all (λy=>y.2 != .local || scope.names.lookup y.1 == some .local) &&
 scope.names.all (λy=>y.2 != .free || a.names.lookup y.1 == some .cell || a.names.lookup y.1 == some .free) &&
 cap.all λj=>decide (j<b.length)&&scope.names.contains (b.getD j (Str.ofString ""),NameKind.free)&&((jG scope a).lookup (b.getD j (Str.ofString "")) == some .cell || (jG scope a).lookup (b.getD j (Str.ofString "")) == some .free)
structure j6(sc0:Scope)(N0:List Str)(scope:Scope)(own:List Str)(cap:List Nat):Prop where
 kind:scope.kind=.function
 nocell:∀y∈scope.names,y.2≠.cell
 names:∀y∈scope.names,y.2=.local->scope.names.lookup y.1=some .local
 free:∀y∈scope.names,y.2=.free->sc0.names.lookup y.1=some .cell\/sc0.names.lookup y.1=some .free
 cap:∀j∈cap,j<N0.length/\(N0.getD j (Str.ofString ""),NameKind.free)∈scope.names/\((jG scope sc0).lookup (N0.getD j (Str.ofString ""))=some .cell\/(jG scope sc0).lookup (N0.getD j (Str.ofString ""))=some .free)
theorem j6.of{d:Scope}{g:List Str}{scope:Scope}{own:List Str}{cap:List Nat}(h:nF d g scope own cap=true):j6 d g scope own cap:=by
 unfold nF at h;simp only[zu,jo,beq_iff_eq,bne_iff_ne,ne_eq,Bool.or_eq_true,decide_eq_true_eq,List.contains_iff_mem] at h;obtain⟨⟨⟨⟨h1,h2⟩,h3⟩,h4⟩,k⟩:=h;refine⟨h1,h2,λy f e=>?_,λy f e=>?_,λj i=>?_⟩
 ·rcases h3 y f with z | z
  ·exact absurd e z
  ·exact z
 ·rcases h4 y f with(z | z) | z
  ·exact absurd e z
  ·exact .inl z
  ·exact .inr z
 ·obtain⟨⟨a,b⟩,c⟩:=k j i;exact⟨a,b,c⟩
def cP(X:Cx)(scope:Scope)(C:Addr)(N':List Str)(s:Shared)(H:Hp)(ex:List Addr):Cx where
 prog:=X.prog
 w:=X.w
 K:=X.K
 mg:=X.mg
 base:=X.base
 A:=X.A
 N:=N'
 s₀:=s
 H₀:=H
 env:=compEnvC scope (lO scope X.env) C X.env
 outer:=X.stack
 stack:=X.stack
 ex:=ex
 fn:=λ_=>false
 calm:=X.calm
 pn:=[]
 xe:=λ_ _=>False
section
variable {X:Cx}
def lQ(X:Cx)(a:List Expr)(t:TT):Prop :=
 ∀(pins:List (Addr×Obj)) (s:Shared) (σ:St) (H:Hp) (Q:Bool->Hp->Prop),Inv X pins σ H s->t σ H Q ->
  wpAny (model X.prog X.w) X.A (forIn a true λc r=>if r=true then do let ok <-isTrue c X.env (eval c X.env);pure (ForInStep.yield ok) else pure (ForInStep.yield r)) (TP X pins σ Q) X.xe s
def TJ:TT:=λ_ H Q=>Q true H
theorem TQ:lQ X [] TJ:=λ_ _ _ H _ I h=>wpAny_tests_nil ⟨H,I,h⟩
theorem TV{c:Expr}{t:TT}(h:PT X c t):lQ X [c] t:=λpins s σ H Q I q=>wpAny_tests_one (h pins s σ H Q I q)
end
def Gz(J:It)(g:TG)(k:TT)(l:TE)(Q:List V->Hp->Prop)(h:St)(z:Hp):Prop :=
 ∃W:Nat->Nat->List V->St->Hp->Prop,(∃m,W 0 m [] h z)/\∀i m c σ H,W i m c σ H ->
  (J.stop i H/\Q c H)\/(J.go i H/\c.length<sizeLine/\∃N:List V->St->Hp->Prop,(∀c f d,N c f d->∃j,j<m/\W (i+1) j c f d)/\∀x d,J.yld i H x d->g x σ d λa u=>k a u λb H3 =>
   if b=true then l a H3 λy n=>N (c++[y]) a n else N c a H3)
def uN(c:TI)(own:List Str)(cap:List Nat)(g:TG)(d:TT)(f:TE):TE:=λσ H Q =>
 c σ H λJ h=>Gz J g d f (λa b=>a.length<=sizeLine/\∀p,b p=none->Q (.ref p) (upd b p (.lst a))) (compSt own cap σ) h
section
variable {prog:Program}{w:World}{A:Around}{R:Result->Shared->Prop}{s:Shared}
theorem TX{y target iter:Expr}{u:List Expr}{scope:Scope}{pos:Pos}{it acc:Value}{env:Env}(I:Nat->Shared->Prop)
  (turn:∀n s,I n s->wpAny (model prog w) A (pyNext it) (λr d=>match r with
   |none=>R (.ok .next) d
   |some v=>wpAny (model prog w) A (letOwnedTupleGo target it v) (λ_ f=>wpAny (model prog w) A (assign target env v) (λ_ j =>
     wpAny (model prog w) A (forIn u true λc r=>if r=true then do let ok <-isTrue c env (eval c env);pure (ForInStep.yield ok) else pure (ForInStep.yield r)) (λok b =>
      if ok=true then wpAny (model prog w) A (eval y env) (λx i =>
       wpAny (model prog w) A (call (.builtin "list.append") [acc,x]) (λ_ g=>∃m,m<n/\I m g) (λ_ _=>False) i) (λ_ _=>False) b
      else ∃m,m<n/\I m b) (λ_ _=>False) j) (λ_ _=>False) f) (λ_ _=>False) d) (λ_ _=>False) s)
  (n:Nat) (h:I n s):
  codeAny (model prog w) A (.compLoop (.ListComp y [⟨target,iter,u,0⟩] scope pos) 0 it acc env) R s:=by
 refine codeAny_loop rfl I (λn s G=>?_) n h;show wpAny _ A ((compTurn (.ListComp y [⟨target,iter,u,0⟩] scope pos) 0 it acc env).onRaise (λx=>do noteFrame x env;theTreesLotGoes x)) _ _ s;refine wpAny_noted ?_;rw[compTurn_list];refine za (wpAny_standAt (za (zS (turn n s G) (λr d l=>?_) λ_ _ a=>a.elim)))
 cases r with
 |none=>exact zb l
 |some v =>
  refine za (zS l (λ_ f z=>?_) λ_ _ a=>a.elim);refine za (zS z (λ_ j F=>za (zS F (λok b k=>?_) λ_ _ a=>a.elim)) λ_ _ a=>a.elim)
  cases ok with
  |false=>exact zb ⟨rfl,k⟩
  |true =>
   exact za (za (zS k (λx i E=>za (zS E (λ_ g B=>zb (zb ⟨rfl,B⟩)) λ_ _ a=>a.elim)) λ_ _ a=>a.elim))
end
section
variable {X:Cx}{pins:List (Addr×Obj)}{σ:St}{s2:Shared}{H2:Hp}{elt tg iter:Expr}{ifs:List Expr}{scope:Scope}{pos:Pos}{g:TG}{tt:TT}{te:TE}{sc0:Scope}{N0 own:List Str}{cap:List Nat}
 {it:Addr}{fp:List Addr}{tn:Nat->Heap->Prop}{J:It}
theorem xR(d:Inv X pins σ H2 s2)(a:X.env.scope=sc0)(ok:j6 sc0 N0 scope own cap):∀y∈scope.names,y.2=.free->∃c,X.env.cells.lookup y.1=some c:=λy b e=>by
 refine d.ok.has y.1 ?_;have q:=ok.free y b e;rw[<-a] at q;exact q
theorem lR(i:Inv X pins σ H2 s2)(a:X.env.scope=sc0)(ok:j6 sc0 N0 scope own cap){x:Str}{c:Addr}(h:(lO scope X.env).lookup x=some c):X.env.cells.lookup x=some c:=by
 rcases xQ h with z | ⟨k,b,d,q⟩
 ·simp at z
 ·obtain⟨f,e⟩:=xR i a ok (x,k) b d;have e':X.env.cells.lookup x=some f:=e;rw[e'] at q;rw[e',<-q];rfl
theorem TY(a:Inv X pins σ H2 s2)(f:X.env.scope=sc0)(ok:j6 sc0 N0 scope own cap)(T:Turn X.prog X.w X.K tg J fp it tn)(j:tn 0 s2.heap)(i:∀b∈fp,gO X pins H2 b)
  (C:Addr) (k:s2.heap.objs.size<=C):(cP X scope C (bQ N0 own cap) s2 H2 fp).Ok:=by
 have lt:∀b∈fp,b<s2.heap.objs.size:=λb d=>by
  obtain⟨o,e,_⟩:=T.obj 0 _ j b d;exact ze e
 have rel:(relabel scope X.env).names=jG scope sc0:=by rw[<-f];rfl
 refine⟨a.ok.mod,ok.kind,a.ok.glob,a.ok.blt,k,λx y c h1 h2=>?_,λx m=>?_,λx c hf _=>absurd hf (by simp[cP]),a.ok.hd,a.ok.frames,.inl rfl,λb d=>⟨?_,λx c h=>?_⟩,a.bs,zH a.ok.bsz a.sz,
  λb o e d=>?_,λb d l=>?_,a.stack,a.stkFree⟩
 ·exact a.ok.inj x y c (lR a f ok h1) (lR a f ok h2)
 ·have hx':(jG scope sc0).lookup x=some .cell\/(jG scope sc0).lookup x=some .free:=by rw[<-rel];exact m
  have n:(x,NameKind.free)∈scope.names:=by
   rcases hx' with q | q
   ·exact Gy ok.nocell q (.inl rfl)
   ·exact Gy ok.nocell q (.inr rfl)
  exact uM (.inr n)
 ·exact zB (zJ (lt b d) k)
 ·exact(i b d).2.2.2.2.1 x c (lR a f ok h)
 ·rcases(i b d).2.2.2.1 with z | z
  ·exact a.ok.noex b o e z
  ·exact absurd (zJ (ze e) (zH a.ok.bsz z)) (zN _)
 ·rcases zm.mp (a.stkSub b l) with z | z
  ·exact(i b d).2.1 z
  ·exact(i b d).2.2.1 z
theorem T3(f:Inv X pins σ H2 s2)(a:X.env.scope=sc0)(I:X.N=N0)(ok:j6 sc0 N0 scope own cap)(T:Turn X.prog X.w X.K tg J fp it tn)(G:tn 0 s2.heap)(Y:∀b∈fp,gO X pins H2 b)
  (C:Addr) (Q:s2.heap.objs.size<=C) {d:Heap}{tk:Nat}{m:Str->Option Value} (k:∀b o,s2.heap.get? b=some o->d.get? b=some o) (H:d.Ns C m):
  Inv (cP X scope C (bQ N0 own cap) s2 H2 fp) [] (compSt own cap σ) H2 {s2 with heap:=d,toks:=tk}:=by
 have rel:(relabel scope X.env).names=jG scope sc0:=by rw[<-a];rfl
 refine⟨TY f a ok T G Y C Q,rfl,f.bare,Un.kept k,⟨m,H,λi x v e1 e2 _=>?_⟩,λx c h=>?_,f.hok.fresh Q,λx c h=>?_,λp R=>absurd (show p∈([]:List (Addr×Obj)) from R) (by simp),f.hok.kept k,?_⟩
 ·have e1':(bQ N0 own cap)[i]?=some x:=e1;unfold bQ at e1';unfold compSt at e2
  by_cases hi:i<own.length
  ·rw[zx (by simpa using hi),zq] at e2
   cases q:own[i]? with
   |none=>rw[q] at e2;cases e2
   |some z=>rw[q] at e2;cases e2
  ·rw[zE (by simpa using hi),zq] at e2;rw[zE (by simpa using hi),zq] at e1';rw[zd] at e2
   cases q:cap[i - own.length]? with
   |none=>rw[q] at e2;cases e2
   |some j =>
    rw[q] at e1' e2;have ex:N0.getD j (Str.ofString "")=x:=zA e1';have n:(σ[j]?).join=some v:=zA e2;obtain⟨P,F,O⟩:=ok.cap j (zD q);rw[ex] at F O
    have Z:X.N[j]?=some x:=by
     rw[I,zj P];rw[zK,zj P] at ex;exact congrArg some ex
    have L:σ[j]?=some (some v):=by
     cases z:σ[j]? with
     |none=>rw[z] at n;cases n
     |some o=>rw[z] at n;cases o with
      |none=>cases n
      |some y=>exact congrArg some n
    have kf:X.env.kindOf x=some .cell\/X.env.kindOf x=some .free:=by
     have z:=ok.free _ F rfl;rw[<-a] at z;exact z
    obtain⟨m0,hn0,U⟩:=f.loc;obtain⟨u,r,l⟩:=U j x v Z L (kf.elim (λz=>.inr (.inl z)) λz=>.inr (.inr z));refine⟨u,r,.inr ⟨?_,?_⟩⟩
    ·show(relabel scope X.env).names.lookup x=_\/(relabel scope X.env).names.lookup x=_;rw[rel];exact O
    ·rcases l with⟨l,_⟩ | ⟨_,c,W,⟨o,E,hd⟩⟩
     ·rcases kf with z | z<;>(rw[z] at l;cases l)
     ·obtain⟨c',B⟩:=uM (cells:=X.env.cells) (names:=scope.names) (acc:=[]) (.inr F);have z:=lR f a ok B;rw[W] at z;cases z;exact⟨c,B,o,k _ _ E,hd⟩
 ·obtain⟨v,o,E,hd⟩:=f.cell x c (lR f a ok h);exact⟨v,o,k _ _ E,hd⟩
 ·exact f.freeC x c (lR f a ok h)
 ·show(compSt own cap σ).length=(bQ N0 own cap).length;unfold compSt bQ;simp
theorem GC{Q:List V->Hp->Prop}{RR:Value->Addr->Result->Shared->Prop}{E:Value->Shared->Prop}(hc:X.calm=true)(I2:Inv X pins σ H2 s2)(hsc:X.env.scope=sc0)(hN0:X.N=N0)(ok:j6 sc0 N0 scope own cap)
  (hg:∀C s H ex,PG (cP X scope C (bQ N0 own cap) s H ex) tg g) (ht:∀C s H ex,lQ (cP X scope C (bQ N0 own cap) s H ex) ifs tt) (he:∀C s H ex,PE (cP X scope C (bQ N0 own cap) s H ex) elt te)
  (T:Turn X.prog X.w X.K tg J fp it tn) (st2:tn 0 s2.heap) (f2:∀b∈fp,gO X pins H2 b) (hW:Gz J g tt te Q (compSt own cap σ) H2)
  (hRR:∀D C oC O F U,Inv X (pins++[(C,oC)]) σ (upd F D (.lst O)) U->(∀h:Heap,h.get? C=some oC->∃m,h.Ns C m)->gO X pins (upd F D (.lst O)) C->F D=none->Q O F->RR (.ref D) C (.ok .next) U)
  (hQsz:∀O F,Q O F->O.length<=sizeLine):
  wpAny (model X.prog X.w) X.A (newList []) (λacc P=>wpAny (model X.prog X.w) X.A (newFunctionEnv scope X.env.globals (lO scope X.env) [] X.env.qual none .none (some X.env)) (λcenv s₄ =>
   codeAny (model X.prog X.w) X.A (.compStart (.ListComp elt [⟨tg,iter,ifs,0⟩] scope pos) 0 (.ref it) acc {cenv with scope:=relabel scope X.env}) (RR acc cenv.locals) s₄) E P) E s2:=by
 refine wpAny_newObj_type (wpAny_newFunctionEnv ok.nocell (by intro y hy;simp at hy) (λY L l=>?_) ok.kind);dsimp only at L l ⊢
 generalize hP2:s2.heap.push {cls:=.type "list",dict:=none,data:=.seq ([]:List Value).toArray}=B at L l ⊢
 have hC:B.objs.size=s2.heap.objs.size+1:=by rw[<-hP2,Heap.size_push]
 have hDC:s2.heap.objs.size≠B.objs.size:=by rw[hC];exact zB (ja _)
 have hCle:s2.heap.objs.size<=B.objs.size:=by rw[hC];exact Nat.le_succ _
 have below:∀b,b<s2.heap.objs.size->b≠B.objs.size/\b≠s2.heap.objs.size:=λb j=>⟨by rw[hC];exact zB (jf j),zB j⟩
 have ltf:∀b∈fp,b<s2.heap.objs.size:=λb j=>by
  obtain⟨o,e,_⟩:=T.obj 0 _ st2 b j;exact ze e
 have old:∀b o,s2.heap.get? b=some o->Y.get? b=some o:=λb o e=>l.extBut b o (below b (ze e)).1 (zt _ (hP2 ▸ zt _ e))
 have hacc:Y.PlainList s2.heap.objs.size #[]:=⟨_,l.extBut _ _ hDC (zt _ (hP2 ▸ zF _ rfl))⟩
 have st₁:tn 0 Y:=T.keep _ _ _ st2 λb _ o e=>old b o e
 have hDno:∀b∈fp,s2.heap.objs.size≠b:=λb j=>(below b (ltf b j)).2.symm
 generalize hXe:cP X scope B.objs.size (bQ N0 own cap) s2 H2 fp=X'
 have loop:∀P:Shared,P = {s2 with heap:=Y,toks:=s2.toks+([]:List (Str×Value)).length} ->
   codeAny (model X.prog X.w) X.A (.compLoop (.ListComp elt [⟨tg,iter,ifs,0⟩] scope pos) 0 (.ref it) (.ref s2.heap.objs.size) (compEnvC scope (lO scope X.env) B.objs.size X.env))
    (RR (.ref s2.heap.objs.size) B.objs.size) P:=by
  rintro P rfl;obtain⟨W,⟨m0,w0⟩,turn⟩:=hW;subst hXe
  have stat:∀{F:Hp}{oD:Obj},(∀b∈fp,F b=none)->∀b∈fp,gO (cP X scope B.objs.size (bQ N0 own cap) s2 H2 fp) [(s2.heap.objs.size,oD)] F b:=λ{F oD} hn b j =>
   ⟨hn b j,(below b (ltf b j)).1,λz=>by
    rcases zm.mp (I2.stkSub b z) with z | z
    ·exact(f2 b j).2.1 z
    ·exact(f2 b j).2.2.1 z,.inl j,λx c h=>(f2 b j).2.2.2.2.1 x c (lR I2 hsc ok h),λp hp=>by
    have e:p=(s2.heap.objs.size,oD):=by simpa [cP] using hp
    rw[e];exact hDno b j⟩
  have notcell:∀x c,(lO scope X.env).lookup x=some c->c≠s2.heap.objs.size:=λx c h z=>by
   obtain⟨v,o,ho,hd⟩:=I2.cell x c (lR I2 hsc ok h);exact absurd (ze ho) (by rw[z];exact zN _)
  have nofs:s2.heap.objs.size∉frs X.stack:=λz=>by
   rcases zm.mp (I2.stkSub _ z) with z | z
   ·exact absurd I2.lt (by rw[z];exact zN _)
   ·exact I2.nofs (zc _) z
  have pinD:∀{G:St}{F:Hp}{U:Shared}{f:Array Value}{k:Nat},Inv (cP X scope B.objs.size (bQ N0 own cap) s2 H2 fp) [] G F U->F s2.heap.objs.size=none ->
    U.heap.get? s2.heap.objs.size=some {cls:=.type "list",data:=.seq f k}->Inv (cP X scope B.objs.size (bQ N0 own cap) s2 H2 fp) [(s2.heap.objs.size,{cls:=.type "list",data:=.seq f k})] G F U :=
   λ{G F U f k} I hn hd=>I.pins_of λp hp=>by
    have e:p=(s2.heap.objs.size,{cls:=.type "list",data:=.seq f k}):=by simpa using hp
    subst e;exact⟨hd,hn,hDC,nofs,λv z=>by cases z⟩
  obtain⟨k0,hk0⟩:=hacc;refine TX (env:=compEnvC scope (lO scope X.env) B.objs.size X.env)
   (λn U=>∃i O f k G F,Inv (cP X scope B.objs.size (bQ N0 own cap) s2 H2 fp) [(s2.heap.objs.size,{cls:=.type "list",data:=.seq f k})] G F U/\tn i U.heap/\(∀b∈fp,F b=none)/\aX O f.toList/\W i n O G F) ?_ m0
   ⟨0,[],#[],k0,_,H2,pinD (T3 I2 hsc hN0 ok T st2 f2 _ hCle old L) (I2.hok.fresh (zc _)) hk0,st₁,λb j=>(f2 b j).1,.nil,w0⟩
  rintro n s3 ⟨i,O,f,k,σ3,H3,I3,st3,fr3,hv,w3⟩
  rcases turn i n O σ3 H3 w3 with⟨stop,qn⟩ | ⟨go,hsz,N,hN,step⟩
  ·refine thn (T.done (cP X scope B.objs.size (bQ N0 own cap) s2 H2 fp) rfl rfl rfl hc i _ s3 σ3 H3 _ I3 (stat fr3) st3 stop) λr s4 ⟨hr,I4⟩=>?_
   subst hr;show RR _ _ (.ok .next) s4;obtain⟨hd4,R,_⟩:=I4.pin (s2.heap.objs.size,{cls:=.type "list",data:=.seq f k}) (by simp[cP]);dsimp only at hd4 R;obtain⟨m4,hns4,_⟩:=id I4.loc;have hns4':s4.heap.Ns B.objs.size m4:=hns4;obtain⟨oC,es,ep,hoC,rC⟩:=id hns4';have cne:B.objs.size≠s2.heap.objs.size:=hDC.symm;have freeC:H3 B.objs.size=none:=I4.free;have Z:gO X pins (upd H3 s2.heap.objs.size (.lst O)) B.objs.size:=I2.fpOk hCle (by rw[aP cne];exact freeC)
   have hlen:O.length=f.size:=by have e:=hv.length;simpa using e
   have I5:Inv X pins σ (upd H3 s2.heap.objs.size (.lst O)) s4:=by
    refine I2.call' (ch:=fp) I4.os ⟨I4.base.keep,I4.base.slot,λb o e n hx=>?_,I4.base.there,λb xs e=>?_,λb o u e=>?_,λb ps e=>?_⟩ (λb u e=>?_) I4.bare λb j=>?_
    ·rw[aP (zB (ze e))];exact I4.base.free b o e n hx
    ·have q:=I4.base.tups b xs e;rw[aP (cG q R)];exact q
    ·have q:=I4.base.frzs b o u e;rw[aP (cG q R)];exact q
    ·obtain⟨more,q⟩:=I4.base.tbls b ps e;exact⟨more,by rw[aP (cG q R)];exact q⟩
    ·by_cases j:b=s2.heap.objs.size
     ·subst j;rw[bW] at e;cases e;exact⟨hQsz O H3 qn,f.toList,k,hv,by simpa using hd4⟩
     ·rw[aP j] at e
      exact(I4.hok b u e).stay (λ_ _ _ q=>q) (λc q=>by rw[aP (cG q R)];exact q) λc xs q=>by rw[aP (cG q R)];exact q
    ·obtain⟨_,a2,_,a4,a5,a6⟩:=f2 b j;exact⟨a4,a2,a5,a6⟩
   refine hRR s2.heap.objs.size B.objs.size oC O H3 s4 (I5.pins_of λp hp=>?_) (λh e=>⟨m4,oC,es,ep,e,rC⟩) Z R qn
   rcases zz.mp hp with z | z
   ·exact I5.pin p (zI _ z)
   ·have e:p=(B.objs.size,oC):=by simpa using z
    subst e
    exact⟨hoC,Z.1,Z.2.1,Z.2.2.1,λv z=>by
     have:=rC.1
     rw[this] at z;cases z⟩
  ·refine thn (T.item (cP X scope B.objs.size (bQ N0 own cap) s2 H2 fp) rfl rfl rfl hc i _ s3 σ3 H3 _ I3 (stat fr3) st3 go) λr s4 ⟨u,hr,h4⟩=>?_
   subst hr
   refine thn h4 λ_ s5 ⟨x,H5,I5,r5,y5,st5,fr5⟩=>?_
   have I5':=I5.pinned (stat fr5) (T.obj _ _ st5)
   refine thn (hg _ _ _ _ _ s5 σ3 H5 x u _ I5' r5 (step x H5 y5)) λ_ s6 ⟨σ6,H6,I6,q6⟩=>?_
   refine thn (ht _ _ _ _ _ s6 σ6 H6 _ I6 q6) λb s7 ⟨H7,I7,q7⟩=>?_
   have keepT:∀{G:St}{F:Hp}{U:Shared},Inv (cP X scope B.objs.size (bQ N0 own cap) s2 H2 fp) ([(s2.heap.objs.size,{cls:=.type "list",data:=.seq f k})]++rn fp s5.heap) G F U->tn (i+1) U.heap/\∀b∈fp,F b=none:=λ{G F U} I'=>by
    refine⟨T.keep _ _ _ st5 λb j o e=>(I'.pin (b,o) (zI _ (zI _ (uA j e)))).1,λb j=>?_⟩;obtain⟨o,e,d⟩:=T.obj _ _ st5 b j;exact(I'.pin (b,o) (zI _ (zI _ (uA j e)))).2.1
   cases b with
   |false =>
    rw[if_neg zp] at q7 ⊢;obtain⟨m',hm,w7⟩:=hN _ _ _ q7;obtain⟨a,b⟩:=keepT I7;exact⟨m',hm,i+1,O,f,k,σ6,H7,I7.unpinned,a,b,hv,w7⟩
   |true =>
    rw[if_pos rfl] at q7 ⊢
    refine thn (he _ _ _ _ _ s7 σ6 H7 _ I7 q7) λv s8 ⟨y,H8,I8,r8,q8⟩=>?_
    obtain⟨m',hm,w8⟩:=hN _ _ _ q8;obtain⟨a,b⟩:=keepT I8;obtain⟨hd8,hn8,_⟩:=I8.pin (s2.heap.objs.size,{cls:=.type "list",data:=.seq f k}) (by simp[cP]);dsimp only at hd8 hn8
    have hl:f.size<=sizeLine:=by
     have e:=hv.length;simp at e;omega
    refine wpAny_list_append_plain (hsz:=hl) ⟨k,hd8⟩ λh9 hl9 hs9=>?_
    obtain⟨k9,hd9⟩:=hl9
    have I8':Inv (cP X scope B.objs.size (bQ N0 own cap) s2 H2 fp) [] σ6 H8 s8:=I8.pins_of λp hp=>absurd hp (by simp)
    have I9:Inv (cP X scope B.objs.size (bQ N0 own cap) s2 H2 fp) [] σ6 H8 {s8 with heap:=h9}:=
     I8'.turned (t':=s8.toks) (it:=s2.heap.objs.size) (λb o j e=>hs9.extBut b o j e) hn8 hDC (.inr (zc _)) notcell (λp hp=>absurd (show p∈([]:List (Addr×Obj)) from hp) (by simp))
    refine⟨m',hm,i+1,O++[y],f.push v,k9,σ6,H8,pinD I9 hn8 hd9,T.keep _ _ _ a λb j o e=>hs9.extBut b o (hDno b j).symm e,b,?_,w8⟩;rw[Array.toList_push];exact hv.append (.cons r8 .nil)
 exact codeAny_compStart_list (loop _ rfl) (T.self _ 0 _ _ _ st₁ (loop _ rfl))
theorem T4{n:TI}(sc0:Scope)(N0 own:List Str)(cap:List Nat)(P:X.calm=true)(hi:PI X tg iter n)
  (L:∀C s H ex,PG (cP X scope C (bQ N0 own cap) s H ex) tg g) (E:∀C s H ex,lQ (cP X scope C (bQ N0 own cap) s H ex) ifs tt) (O:∀C s H ex,PE (cP X scope C (bQ N0 own cap) s H ex) elt te)
  (a:X.env.scope=sc0:=by rfl) (i:X.N=N0:=by rfl) (ok:nF sc0 N0 scope own cap=true:=by decide +kernel) (F:∀x,foldedSetIterable iter X.env x=pure x:=by intro _;rfl):
  PE X (.ListComp elt [⟨tg,iter,ifs,0⟩] scope pos) (uN n own cap g tt te):=by
 intro pins s σ H Q I h;have ok:=j6.of ok;rw[eval_ListComp];refine wpAny_comprehension_free (use:=none) rfl F (Gx (xR I a ok)) ok.kind ok.names (thn (hi pins s σ H _ I h) λxv s1 h1=>thn h1 λitv s2 h2=>?_);obtain⟨it,fp,tn,J,H2,e,I2,T,c,f2,U⟩:=h2;subst e
 refine GC (RR:=λk C=>compPost (model X.prog X.w) X.A X.xe none (EP X pins σ Q) k C) P I2 a i ok L E O T c f2 U (λD C B l y z u f j W q=>?_) λl y q=>q.1
 obtain⟨Y,hCn,_⟩:=u.pin (C,B) (by simp);obtain⟨m,G⟩:=f _ Y;refine⟨m,G,λh' d=>⟨.ref D,upd y D (.lst l),?_,rfl,q.2 D W⟩⟩;obtain⟨f0,f1,f2',f3,f4,Z⟩:=j;exact u.unpinned.turned (t':=z.toks) (it:=C) (λb o R e=>d.extBut b o R e) f0 f1 f3 f4 Z
theorem GD{G:TI}{i:Nat}{x:Str}{pos' a:Pos}(sc0:Scope)(N0 own:List Str)(cap:List Nat)(hN:X.N.Nodup)(P:X.N[i]?=some x)(Z:Loc X.env.scope x)(hc:X.calm=true)(hi:PI X tg iter G)
  (hg:∀C s H ex,PG (cP X scope C (bQ N0 own cap) s H ex) tg g) (R:∀C s H ex,lQ (cP X scope C (bQ N0 own cap) s H ex) ifs tt) (he:∀C s H ex,PE (cP X scope C (bQ N0 own cap) s H ex) elt te)
  (n:swapsWith (.ListComp elt [⟨tg,iter,ifs,0⟩] scope pos) (some (.Name x pos')) a.line X.env=pure true:=by rfl)
  (hf:X.fn x=true\/X.env.scope.names.lookup x=some .local:=by first | exact .inl rfl | exact .inr rfl | assumption)
  (f:X.env.scope=sc0:=by rfl) (z:X.N=N0:=by rfl) (ok:nF sc0 N0 scope own cap=true:=by decide +kernel) (U:∀x,foldedSetIterable iter X.env x=pure x:=by intro _;rfl):
  PS X (.Assign [.Name x pos'] (.ListComp elt [⟨tg,iter,ifs,0⟩] scope pos) a) (rm (uN G own cap g tt te) (q9 i)):=by
 intro pins s σ H D I h;have ok:=j6.of ok;rw[exec_Assign_Name_used _ _ _ _ n];refine za (wpAny_standAt (za ?_));show wpAny _ X.A (do let _ <-comprehension (.ListComp elt [⟨tg,iter,ifs,0⟩] scope pos) scope X.env _ (newList []) false (eval iter X.env) (some (assign (.Name x pos') X.env))) _ _ s
 refine za (zS (wpAny_comprehension_free (use:=some (assign (.Name x pos') X.env)) (Q:=λ_ c=>SP X pins D .next c) rfl U (Gx (xR I f ok)) ok.kind ok.names
  (thn (hi pins s σ H _ I h) λxv s1 h1=>thn h1 λitv s2 h2=>?_)) (λ_ c W=>zb (zb W)) λ_ _ e=>e)
 obtain⟨it,fp,tn,J,H2,e,I2,T,k,f2,hW⟩:=h2;subst e
 refine GC (RR:=λE C=>compPost (model X.prog X.w) X.A X.xe (some (assign (.Name x pos') X.env)) (λ_ c=>SP X pins D .next c) E C) hc I2 f z ok hg R he T k f2 hW (λd C O F L c I' y B hD q=>?_) λF L q=>q.1
 show wpAny _ X.A (assign (.Name x pos') X.env (.ref d)) _ _ _;refine wpAny_assign_Name (xg (v:=.ref d) I' hN P Z rfl (λl j=>?_) hf);obtain⟨hC,hCn,_⟩:=j.pin (C,O) (by simp);obtain⟨m,Y⟩:=y _ hC;refine⟨m,Y,λh' u=>⟨σ.set i (some (.ref d)),upd L d (.lst F),?_,q.2 d hD⟩⟩;obtain⟨f0,f1,f2',f3,f4,f5⟩:=B;exact j.unpinned.turned (t':=l.toks) (it:=C) (λb o hb e=>u.extBut b o hb e) f0 f1 f3 f4 f5
end
def Can(P:Program)(w:World)(K:PySem.W.Frag)(mg:Str->Option Value)(base:Heap)(x:Str)(ps:List Str)(k:Nat)(sp:Sp):Prop :=
 ∃f fd,mg x=some (.ref f)/\PySem.W.keepIn K (.ref f)=true/\Binds K fd ps []/\fc P w K mg base CX0 k f fd ps sp/\∃c b a,K.lookup f=some ⟨c,b,.func fd,a⟩
def Def(K:PySem.W.Frag)(mg:Str->Option Value)(x:Str)(st:Stmt):Prop:=∃f fd,mg x=some (.ref f)/\Fun K x x st f fd
section
variable {P:Program}{w:World}{K:PySem.W.Frag}{mg:Str->Option Value}{base:Heap}
theorem Def.can{x:Str}{st:Stmt}{N ps:List Str}{k:Nat}{sp:Sp}(D:Def K mg x st)(S:cg N ps (bu st))
  (hb:∀(kV d pm:Value) (m:Option Addr) (a ct:Value) (us:List Value),us.length=ps.length->bindArgs (PySem.W.fnOf x x (iK st) (fU st) (bu st) .none kV d pm m a ct) ⟨us,[]⟩=pure (ps.zip us))
  (len:∀vs H Q E,sp vs H Q E->vs.length=ps.length)
  (b:∀(f:Addr) (a:Value) (A:Around) (outer:List Env) (s:Shared) (H:Hp) (vs:List V) (Q:VK) (E:XK),bM k (A.deeper (envOfC x (bu st) s.heap.objs.size f a))->sp vs H Q E ->
   ∃t,PSs (iZ CX0 P w K mg base N x (bu st) f a A outer s H E).nox (fU st) t/\t {nx:=λ_ n=>Q .non n,rt:=Q} (start N vs) H):Can P w K mg base x ps (k+1) sp:=by
 obtain⟨f,fd,l,F⟩:=D;obtain⟨i,g,_,_,_,_,_,_,c,_,lk,_⟩:=F.ex;exact⟨f,fd,l,F.kp,F.binds hb,F.ok S len λa A outer s H vs Q E j h=>b f a A outer s H vs Q E j h,i,g,c,lk⟩
end
section
variable {X:Cx}{k:Nat}{x:Str}{ps:List Str}{sp:Sp}{p pos:Pos}{e:Expr}{es:List Expr}{t:TA}
theorem T5(C:Can X.prog X.w X.K X.mg X.base x ps k sp)(c:bM k X.A)(l:PA X (e::es) t)(h:Gl X x:=by rfl)(b:(x == ("__debug__":Str))=false:=by decide)
  (i:starEach (e::es) X.env=(false,eval e X.env)::starEach es X.env:=by rfl) (a:(backTo pos (starEach es X.env)).any (·.1)=false:=by rfl):
  PE X (.Call (.Name x p) (e::es) [] pos) (xF sp [] E0 t):=by
 obtain⟨f,fd,d,g,j,F,_⟩:=C;exact RC F c h d g j .nil uG l b i a
end
theorem Same.seqT{K:PySem.W.Frag}{H b:Hp}{a:Addr}{xs:List V}(e:Same H b)(h:SqT K H a xs):SqT K b a xs:=by
 rcases h with(h | ⟨o,h⟩) | h
 ·exact .inl (.inl (e _ _ h))
 ·exact .inl (.inr ⟨o,e _ _ h⟩)
 ·exact .inr h
mutual
def Rep(K:PySem.W.Frag)(H:Hp):V->PyData->Prop
 |v,.none=>v=.non
 |v,.bool b=>v=.bl b
 |v,.int i=>v=.int i
 |v,.str x=>v=.str x
 |v,.list ds=>∃a c,v=.ref a/\SqL K H a c/\cZ K H c ds
 |v,.tuple ds=>∃a c,v=.ref a/\SqT K H a c/\cZ K H c ds
 | _,.dict _=>False
def cZ(K:PySem.W.Frag)(H:Hp):List V->List PyData->Prop
 |xs,[]=>xs=[]
 |xs,d::ds=>∃x r,xs=x::r/\Rep K H x d/\cZ K H r ds
end
mutual
theorem Rep.mono{K:PySem.W.Frag}{H f:Hp}(e:Same H f):∀(d:PyData) {v:V},Rep K H v d->Rep K f v d
 | .none,v,h=>by rw[Rep] at h ⊢;exact h
 | .bool b,v,h=>by rw[Rep] at h ⊢;exact h
 | .int i,v,h=>by rw[Rep] at h ⊢;exact h
 | .str x,v,h=>by rw[Rep] at h ⊢;exact h
 | .list ds,v,h=>by
  rw[Rep] at h ⊢;obtain⟨a,c,h1,h2,h3⟩:=h;exact⟨a,c,h1,e.seq h2,cZ.mono e ds h3⟩
 | .tuple ds,v,h=>by
  rw[Rep] at h ⊢;obtain⟨a,c,h1,h2,h3⟩:=h;exact⟨a,c,h1,e.seqT h2,cZ.mono e ds h3⟩
 | .dict _,v,h=>by rw[Rep] at h;exact h.elim
theorem cZ.mono{K:PySem.W.Frag}{H a:Hp}(e:Same H a):∀(ds:List PyData) {xs:List V},cZ K H xs ds->cZ K a xs ds
 | [],xs,h=>by rw[cZ] at h ⊢;exact h
 |d::ds,xs,h=>by
  rw[cZ] at h ⊢;obtain⟨x,r,h1,h2,h3⟩:=h;exact⟨x,r,h1,Rep.mono e d h2,cZ.mono e ds h3⟩
end
theorem cZ.nil{K:PySem.W.Frag}{H:Hp}:cZ K H [] []:=by rw[cZ]
theorem cZ.cons{K:PySem.W.Frag}{H:Hp}{x:V}{xs:List V}{d:PyData}{ds:List PyData}(h:Rep K H x d)(a:cZ K H xs ds):cZ K H (x::xs) (d::ds):=by
 rw[cZ];exact⟨x,xs,rfl,h,a⟩
section
variable {X:Cx}{pins:List (Addr×Obj)}{σ:St}{H:Hp}{s:Shared}
mutual
theorem Rep.reads(I:Inv X pins σ H s):∀(d:PyData) {v:V}{u:Value},Rep X.K H v d->RelV v u->∃k,Reads s.heap u d k
 | .none,v,u,h,r=>by rw[Rep] at h;subst h;cases(show u=.none from r);exact⟨_,.none⟩
 | .bool b,v,u,h,r=>by rw[Rep] at h;subst h;cases(show u=.bool b from r);exact⟨_,.bool b⟩
 | .int i,v,u,h,r=>by rw[Rep] at h;subst h;obtain⟨t,rfl⟩:=(show ∃t,u=.int i t from r);exact⟨_,.int i t⟩
 | .str x,v,u,h,r=>by rw[Rep] at h;subst h;obtain⟨t,rfl⟩:=(show ∃t,u=.str x t from r);exact⟨_,.str x t⟩
 | .list ds,v,u,h,r=>by
  rw[Rep] at h;obtain⟨a,m,rfl,h2,h3⟩:=h;cases(show u=.ref a from r);obtain⟨l,c,f,_⟩:=I.list h2;obtain⟨k,q⟩:=cZ.reads I ds h3 c;obtain⟨o,g,j,n,hd⟩:=f.isList;exact⟨_,.list g j hd (by simpa using q)⟩
 | .tuple ds,v,u,h,r=>by
  rw[Rep] at h;obtain⟨a,m,rfl,h2,h3⟩:=h;cases(show u=.ref a from r);obtain⟨l,c,f,_⟩:=I.tuple h2;obtain⟨k,q⟩:=cZ.reads I ds h3 c;obtain⟨o,g,j,n,hd⟩:=f;exact⟨_,.tuple g j hd (by simpa using q)⟩
 | .dict _,v,u,h,r=>by rw[Rep] at h;exact h.elim
theorem cZ.reads(I:Inv X pins σ H s):∀(ds:List PyData) {xs:List V}{us:List Value},cZ X.K H xs ds->aX xs us->∃a,ReadsAll s.heap us ds a
 | [],xs,us,h,r=>by rw[cZ] at h;subst h;cases r;exact⟨_,.nil⟩
 |d::ds,xs,us,h,r=>by
  rw[cZ] at h;obtain⟨x,rest,rfl,h2,h3⟩:=h
  cases r with
  |cons r1 r2 =>
   obtain⟨a,q⟩:=Rep.reads I d h2 r1;obtain⟨bs,b⟩:=cZ.reads I ds h3 r2;exact⟨_,.cons q b⟩
end
end
def okD(d:PyData):Bool:=d.canLay0&&decide (d.depth<=60)
def xT(K:PySem.W.Frag)(a:Bool):R2:=λx y H Q=>∃d e,Rep K H x d/\Rep K H y e/\okD d=true/\okD e=true/\Q (.bl (if a then !PyData.eqv d e else PyData.eqv d e)) H
section
variable {X:Cx}
theorem T6{k:Nat}(j:bM k X.A):OpR X (compareOp .Eq) (xT X.K false):=by
 intro pins s σ H x y v u Q I f c h;obtain⟨d,e,h1,h2,b,a,q⟩:=h;obtain⟨l,i⟩:=Rep.reads I d h1 f;obtain⟨bs,g⟩:=Rep.reads I e h2 c;unfold okD at b a;simp only[zu,decide_eq_true_eq] at b a;exact SeqAt.compareEq_reads i g b.1 a.1 (by have:=j.units;omega) ⟨.bl _,H,I,rfl,q⟩
theorem GF{k:Nat}(j:bM k X.A):OpR X (compareOp .NotEq) (xT X.K true):=by
 intro pins s σ H x y v u Q I f c h;obtain⟨d,e,h1,h2,b,a,q⟩:=h;obtain⟨l,i⟩:=Rep.reads I d h1 f;obtain⟨bs,g⟩:=Rep.reads I e h2 c;unfold okD at b a;simp only[zu,decide_eq_true_eq] at b a;exact SeqAt.compareNe_reads i g b.1 a.1 (by have:=j.units;omega) ⟨.bl _,H,I,rfl,q⟩
end
def S(l:List Nat):Str:=⟨l.toArray⟩
theorem rK(l:List Nat):(S l).cps.toList=l:=by simp[S]
theorem il(l:List Nat):(S l).length=l.length:=by simp[S,Str.length]
theorem T7(a b:List Nat):S a++S b=S (a++b):=by
 show Str.mk _=Str.mk _;simp[S]
theorem uO{a b:List Nat}(h:S a=S b):a=b:=by have:=congrArg (λx:Str=>x.cps.toList) h;simpa [rK] using this
section
variable {X:Cx}
theorem T8:OpR X (compareOp .LtE) (λx y H Q=>∃i j,x=.str i/\y=.str j/\Q (.bl (!decide (j.cps.toList<i.cps.toList))) H):=by
 intro pins s σ H x y v u Q I b a h;obtain⟨i,j,rfl,rfl,q⟩:=h;obtain⟨t,rfl⟩:=b;obtain⟨c,rfl⟩:=a;exact P.le_str ⟨.bl _,H,I,rfl,q⟩
def Its(l:List Nat):It:=⟨λi _=>i<l.length,λi H x a=>a=H/\∃c,l[i]?=some c/\x=.str (S [c]),λi _=>l.length<=i⟩
theorem T9{P:Program}{w:World}{K:PySem.W.Frag}{tg:Expr}(l:List Nat)(it:Addr)(t:Tok):Turn P w K tg (Its l) [it] it (λi h=>h.IsStrIter it "str_ascii_iterator" (S l) t i) where
 mem:=by simp
 obj:=λi h st b hb=>by
  have e:b=it:=by simpa using hb
  subst e;obtain⟨o,e,c,d⟩:=st;exact⟨o,e,λv z=>by rw[d] at z;cases z⟩
 keep:=λi h h' st k=>let ⟨o,ho,r⟩:=st;⟨o,k it (by simp) o ho,r⟩
 item:=by
  intro X hP hw hK hc i pins s σ H E I hf st hg;subst hP hw hK;obtain⟨f0,f1,f2,f3,f4,f5⟩:=hf it (by simp);have hg':i<l.length:=hg
  refine wpAny_pyNext_ascii_item st (c:=l[i]) (by simp[S,hg']) λh' st' sb=>?_
  have I1:Inv X pins σ H {s with heap:=h',toks:=s.toks+1}:=I.turned (λb o hb e=>(sb.2 b hb).trans e) f0 f1 f3 f4 f5;obtain⟨o,e,c,d⟩:=id st';exact⟨_,rfl,ph (s:={s with heap:=h',toks:=s.toks+1}) e c d (by decide) ⟨.str (S [l[i]]),H,I1,⟨_,rfl⟩,⟨rfl,l[i],by simp[hg'],rfl⟩,st',λb hb=>(hf b hb).1⟩⟩
 done:=by
  intro X hP hw hK hc i pins s σ H E I hf st hg;subst hP hw hK;obtain⟨f0,f1,f2,f3,f4,f5⟩:=hf it (by simp);have hg':l.length<=i:=hg
  exact wpAny_pyNext_ascii_end (I.ok.hd hc) st (by simp[S,hg']) λh' eb=>⟨rfl,I.turned (t':=s.toks) (λb o hb e=>eb b o hb e) f0 f1 f3 f4 f5⟩
 self:=λ_ _ _ _ _ st h=>wpAny_pyIter_striter_ascii st h
def ascii(l:List Nat):Bool:=l.all (· < 128)
def Ua(tl:TE):TI:=λσ H R=>tl σ H λx a=>∃l,x=.str (S l)/\ascii l=true/\R (Its l) a
theorem Ub{a e:Expr}{tl:TE}(c:PE X e tl):PI X a e (Ua tl):=by
 intro pins s σ H R I h
 refine thn (c pins s σ H _ I h) λv s1 ⟨x,H1,I1,r1,q1⟩=>?_
 obtain⟨l,e,f,q⟩:=q1;subst e;obtain⟨t,rfl⟩:=r1;refine wpAny_pyIter_ascii (by simpa [S,ascii] using f) ?_;refine⟨s1.heap.objs.size,[s1.heap.objs.size],_,_,H1,rfl,I1.kept (t':=s1.toks) λb o e=>zt _ e,T9 l _ t,⟨_,zF _ rfl,rfl,rfl⟩,λb d=>?_,q⟩
 have e:b=s1.heap.objs.size:=by simpa using d
 subst e;exact I1.fpOk (zc _) (I1.hok.fresh (zc _))
theorem Uc(R:X.calm=true):iH X (.builtin "sum") (λxs H Q=>∃(a:Addr) (ns:List Int),xs=[.ref a]/\SqL X.K H a (ns.map V.int)/\(∀n∈ns,0<=n/\n<=1000000)/\ns.length<=1000000/\Q (.int ns.sum) H):=by
 intro pins s σ H xs Y Q I r h;obtain⟨a,ns,rfl,T,E,W,q⟩:=h;obtain⟨u,rfl,f⟩:=vals1 r;cases f;obtain⟨c,m,p,Z⟩:=I.list T;have l:a≠s.heap.objs.size:=zB (ze p.isList.choose_spec.1)
 have O:c.length=ns.length:=by have:=m.length;rw[zd] at this;exact this.symm
 have pre:∀j,j<=ns.length->preSum (λi=>ns.getD i 0) j=(ns.take j).sum/\0<=preSum (λi=>ns.getD i 0) j/\preSum (λi=>ns.getD i 0) j<=(j:Int) * 1000000:=by
  intro j
  induction j with
  |zero=>intro _;simp[preSum]
  |succ j ih =>
   intro B;obtain⟨e,J,G⟩:=ih (by omega)
   have hj':j<ns.length:=by omega
   have L:=E ns[j] (zW hj')
   have g:ns.getD j 0=ns[j]:=by rw[zK,zj hj'];rfl
   have U:preSum (λi=>ns.getD i 0) (j+1)=preSum (λi=>ns.getD i 0) j+ns[j]:=by
    rw[<-g];rfl
   refine⟨?_,by omega,by omega⟩;rw[U,e,List.take_succ_eq_append_getElem hj',List.sum_append];simp
 refine call_sum_walk (wpAny_pyIter_list p.isList ?_)
 refine⟨s.heap.objs.size,_,_,c.toArray.size,_,_,λi=>ns.getD i 0,rfl,Walks.list (A:=X.A.in1) (I.ok.hd R) s.heap.objs.size a l c.toArray,
  ⟨⟨_,zF _ rfl,rfl,rfl⟩,p.isList.at λo e=>zt _ e⟩,λb d=>?_,λi v x=>?_,λj B=>?_,λh' tk F P=>?_⟩
 ·have k:({s with heap:=s.heap.push {cls:=.type "list_iterator",data:=.fields #[.ref a,.int 0 0]}}:Shared).heap.objs.size=s.heap.objs.size+1:=Heap.size_push ..;rw[k]
  have z:b=s.heap.objs.size\/b=a:=by simpa using d
  have ha':a<s.heap.objs.size:=ze p.isList.choose_spec.1
  rcases z with z | z
  ·rw[z];exact ja _
  ·rw[z];exact jf ha'
 ·have hi:i<c.length:=by
   have z:=Array.getElem?_eq_some_iff.mp x;simpa using z.1
  have d:(ns.map V.int)[i]?=some (V.int (ns.getD i 0)):=by
   rw[zq,zj (by omega),zK,zj (by omega)];rfl
  obtain⟨u,y,f⟩:=m.get d
  have hv':c[i]?=some v:=by simpa using x
  rw[hv'] at y;cases y;exact f
 ·rw[zr] at B
  have hj':j<ns.length:=by omega
  have L:=E ns[j] (zW hj')
  have g:ns.getD j 0=ns[j]:=by rw[zK,zj hj'];rfl
  obtain⟨_,J,G⟩:=pre (j+1) (by omega);unfold InLong;dsimp only;rw[g]
  constructor<;>constructor<;>omega
 ·obtain⟨e,_,_⟩:=pre ns.length (zc _);rw[List.take_length] at e;refine⟨.int ns.sum,H,I.kept λb o e=>P b o (λz=>?_) (zt _ e),⟨F,?_⟩,q⟩
  ·have z':b=s.heap.objs.size:=by simpa using z
   exact absurd (ze e) (by rw[z'];exact zN _)
  ·rw[zr,O,e]
end
structure Blt(mg:Str->Option Value):Prop where
 len_:mg "len" = none
 isinstance_:mg "isinstance" = none
 all_:mg "all" = none
 sum_:mg "sum" = none
 max_:mg "max" = none
 min_:mg "min" = none
 int_:mg "int" = none
 str_:mg "str" = none
 bool_:mg "bool" = none
 list_:mg "list" = none
 tuple_:mg "tuple" = none
 dict_:mg "dict" = none
 range_:mg "range" = none
 enumerate_:mg "enumerate" = none
 zip_:mg "zip" = none
section
variable {X:Cx}
theorem Ud{x:Str}{v:V}{pos:Pos}(h:∃u,X.mg x=some u/\RelV v u)(b:Gl X x:=by rfl)(hd:(x == ("__debug__":Str))=false:=by decide):PE X (.Name x pos) (tC v):=by
 obtain⟨u,a,r⟩:=h;exact Pb b a r hd
end
def fD{α:Type}(l:List α)(lo hi:Option Int):List α:=(l.drop (HT.sIx l.length 0 lo)).take (HT.sIx l.length l.length hi - HT.sIx l.length 0 lo)
theorem GJ(l:List Nat)(lo hi:Option Int):Txt.slice (S l) lo hi=S (fD l lo hi):=by
 obtain⟨h1,h2,h3⟩:=Gj lo hi l.length
 have e:Builtin.Str.strSliceIndices lo hi 1 (S l).length=(List.range (HT.sIx l.length l.length hi - HT.sIx l.length 0 lo)).map (HT.sIx l.length 0 lo + ·):=by
  rw[il];show sliceRange (sliceBounds lo hi none l.length).1 (sliceBounds lo hi none l.length).2.1 (sliceBounds lo hi none l.length).2.2=_;rw[h1,h2,h3,sliceRange_one]
 unfold Txt.slice;rw[e,pick_run,rK]
 split
 ·rename_i h
  have c:HT.sIx l.length l.length hi - HT.sIx l.length 0 lo=l.length:=by simpa [il] using h
  have b:HT.sIx l.length l.length hi<=l.length:=HT.sIx_le _ _ (zc _) hi;have a:HT.sIx l.length 0 lo<=l.length:=HT.sIx_le _ _ (Nat.zero_le _) lo
  have h0:HT.sIx l.length 0 lo=0:=by omega
  have h1:HT.sIx l.length l.length hi=l.length:=by omega
  unfold fD;rw[h0,h1];simp
 ·rfl
section
variable {X:Cx}
def Ue:V->Option Int->Option Int->Hp->VK->Prop:=λx lo hi H Q=>∃l,x=.str (S l)/\l.length<=sizeLine/\Q (.str (S (fD l lo hi))) H
theorem part_of{v:Value}{o:Option Int}(p:IsPart v o):∃q:Option (Int×Tok),v=partValue q/\q.map (·.1)=o:=by
 cases p with
 |none=>exact⟨none,rfl,rfl⟩
 |int i t=>exact⟨some (i,t),rfl,rfl⟩
theorem Ug:SlR X Ue:=by
 intro pins s σ H x v vl y lo hi sl Q I c j g pu h;obtain⟨l,rfl,i,q⟩:=h;obtain⟨t,rfl⟩:=c;obtain⟨f,rfl,n⟩:=part_of g;obtain⟨d,rfl,m⟩:=part_of pu;refine⟨"str",_,F.slot_str_getitem.lookup,typeIs_str _ _ _,?_⟩;refine wpAny_getItem_str_slice (l:=f) (u:=d) (st:=none) j rfl ?_;have key:(if((1:Int) == 1&&(Builtin.Str.strSliceIndices lo hi 1 (S l).length).length == (S l).length)=true then S l else⟨((Builtin.Str.strSliceIndices lo hi 1 (S l).length).filterMap ((S l).cps[·]?)).toArray⟩)=S (fD l lo hi):=GJ l lo hi;unfold sliceMade slicePicked;rw[n,m];refine post_val_or_str ⟨?_,λa k=>?_⟩
 ·show(Txt.slice (S l) lo hi).length<=_;exact zH (Txt.slice_le _ _ _) (by rw[il];exact i)
 ·have b:=GJ l lo hi;unfold Txt.slice at b;show EP X pins σ Q (.str (if((1:Int) == 1&&(Builtin.Str.strSliceIndices lo hi 1 (S l).length).length == (S l).length)=true then S l else⟨((Builtin.Str.strSliceIndices lo hi 1 (S l).length).filterMap ((S l).cps[·]?)).toArray⟩) a) {s with toks:=k};rw[b];exact⟨.str _,H,I.tok k,⟨a,rfl⟩,q⟩
end
namespace HT2
theorem getItem_tuple_whole{prog:Program}{w:World}{A:Around}{E:Value->Shared->Prop}{s:Shared}{t sl:Addr}{items:Array Value}{vl j:Value}{lo hi:Option Int}{Q:Value->Shared->Prop}(a:IsTup s.heap t items)(k:s.heap.IsSliceOf sl vl j .none)(pl:IsPart vl lo)(pu:IsPart j hi)
  (hw:HT.sIx items.size 0 lo=0/\HT.sIx items.size items.size hi=items.size) (h:Q (.ref t) s):wpAny (model prog w) A (getItem (.ref t) (.ref sl)) Q E s:=by
 obtain⟨os,d,g,n⟩:=id k;have i:s.TypeIs (.ref sl) "slice":=⟨os,d,g⟩;unfold getItem
 try with_reducible refine zO ?_
 first | refine za (zb ?_) | skip
 refine za (wpAny_sequenceKey a.typeIs (by decide) ?_)
 refine za (wpAny_callSpecial?_slot (name:=Str.ofString "__getitem__") a.typeIs PyProof.Rows.slot_tuple_getitem
  (wpAny_call_entry PyProof.Rows.slot_tuple_getitem a.typeIs entry_tuple_getitem ?_ (args_tuple_getitem _ _)))
 show wpAny _ _ (Builtin.Tuple.tupleItemsOf (.ref t) >>= _) _ _ s;refine za (tupleItemsOf_ a ?_);refine za (wpAny_typeOf i ?_);rw[if_pos (by decide)];refine za (HT.sliceApplied_gen k pl pu ?_)
 have b:(((HT.sIx items.size 0 lo:Nat):Int) == 0&&(1:Int) == 1&&(HT.sIx items.size items.size hi - HT.sIx items.size 0 lo) == items.size)=true:=by
  rw[hw.1,hw.2];simp
 show wpAny _ _ (if(((HT.sIx items.size 0 lo:Nat):Int) == 0&&(1:Int) == 1&&(HT.sIx items.size items.size hi - HT.sIx items.size 0 lo) == items.size)=true then _ else _) _ _ s;rw[if_pos b]
 have f:∀{m:Around}{l:Value->Shared->Prop}{c:Bool->Shared->Prop},c true s->wpAny (model prog w) m (Builtin.Tuple.tupleIsExact (.ref t)) c l s:=λ{m l c} hq=>by
  unfold Builtin.Tuple.tupleIsExact;exact za (wpAny_typeOf a.typeIs (zb hq))
 refine za (f ?_);rw[if_pos rfl];exact za (wpAny_rule (zb ⟨_,rfl,zb h⟩))
end HT2
section
variable {X:Cx}
def Uh(K:PySem.W.Frag):V->Option Int->Option Int->Hp->VK->Prop:=λx lo hi H Q=>∃a b,x=.ref a/\SqT K H a b /\
 ((HT.sIx b.length 0 lo=0/\HT.sIx b.length b.length hi=b.length)->Q (.ref a) H)/\(¬(HT.sIx b.length 0 lo=0/\HT.sIx b.length b.length hi=b.length)->∀p,H p=none->Q (.ref p) (upd H p (.tup (j0 b lo hi))))
theorem Ui(K:PySem.W.Frag)(n:X.K=K:=by rfl):SlR X (Uh K):=by
 subst n;intro pins s σ H x v vl k lo hi sl Q I d j f pu h;obtain⟨a,b,rfl,g,m,l⟩:=h
 by_cases hw:HT.sIx b.length 0 lo=0/\HT.sIx b.length b.length hi=b.length
 ·cases d;obtain⟨c,r,i,u⟩:=I.tuple g
  have hlen:c.toArray.size=b.length:=by rw[zr];exact r.length.symm
  exact⟨"tuple",_,PyProof.Rows.slot_tuple_getitem.lookup,i.typeIs,HT2.getItem_tuple_whole i j f pu (by rw[hlen];exact hw) ⟨.ref a,H,I,rfl,m hw⟩⟩
 ·exact R3 pins s σ H _ v vl k lo hi sl Q I d j f pu ⟨a,b,rfl,g,hw,l hw⟩
inductive TyQ (K:PySem.W.Frag) (H:Hp):V->String->Prop where
 | non:TyQ K H .non "NoneType"
 | bl (x:Bool):TyQ K H (.bl x) "bool"
 | int (i:Int):TyQ K H (.int i) "int"
 | str (x:Str):TyQ K H (.str x) "str"
 | lst {a:Addr}{xs:List V} (e:SqL K H a xs):TyQ K H (.ref a) "list"
 | tup {a:Addr}{xs:List V} (e:SqT K H a xs):TyQ K H (.ref a) "tuple"
 | dK {a:Addr}{kvs:List (Key×V)} (e:H a=some (.dK kvs)):TyQ K H (.ref a) "dict"
def Uj(K:PySem.W.Frag):List V->Hp->VK->Prop:=λa H Q=>∃x n t b,a=[x,.ty n]/\TyQ K H x t/\PySem.W.kitOne K (.type t) (.type n)=some b/\Q (.bl b) H
theorem Uk(K:PySem.W.Frag)(B:X.K=K:=by rfl):iH X (.builtin "isinstance") (Uj K):=by
 subst B;intro pins s σ H l E Q I r h;obtain⟨x,n,t,b,rfl,ty,e,q⟩:=h;obtain⟨u,c,rfl,f,m⟩:=vals2 r;cases(show c=.type n from m)
 have d:∀tk,EP X pins σ Q (.bool b) {s with toks:=tk}:=λtk=>⟨.bl b,H,I.tok tk,rfl,q⟩
 cases ty with
 |non=>exact rE I f .non e d
 |bl y=>exact rE I f (.bl y) e d
 |int i=>exact rE I f (.int i) e d
 |str y=>exact rE I f (.str y) e d
 | @lst a l ea =>
  cases(show u=Value.ref a from f);obtain⟨k,_,p,_⟩:=I.list ea;obtain⟨o,g,j,_⟩:=p.isList;exact PySem.W.kia_one PySem.W.kitx_list I.kIn ⟨o,g,j⟩ e (λz=>nomatch z) d
 | @tup a l ea =>
  cases(show u=Value.ref a from f);obtain⟨k,_,p,_⟩:=I.tuple ea;obtain⟨o,g,j,_⟩:=p;exact PySem.W.kia_one PySem.W.kitx_tuple I.kIn ⟨o,g,j⟩ e (λz=>nomatch z) d
 | @dK a kvs ea=>exact rE I f (.dK ea) e d
theorem GK(K:PySem.W.Frag)(n:String):PySem.W.kitOne K (.type n) (.type n)=some true:=by
 unfold PySem.W.kitOne;rw[if_pos (beq_self_eq_true _)]
end
theorem GP:∀{ds:List PyData},(∀d∈ds,d.canLay0=true)->PyData.canLayAll0 ds=true
 | [],_=>rfl
 |d::ds,h=>by rw[PyData.canLayAll0,h d zo,GP λx a=>h x (zv _ a)];rfl
theorem uP{n:Nat}:∀{ds:List PyData},(∀d∈ds,d.depth<=n)->PyData.depthAll ds<=n
 | [],_=>by rw[PyData.depthAll];exact Nat.zero_le _
 |d::ds,h=>by
  rw[PyData.depthAll];exact Nat.max_le.mpr ⟨h d zo,uP λx a=>h x (zv _ a)⟩
theorem Ul{n:Nat}(a:n<60){ds:List PyData}(h:∀d∈ds,d.canLay0=true/\d.depth<=n):okD (.list ds)=true:=by
 unfold okD;rw[zu];refine⟨?_,zn ?_⟩
 ·show PyData.canLayAll0 ds=true
  exact GP λd hd=>(h d hd).1
 ·show PyData.depthAll ds+1<=60
  have:=uP λd hd=>(h d hd).2
  omega
section
variable {X:Cx}
def Um:R2:=λx y H Q=>∃(l:List Nat) (n:Int),x=.str (S l)/\y=.int n/\-1000000<n/\n<1000000/\l.length * n.toNat<=16777216/\Q (.str (S (List.replicate n.toNat l).flatten)) H
theorem GQ(l:List Nat):∀(n:Nat) (a:Array Nat),(List.replicate n (S l).cps).foldl (· ++ ·) a=a++(List.replicate n l).flatten.toArray
 | 0,a=>by simp
 |n+1,a=>by
  rw[List.replicate_succ,List.foldl_cons,GQ l n,List.replicate_succ,List.flatten_cons];simp[S]
theorem Uo:OpR X (binaryOp .Mult) Um:=by
 intro pins s σ H x y v u Q I c b h;obtain⟨l,n,rfl,rfl,h1,h2,h3,q⟩:=h;obtain⟨t,rfl⟩:=c;obtain⟨k,rfl⟩:=b;have m:sizeLine=16777216:=sizeLine_eq
 by_cases g:n<1
 ·have j:n.toNat=0:=by omega
  rw[j] at q;exact P.mul_str_none g (by omega) ⟨.str (S []),H,I.tok _,⟨s.toks,rfl⟩,q⟩
 refine P.mul_str ?_ (λ_ _=>?_) (λ_ _=>?_) ?_
 ·rw[zf (by omega),zf (by omega)];rfl
 ·rw[il];intro d
  have h4:(l.length:Int) * n<=16777216:=by
   have:((l.length * n.toNat:Nat):Int)<=16777216:=by omega
   rw[Int.natCast_mul,Int.toNat_of_nonneg (by omega)] at this;exact this
  have i:(2 ^ 63 - 1) / n<(l.length:Int):=d;have B:=(Int.ediv_lt_iff_lt_mul (show 0<n by omega)).mp i;omega
 ·rw[il];unfold Builtin.Str.tooLong;exact zf (by omega)
 ·rw[if_neg (by omega)]
  by_cases a:(n == 1 || (S l).length == 0)=true
  ·rw[if_pos a]
   have e:(List.replicate n.toNat l).flatten=l:=by
    rw[Bool.or_eq_true,beq_iff_eq,beq_iff_eq,il] at a
    rcases a with z | z
    ·rw[z];show(List.replicate 1 l).flatten=l;simp
    ·have z':=List.eq_nil_of_length_eq_zero z;subst z';rw[List.flatten_eq_nil_iff];intro x f;exact(List.mem_replicate.mp f).2
   rw[e] at q;exact⟨.str (S l),H,I,⟨t,rfl⟩,q⟩
  ·rw[if_neg a,GQ];refine⟨?_,.str (S (List.replicate n.toNat l).flatten),H,I.tok _,⟨s.toks,?_⟩,q⟩
   ·show(#[]++(List.replicate n.toNat l).flatten.toArray).size<=sizeLine;simp only[Array.size_append,zr,List.length_flatten,List.map_replicate,List.sum_replicate_nat];simp;rw[Nat.mul_comm];omega
   ·congr 1;simp[S]
end
inductive D where
 | non | bl (b:Bool) | int (i:Int) | str (l:List Nat) | lst (ds:List D) | tup (ds:List D) | dic (ks vs:List D) | ob (n:Nat)
inductive Ob where
 | ins (c:Str) (fs:List (Str×D))
 | ml (ds:List D)
 | dt (kvs:List (List Key×D))
 | df (kvs:List (List Key×D))
abbrev au:=List Ob
abbrev aA:=List (Option D)
structure Xc where
 cls:Str
 fs:List (Str×D)
inductive Res (α:Type) where
 | ok (a:α) (O:au) | ex (x:Xc) (O:au) | no
inductive Fl where
 | nx (ρ:aA) (O:au) | rt (d:D) (O:au) | bk (ρ:aA) (O:au) | ct (ρ:aA) (O:au) | ex (x:Xc) (O:au) | no
abbrev M(α:Type):=aA->au->Res α
abbrev MS:=aA->au->Fl
def Res.bind{α β:Type}(r:Res α)(f:α->au->Res β):Res β:=match r with
 | .ok a O=>f a O
 | .ex x O=>.ex x O
 | .no=>.no
theorem Res.bind_ok{α β:Type}{r:Res α}{f:α->au->Res β}{b:β}{c:au}(h:r.bind f=.ok b c):∃a O,r=.ok a O/\f a O=.ok b c:=by
 cases r with
 |ok a O=>exact⟨a,O,rfl,h⟩
 |ex x O=>cases h
 |no=>cases h
def xU:Expr->Bool
 | .Starred _ _=>false
 | _=>true
theorem cQ{e:Expr}{a:List Expr}{env:Env}(h:xU e=true):starEach (e::a) env=(false,eval e env)::starEach a env:=by
 cases e<;>first | rfl | cases h
theorem fj{pos:Pos}{env:Env}:∀{a:List Expr},a.all xU=true->(backTo pos (starEach a env)).any (·.1)=false
 | [],_=>by simp[starEach,backTo]
 |e::a,h=>by
  rw[List.all_cons,zu] at h;rw[cQ h.1];show(false || (backTo pos (starEach a env)).any (·.1))=false;rw[fj h.2];rfl
theorem j7{e:Expr}{env:Env}(h:xU e=true):starEach [e] env=[(false,eval e env)]:=by rw[cQ h];simp[starEach]
abbrev Frag:=PySem.W.Frag
def uQ:Key->D
 | .inl i=>.int i
 | .inr x=>.str x.cps.toList
def RdK(K:Frag)(H:Hp)(a:Addr)(xs:List V):Prop:=Rd H a (.lst xs)\/∃(b:List Value) (n:Nat),K.lookup a=some {cls:=.type "list",data:=.seq b.toArray n}/\b.length<=sizeLine/\aX xs b
theorem RdK.sq{K:Frag}{H:Hp}{a:Addr}{xs:List V}(h:RdK K H a xs):SqL K H a xs:=by
 rcases h with h | ⟨b,n,h1,h2,h3⟩
 ·exact .inl h
 ·exact .inr ⟨_,b.toArray,n,h1,rfl,rfl,rfl,by simpa using h2,by simpa using h3⟩
theorem RdK.ok{X:Cx}{pins:List (Addr×Obj)}{σ:St}{H:Hp}{s:Shared}{a:Addr}{xs:List V}(h:RdK X.K H a xs)(I:Inv X pins σ H s):xs.length<=sizeLine/\∃(its:List Value) (n:Nat),aX xs its/\s.heap.get? a=some {cls:=.type "list",data:=.seq its.toArray n}:=by
 rcases h with h | ⟨its,n,h1,h2,h3⟩
 ·exact h.ok I.hok
 ·exact⟨by rw[h3.length];exact h2,its,n,h3,I.kIn a _ h1⟩
def TqT(K:Frag)(F:Hp)(a:Addr)(xs:List V):Prop :=
 F a=some (.tup xs)\/∃(o:Obj) (b:Array Value) (n:Nat),K.lookup a=some o/\o.cls=.type "tuple"/\o.data=.seq b n/\b.size<=sizeLine/\aX xs b.toList
theorem TqT.sq{K:Frag}{F:Hp}{a:Addr}{xs:List V}(h:TqT K F a xs):SqT K F a xs:=h.imp .inl id
mutual
def Rp(K:Frag)(F:Hp)(f:List Addr):V->D->Prop
 |v,.non=>v=.non
 |v,.bl b=>v=.bl b
 |v,.int i=>v=.int i
 |v,.str l=>v=.str (S l)
 |v,.lst ds=>∃a d,v=.ref a/\RdK K F a d/\Rps K F f d ds
 |v,.tup ds=>∃a d,v=.ref a/\TqT K F a d/\Rps K F f d ds
 |v,.dic ks vs=>∃(a:Addr) (c:List (Key×V)),v=.ref a/\F a=some (.dK c)/\ks=c.map (λp=>uQ p.1)/\Rps K F f (c.map (·.2)) vs
 |v,.ob n=>∃a,v=.ref a/\f[n]?=some a
def Rps(K:Frag)(F:Hp)(a:List Addr):List V->List D->Prop
 |xs,[]=>xs=[]
 |xs,d::ds=>∃x r,xs=x::r/\Rp K F a x d/\Rps K F a r ds
end
section
variable {K:Frag}{F F':Hp}{as as':List Addr}
theorem Rd.mono{H b:Hp}{a:Addr}{u:HO}(e:Same H b)(h:Rd H a u):Rd b a u:=by
 rcases h with h | ⟨o,h⟩
 ·exact .inl (e _ _ h)
 ·exact .inr ⟨o,e _ _ h⟩
theorem RdK.mono{H b:Hp}{a:Addr}{xs:List V}(e:Same H b)(h:RdK K H a xs):RdK K b a xs:=h.imp (λz=>z.mono e) id
mutual
theorem Rp.mono(e:Same F F')(c:∀(n:Nat) (a:Addr),as[n]?=some a->as'[n]?=some a):∀(d:D) {v:V},Rp K F as v d->Rp K F' as' v d
 | .non,v,h=>by rw[Rp] at h ⊢;exact h
 | .bl b,v,h=>by rw[Rp] at h ⊢;exact h
 | .int i,v,h=>by rw[Rp] at h ⊢;exact h
 | .str x,v,h=>by rw[Rp] at h ⊢;exact h
 | .lst ds,v,h=>by
  rw[Rp] at h ⊢;obtain⟨a,f,h1,h2,h3⟩:=h;exact⟨a,f,h1,h2.mono e,Rps.mono e c ds h3⟩
 | .tup ds,v,h=>by
  rw[Rp] at h ⊢;obtain⟨a,f,h1,h2,h3⟩:=h;exact⟨a,f,h1,h2.imp (e _ _) id,Rps.mono e c ds h3⟩
 | .dic ks vs,v,h=>by
  rw[Rp] at h ⊢;obtain⟨a,g,h1,h2,h3,h4⟩:=h;exact⟨a,g,h1,e _ _ h2,h3,Rps.mono e c vs h4⟩
 | .ob n,v,h=>by
  rw[Rp] at h ⊢;obtain⟨a,h1,h2⟩:=h;exact⟨a,h1,c _ _ h2⟩
theorem Rps.mono(e:Same F F')(b:∀(n:Nat) (a:Addr),as[n]?=some a->as'[n]?=some a):∀(ds:List D) {xs:List V},Rps K F as xs ds->Rps K F' as' xs ds
 | [],xs,h=>by rw[Rps] at h ⊢;exact h
 |d::ds,xs,h=>by
  rw[Rps] at h ⊢;obtain⟨x,r,h1,h2,h3⟩:=h;exact⟨x,r,h1,Rp.mono e b d h2,Rps.mono e b ds h3⟩
end
theorem Rp.non:Rp K F as .non .non:=by rw[Rp]
theorem Rp.bl{b:Bool}:Rp K F as (.bl b) (.bl b):=by rw[Rp]
theorem Rp.int{i:Int}:Rp K F as (.int i) (.int i):=by rw[Rp]
theorem Rp.str{l:List Nat}:Rp K F as (.str (S l)) (.str l):=by rw[Rp]
theorem Rp.unN{v:V}(h:Rp K F as v .non):v=.non:=by rw[Rp] at h;exact h
theorem Rp.unB{v:V}{b:Bool}(h:Rp K F as v (.bl b)):v=.bl b:=by rw[Rp] at h;exact h
theorem Rp.unI{v:V}{i:Int}(h:Rp K F as v (.int i)):v=.int i:=by rw[Rp] at h;exact h
theorem Rp.unS{v:V}{l:List Nat}(h:Rp K F as v (.str l)):v=.str (S l):=by rw[Rp] at h;exact h
theorem Rp.unL{v:V}{ds:List D}(h:Rp K F as v (.lst ds)):∃a xs,v=.ref a/\RdK K F a xs/\Rps K F as xs ds:=by rw[Rp] at h;exact h
theorem Rp.unT'{v:V}{ds:List D}(h:Rp K F as v (.tup ds)):∃a xs,v=.ref a/\TqT K F a xs/\Rps K F as xs ds:=by rw[Rp] at h;exact h
theorem Rp.unT{v:V}{ds:List D}(h:Rp K F as v (.tup ds)):∃a xs,v=.ref a/\SqT K F a xs/\Rps K F as xs ds:=let ⟨a,xs,e,h1,h2⟩:=h.unT';⟨a,xs,e,h1.sq,h2⟩
theorem Rp.unO{v:V}{n:Nat}(h:Rp K F as v (.ob n)):∃a,v=.ref a/\as[n]?=some a:=by rw[Rp] at h;exact h
theorem Rp.unD{v:V}{ks vs:List D}(h:Rp K F as v (.dic ks vs)):∃(a:Addr) (b:List (Key×V)),v=.ref a/\F a=some (.dK b)/\ks=b.map (λp=>uQ p.1)/\Rps K F as (b.map (·.2)) vs:=by rw[Rp] at h;exact h
theorem Rp.mkL{a:Addr}{xs:List V}{ds:List D}(h:RdK K F a xs)(b:Rps K F as xs ds):Rp K F as (.ref a) (.lst ds):=by rw[Rp];exact⟨a,xs,rfl,h,b⟩
theorem Rp.mkT{a:Addr}{xs:List V}{ds:List D}(h:TqT K F a xs)(b:Rps K F as xs ds):Rp K F as (.ref a) (.tup ds):=by rw[Rp];exact⟨a,xs,rfl,h,b⟩
theorem Rp.mkO{a:Addr}{n:Nat}(h:as[n]?=some a):Rp K F as (.ref a) (.ob n):=by rw[Rp];exact⟨a,rfl,h⟩
theorem Rps.nil:Rps K F as [] []:=by rw[Rps]
theorem Rps.cons{x:V}{xs:List V}{d:D}{ds:List D}(h:Rp K F as x d)(a:Rps K F as xs ds):Rps K F as (x::xs) (d::ds):=by
 rw[Rps];exact⟨x,xs,rfl,h,a⟩
theorem Rps.un{xs:List V}{d:D}{ds:List D}(h:Rps K F as xs (d::ds)):∃x r,xs=x::r/\Rp K F as x d/\Rps K F as r ds:=by rw[Rps] at h;exact h
theorem Rps.un0{xs:List V}(h:Rps K F as xs []):xs=[]:=by rw[Rps] at h;exact h
theorem Rps.length:∀{ds:List D}{xs:List V},Rps K F as xs ds->xs.length=ds.length
 | [],xs,h=>by rw[h.un0];rfl
 |d::ds,xs,h=>by
  obtain⟨x,r,rfl,_,h3⟩:=h.un;simp[Rps.length h3]
theorem Rps.get:∀{ds:List D}{xs:List V}{i:Nat}{x:V},Rps K F as xs ds->xs[i]?=some x->∃d,ds[i]?=some d/\Rp K F as x d
 | [],xs,i,x,h,e=>by rw[h.un0] at e;simp at e
 |d::ds,xs,i,x,h,e=>by
  obtain⟨y,r,rfl,h2,h3⟩:=h.un
  cases i with
  |zero=>simp at e;subst e;exact⟨d,rfl,h2⟩
  |succ i =>
   obtain⟨b,a,q⟩:=Rps.get (i:=i) (x:=x) h3 (by simpa using e);exact⟨b,by simpa using a,q⟩
theorem Rps.get':∀{ds:List D}{xs:List V}{i:Nat}{d:D},Rps K F as xs ds->ds[i]?=some d->∃x,xs[i]?=some x/\Rp K F as x d:=by
 intro ds xs i d h e;have b:=h.length
 have hi:i<xs.length:=by rw[b];exact(zg.mp e).1
 obtain⟨c,a,q⟩:=h.get (zj hi);rw[e] at a;cases a;exact⟨_,zj hi,q⟩
theorem Rps.append{a:List V}{c:List D}(b:Rps K F as a c):∀{ds:List D}{xs:List V},Rps K F as xs ds->Rps K F as (xs++a) (ds++c)
 | [],xs,h=>by rw[h.un0];exact b
 |e::ds,xs,h=>by
  obtain⟨y,r,rfl,h2,h3⟩:=h.un;exact Rps.cons h2 (Rps.append b h3)
theorem Rps.snoc{x:V}{d:D}{ds:List D}{xs:List V}(h:Rps K F as xs ds)(a:Rp K F as x d):Rps K F as (xs++[x]) (ds++[d]):=Rps.append (Rps.cons a Rps.nil) h
theorem Rps.take:∀{ds:List D}{xs:List V} (n:Nat),Rps K F as xs ds->Rps K F as (xs.take n) (ds.take n)
 | _,_,0,_=>by simpa using Rps.nil
 | [],xs,n+1,h=>by rw[h.un0];simpa using Rps.nil
 |d::ds,xs,n+1,h=>by
  obtain⟨y,r,rfl,h2,h3⟩:=h.un;exact Rps.cons h2 (Rps.take n h3)
theorem Rps.drop:∀{ds:List D}{xs:List V} (n:Nat),Rps K F as xs ds->Rps K F as (xs.drop n) (ds.drop n)
 | _,_,0,h=>by simpa using h
 | [],xs,n+1,h=>by rw[h.un0];simpa using Rps.nil
 |d::ds,xs,n+1,h=>by
  obtain⟨y,r,rfl,h2,h3⟩:=h.un;exact Rps.drop n h3
theorem Rps.set:∀{ds:List D}{xs:List V}{x:V}{d:D} (n:Nat),Rps K F as xs ds->Rp K F as x d->Rps K F as (xs.set n x) (ds.set n d)
 | [],xs,x,d,n,h,_=>by rw[h.un0];simpa using Rps.nil
 |e::ds,xs,x,d,0,h,hx=>by
  obtain⟨y,r,rfl,h2,h3⟩:=h.un;exact Rps.cons hx h3
 |e::ds,xs,x,d,n+1,h,hx=>by
  obtain⟨y,r,rfl,h2,h3⟩:=h.un;exact Rps.cons h2 (Rps.set n h3 hx)
theorem Rps.rep{ds:List D}{xs:List V}(h:Rps K F as xs ds):∀n:Nat,Rps K F as (List.replicate n xs).flatten (List.replicate n ds).flatten
 | 0=>by simpa using Rps.nil
 |n+1=>by
  rw[List.replicate_succ,List.replicate_succ,List.flatten_cons,List.flatten_cons];exact Rps.append (Rps.rep h n) h
end
def isD:HO->Bool
 | .ins _ _ _=>false
 | .own _=>false
 | .xd _=>false
 | _=>true
def isL:HO->Bool
 | .lst _=>true
 | .dK _=>true
 | _=>false
theorem GR{o:HO}(h:isL o=true):isD o=true:=by
 cases o<;>first | rfl | cases h
structure Gr(H F:Hp)(as:List Addr)(H' F':Hp)(as':List Addr):Prop where
 fz:∀a o,H a=some o->a∉as->isL o=true->F' a=F a
 ff:Same F F'
 nw:∃new,as'=as++new/\∀a∈new,H a=none
 fr:∀a o,H a=some o->a∉as->isD o=true->H' a=some o
 dm:∀a,H' a=none->H a=none
 kz:∀a o u,H a=some (.frz o u)->H' a=some (.frz o u)
structure Pt where
 p:Addr->Prop
 ss:List (Nat×V×D)
instance:CoeFun Pt (λ_=>Addr->Prop):=⟨Pt.p⟩
def Pt.all(H:Hp):Pt:=⟨λa=>H a≠none,[]⟩
structure GrS(P:Pt)(H F:Hp)(as:List Addr)(H' F':Hp)(as':List Addr):Prop where
 fz:∀a o,P a->H a=some o->a∉as->isL o=true->F' a=F a
 ff:Same F F'
 nw:∃new,as'=as++new/\∀a∈new,H a=none
 fr:∀a o,P a->H a=some o->a∉as->isD o=true->H' a=some o
 dm:∀a,H' a=none->H a=none
 kz:∀a o u,H a=some (.frz o u)->H' a=some (.frz o u)
section
variable {H F H' F' H2 F2:Hp}{as as' as2:List Addr}{P:Pt}
theorem Gr.refl:Gr H F as H F as:=⟨λ_ _ _ _ _=>rfl,Same.refl F,⟨[],by simp,λ_ h=>nomatch h⟩,λ_ _ h _ _=>h,λ_ h=>h,λ_ _ _ h=>h⟩
theorem Gr.trans(a:Gr H F as H' F' as')(b:Gr H' F' as' H2 F2 as2):Gr H F as H2 F2 as2:=by
 obtain⟨j,g,h1⟩:=a.nw;obtain⟨i,k,h2⟩:=b.nw;refine⟨λc o f d hd=>?_,a.ff.trans b.ff,⟨j++i,by rw[k,g,zP],λc f=>?_⟩,λc o e d hd=>?_,λc h=>a.dm c (b.dm c h),λc o u h=>b.kz c o u (a.kz c o u h)⟩
 ·have q:=a.fr c o f d (GR hd);refine(b.fz c o q ?_ hd).trans (a.fz c o f d hd);rw[g];intro z
  rcases zz.mp z with z | z
  ·exact d z
  ·rw[h1 c z] at f;cases f
 ·rcases zz.mp f with z | z
  ·exact h1 c z
  ·exact a.dm c (h2 c z)
 ·have q:=a.fr c o e d hd;refine b.fr c o q ?_ hd;rw[g];intro z
  rcases zz.mp z with z | z
  ·exact d z
  ·rw[h1 c z] at e;cases e
theorem Gr.toS(a:Gr H F as H' F' as'):GrS P H F as H' F' as':=⟨λc o _=>a.fz c o,a.ff,a.nw,λc o _ e b hd=>a.fr c o e b hd,a.dm,a.kz⟩
theorem GrS.refl:GrS P H F as H F as:=Gr.refl.toS
theorem GrS.trans(a:GrS P H F as H' F' as')(b:GrS P H' F' as' H2 F2 as2):GrS P H F as H2 F2 as2:=by
 obtain⟨j,g,h1⟩:=a.nw;obtain⟨i,k,h2⟩:=b.nw;refine⟨λc o p f d hd=>?_,a.ff.trans b.ff,⟨j++i,by rw[k,g,zP],λc f=>?_⟩,λc o p e d hd=>?_,λc h=>a.dm c (b.dm c h),λc o u h=>b.kz c o u (a.kz c o u h)⟩
 ·have q:=a.fr c o p f d (GR hd);refine(b.fz c o p q ?_ hd).trans (a.fz c o p f d hd);rw[g];intro z
  rcases zz.mp z with z | z
  ·exact d z
  ·rw[h1 c z] at f;cases f
 ·rcases zz.mp f with z | z
  ·exact h1 c z
  ·exact a.dm c (h2 c z)
 ·have q:=a.fr c o p e d hd;refine b.fr c o p q ?_ hd;rw[g];intro z
  rcases zz.mp z with z | z
  ·exact d z
  ·rw[h1 c z] at e;cases e
theorem GrS.gr(a:GrS (Pt.all H) H F as H' F' as'):Gr H F as H' F' as':=⟨λc o e=>a.fz c o (show H c≠none by rw[e];exact λz=>nomatch z) e,a.ff,a.nw,λc o e=>a.fr c o (show H c≠none by rw[e];exact λz=>nomatch z) e,a.dm,a.kz⟩
theorem Gr.at_(a:Gr H F as H' F' as'):∀(n:Nat) (c:Addr),as[n]?=some c->as'[n]?=some c:=λn c h=>by
 obtain⟨b,e,_⟩:=a.nw;rw[e,zx (zg.mp h).1];exact h
theorem GrS.at_(a:GrS P H F as H' F' as'):∀(n:Nat) (c:Addr),as[n]?=some c->as'[n]?=some c:=λn c h=>by
 obtain⟨b,e,_⟩:=a.nw;rw[e,zx (zg.mp h).1];exact h
theorem Gr.out(a:Gr H F as H' F' as'){c:Addr}(h:c∉as)(e:H c≠none):c∉as':=by
 obtain⟨d,b,h1⟩:=a.nw;rw[b];intro z
 rcases zz.mp z with z | z
 ·exact h z
 ·exact e (h1 c z)
theorem Rp.gr{K:Frag}{v:V}{d:D}(h:Rp K F as v d)(a:Gr H F as H' F' as'):Rp K F' as' v d:=Rp.mono a.ff a.at_ d h
theorem Rps.gr{K:Frag}{v:List V}{d:List D}(h:Rps K F as v d)(a:Gr H F as H' F' as'):Rps K F' as' v d:=Rps.mono a.ff a.at_ d h
theorem Rp.grS{K:Frag}{v:V}{d:D}(h:Rp K F as v d)(a:GrS P H F as H' F' as'):Rp K F' as' v d:=Rp.mono a.ff a.at_ d h
end
structure FsR(K:Frag)(F:Hp)(as:List Addr)(gs:List (Str×V))(fs:List (Str×D)):Prop where
 nm:gs.map (·.1)=fs.map (·.1)
 vl:Rps K F as (gs.map (·.2)) (fs.map (·.2))
def ObR(K:Frag)(mg:Str->Option Value)(H F:Hp)(d:List Addr)(a:Addr):Ob->Prop
 | .ins c fs=>∃C g f,mg c=some (.ref C)/\H a=some (.ins C g f)/\FsR K F d f fs
 | .ml ds=>∃b,H a=some (.lst b)/\Rps K F d b ds
 | .dt kvs=>∃b:List (List Key×V),H a=some (.dT b)/\b.map (·.1)=kvs.map (·.1)/\Rps K F d (b.map (·.2)) (kvs.map (·.2))
 | .df kvs=>∃(o:Obj) (b:List (List Key×V)),H a=some (.frz o (.dT b))/\b.map (·.1)=kvs.map (·.1)/\Rps K F d (b.map (·.2)) (kvs.map (·.2))
structure RlO(K:Frag)(mg:Str->Option Value)(O:au)(H F:Hp)(as:List Addr):Prop where
 fh:Same F H
 fd:∀a o,F a=some o->isD o=true
 nd:as.Nodup
 len:as.length=O.length
 fa:∀a∈as,F a=none
 ob:∀(n:Nat) (a:Addr) (o:Ob),as[n]?=some a->O[n]?=some o->ObR K mg H F as a o
inductive Md where
 | v | s | o
 deriving DecidableEq
def j8:D->Bool
 | .lst _=>false
 | _=>true
def jq(P:Pt)(K:Frag)(H F:Hp)(b:List Addr):Md->V->D->Prop
 | .v,v,d=>Rp K F b v d
 | .s,v,d=>Rp K F b v d\/∃a c f,v=.ref a/\d=.lst f/\H a=some (.lst c)/\a∉b/\P a/\Rps K F b c f
 | .o,v,d=>(j8 d=true/\Rp K F b v d)\/∃a c f,v=.ref a/\d=.lst f/\H a=some (.lst c)/\F a=none/\a∉b/\¬P a/\Rps K F b c f
structure SlO(K:Frag)(md:List Md)(P:Pt)(ρ:aA)(σ:St)(H F:Hp)(as:List Addr):Prop where
 len:σ.length=md.length
 len':ρ.length=md.length
 pd:∀a,P a->H a≠none
 sl:∀(i:Nat) (m:Md) (d:D),md[i]?=some m->ρ[i]?=some (some d)->∃v,σ[i]?=some (some v)/\jq P K H F as m v d
 inj:∀(i j:Nat) (a:Addr) (ds es:List D),md[i]?=some .o->md[j]?=some .o->ρ[i]?=some (some (.lst ds))->ρ[j]?=some (some (.lst es))->σ[i]?=some (some (.ref a))->σ[j]?=some (some (.ref a))->i=j
 pin:∀x∈P.ss,md[x.1]?=some .s/\ρ[x.1]?=some (some x.2.2)/\σ[x.1]?=some (some x.2.1)
section
variable {K:Frag}{mg:Str->Option Value}{md:List Md}{P:Pt}{ρ:aA}{σ:St}{H F H' F':Hp}{as as':List Addr}{O O':au}
theorem jq.step{m:Md}{v:V}{d:D}(h:jq P K H F as m v d)(g:Gr H F as H' F' as'):jq P K H' F' as' m v d:=by
 cases m with
 |v=>exact Rp.gr (show Rp K F as v d from h) g
 |s =>
  rcases h with h | ⟨a,f,n,l,k,c,b,j,i⟩
  ·exact .inl (h.gr g)
  ·exact .inr ⟨a,f,n,l,k,g.fr _ _ c b rfl,g.out b (by rw[c];exact λz=>nomatch z),j,i.gr g⟩
 |o =>
  rcases h with⟨h1,h⟩ | ⟨a,f,n,l,k,c,x,b,j,i⟩
  ·exact .inl ⟨h1,h.gr g⟩
  ·have u:H a≠none:=by rw[c];exact λz=>nomatch z
   exact .inr ⟨a,f,n,l,k,g.fr _ _ c b rfl,by rw[g.fz a _ c b rfl];exact x,g.out b u,j,i.gr g⟩
theorem SlO.step(h:SlO K md P ρ σ H F as)(g:Gr H F as H' F' as'):SlO K md P ρ σ H' F' as' :=
 ⟨h.len,h.len',λa p z=>h.pd a p (g.dm a z),λi m d c b=>let ⟨v,q,r⟩:=h.sl i m d c b;⟨v,q,r.step g⟩,h.inj,h.pin⟩
end
def Sv(K:Frag)(H F:Hp)(b:List Addr)(v:V)(d:D):Prop :=
 Rp K F b v d\/∃a c f,v=.ref a/\d=.lst f/\H a=some (.lst c)/\a∉b/\Rps K F b c f
def Lk(K:Frag)(H F:Hp)(f:List Addr)(v:V)(d:D):Prop :=
 Rp K F f v d\/∃a b c,v=.ref a/\d=.lst c/\H a=some (.lst b)/\Rps K F f b c
def Ow(K:Frag)(N:Addr->Prop)(H F:Hp)(b:List Addr)(v:V)(d:D):Prop :=
 (j8 d=true/\Rp K F b v d)\/∃a c f,v=.ref a/\d=.lst f/\H a=some (.lst c)/\F a=none/\a∉b/\N a/\Rps K F b c f
def bw(O:au)(d:D):D:=match d with
 | .ob n=>match O[n]? with
  |some (.ml ds)=>.lst ds
  | _=>.ob n
 |d=>d
section
variable {K:Frag}{mg:Str->Option Value}{H0 H F H' F':Hp}{as as':List Addr}{O:au}{v:V}{d:D}
theorem Sv.gr(h:Sv K H F as v d)(g:Gr H F as H' F' as'):Sv K H' F' as' v d:=by
 rcases h with h | ⟨a,f,l,k,j,c,b,i⟩
 ·exact .inl (h.gr g)
 ·exact .inr ⟨a,f,l,k,j,g.fr _ _ c b rfl,g.out b (by rw[c];exact λz=>nomatch z),i.gr g⟩
theorem Sv.lk(h:Sv K H F as v d)(r:RlO K mg O H F as):Lk K H F as v (bw O d):=by
 rcases h with h | ⟨a,b,c,rfl,rfl,i,l,g⟩
 ·cases d with
  |ob n =>
   obtain⟨a,rfl,f⟩:=h.unO;unfold bw;dsimp only
   split
   ·rename_i c e;obtain⟨b,k,j⟩:=r.ob n a _ f e;exact .inr ⟨a,b,c,rfl,rfl,k,j⟩
   ·exact .inl (Rp.mkO f)
  | _=>exact .inl h
 ·exact .inr ⟨a,b,c,rfl,rfl,i,g⟩
theorem Lk.list{ds:List D}(h:Lk K H F as v (.lst ds))(fh:Same F H):∃a xs,v=.ref a/\RdK K H a xs/\Rps K F as xs ds:=by
 rcases h with h | ⟨a,xs,i,g,f,c,b⟩
 ·obtain⟨a,xs,e,h1,h2⟩:=h.unL;exact⟨a,xs,e,h1.mono fh,h2⟩
 ·cases f;exact⟨a,xs,g,.inl (.inl c),b⟩
theorem Lk.rp(h:Lk K H F as v d)(b:j8 d=true):Rp K F as v d:=by
 rcases h with h | ⟨a,f,c,j,rfl,i,g⟩
 ·exact h
 ·cases b
theorem Sv.rp(h:Sv K H F as v d)(b:j8 d=true):Rp K F as v d:=by
 rcases h with h | ⟨a,f,c,j,rfl,i,g⟩
 ·exact h
 ·cases b
theorem Ow.sv{N:Addr->Prop}(h:Ow K N H F as v d):Sv K H F as v d:=by
 rcases h with⟨_,h⟩ | ⟨a,b,k,j,i,g,m,f,l,c⟩
 ·exact .inl h
 ·exact .inr ⟨a,b,k,j,i,g,f,c⟩
theorem Gr.lay{p:Addr}{o:HO}(b:H p=none):Gr H F as (upd H p o) F as :=
 ⟨λ_ _ _ _ _=>rfl,Same.refl F,⟨[],by simp,λ_ h=>nomatch h⟩,λa c e _ _=>by rw[aP (cG e b)];exact e,λa e=>by
  by_cases h:a=p
  ·subst h;exact b
  ·rwa [aP h] at e,λa c u e=>by rw[aP (cG e b)];exact e⟩
theorem ObR.keep{a:Addr}{o:Ob}(h:ObR K mg H F as a o)(f:H' a=H a)(e:Same F F')(g:∀(n:Nat) (a:Addr),as[n]?=some a->as'[n]?=some a):ObR K mg H' F' as' a o:=by
 cases o with
 |ins c fs =>
  obtain⟨C,j,i,h1,h2,h3,h4⟩:=h;exact⟨C,j,i,h1,by rw[f];exact h2,h3,Rps.mono e g _ h4⟩
 |ml ds =>
  obtain⟨b,h1,h2⟩:=h;exact⟨b,by rw[f];exact h1,Rps.mono e g _ h2⟩
 |dt kvs =>
  obtain⟨b,h1,h2,h3⟩:=h;exact⟨b,by rw[f];exact h1,h2,Rps.mono e g _ h3⟩
 |df kvs =>
  obtain⟨o,b,h1,h2,h3⟩:=h;exact⟨o,b,by rw[f];exact h1,h2,Rps.mono e g _ h3⟩
theorem RlO.at{n:Nat}{a:Addr}{o:Ob}(r:RlO K mg O H F as)(h:as[n]?=some a)(g:O[n]?=some o):H a≠none:=by
 have q:=r.ob n a o h g
 cases o with
 |ins c fs=>obtain⟨C,j,i,h1,h2,_⟩:=q;rw[h2];exact λz=>nomatch z
 |ml k=>obtain⟨f,h1,_⟩:=q;rw[h1];exact λz=>nomatch z
 |dt b=>obtain⟨f,h1,_⟩:=q;rw[h1];exact λz=>nomatch z
 |df b=>obtain⟨o,f,h1,_⟩:=q;rw[h1];exact λz=>nomatch z
theorem RlO.all{a:Addr}(r:RlO K mg O H F as)(c:a∈as):H a≠none:=by
 obtain⟨n,b,e⟩:=List.mem_iff_getElem.mp c
 have f:n<O.length:=by rw[<-r.len];exact b
 exact r.at (n:=n) (by rw[zj b,e]) (zj f)
theorem RlO.lay{p:Addr}{o:HO}(r:RlO K mg O H F as)(c:H p=none):RlO K mg O (upd H p o) F as:=by
 refine⟨λa u e=>?_,r.fd,r.nd,r.len,r.fa,λn a u f b=>(r.ob n a u f b).keep (aP ?_) (Same.refl F) λ_ _ h=>h⟩
 ·have q:=r.fh a u e;rw[aP (cG q c)];exact q
 ·intro z;subst z;exact r.at f b c
theorem Gr.frz{p:Addr}{o:HO}(f:H p=none)(g:Gr H F as H' F' as')(i:F' p=none):Gr H F as H' (upd F' p o) as' :=
 ⟨λa c b h hd=>by rw[aP (λz=>by subst z;rw[f] at b;cases b)];exact g.fz a c b h hd,λa u e=>by
  have q:=g.ff a u e
  rw[aP (cG q i)];exact q,g.nw,g.fr,g.dm,g.kz⟩
theorem RlO.frz{p:Addr}{o:HO}(r:RlO K mg O H F as)(b:H p=some o)(c:F p=none)(f:p∉as)(hd:isD o=true):RlO K mg O H (upd F p o) as:=by
 have ff:Same F (upd F p o):=λa u e=>by rw[aP (cG e c)];exact e
 refine⟨λa u e=>?_,λa u e=>?_,r.nd,r.len,λa h=>?_,λn a u h1 h2=>(r.ob n a u h1 h2).keep rfl ff λ_ _ h=>h⟩
 ·by_cases h:a=p
  ·subst h;rw[bW] at e;cases e;exact b
  ·rw[aP h] at e;exact r.fh a u e
 ·by_cases h:a=p
  ·subst h;rw[bW] at e;cases e;exact hd
  ·rw[aP h] at e;exact r.fd a u e
 ·rw[aP (λz=>by subst z;exact f h)];exact r.fa a h
end
abbrev RR:=(Addr->Prop)->Hp->Hp->List Addr->V->D->Prop
def rV(K:Frag):RR:=λ_ _ F a v d=>Rp K F a v d
def rS(K:Frag):RR:=λ_ H F a v d=>Sv K H F a v d
def rO(K:Frag):RR:=λN H F a v d=>Ow K N H F a v d
def rA(K:Frag):Md->RR
 | .v=>rV K
 | _=>rS K
def ir(R:RR):Prop:=∀(N c:Addr->Prop) (H F:Hp) (b:List Addr) (v:V) (d:D),(∀a,N a->c a)->R N H F b v d->R c H F b v d
theorem dw{K:Frag}:ir (rV K):=λ_ _ _ _ _ _ _ _ h=>h
theorem fV{K:Frag}:ir (rO K):=λN x H F u v d c h=>by
 rcases h with h | ⟨a,b,n,m,l,k,j,i,g,f⟩
 ·exact .inl h
 ·exact .inr ⟨a,b,n,m,l,k,j,i,c a g,f⟩
def tM(K:Frag)(mg:Str->Option Value)(md:List Md)(P:Pt)(R:RR)(m:M D):TE:=λσ H Q =>
 ∃ρ O F f d h,RlO K mg O H F f/\SlO K md P ρ σ H F f/\m ρ O=.ok d h /\
  ∀v c g b,Gr H F f c g b->RlO K mg h c g b->R (λa=>H a=none) c g b v d->Q v c
def tMT(K:Frag)(mg:Str->Option Value)(md:List Md)(P:Pt)(m:M Bool):TT:=λσ H Q =>
 ∃ρ O F c b f,RlO K mg O H F c/\SlO K md P ρ σ H F c/\m ρ O=.ok b f /\
  ∀d g a,Gr H F c d g a->RlO K mg f d g a->Q b d
def dI(K:Frag)(H F:Hp)(a:List Addr):List Md->List V->List D->Prop
 | [],[],[]=>True
 |m::ms,v::vs,d::ds=>rA K m (λ_=>True) H F a v d/\dI K H F a ms vs ds
 | _,_,_=>False
def tMA(K:Frag)(mg:Str->Option Value)(md:List Md)(P:Pt)(ms:List Md)(m:M (List D)):TA:=λσ H Q =>
 ∃ρ O F c g h,RlO K mg O H F c/\SlO K md P ρ σ H F c/\m ρ O=.ok g h /\
  ∀f b d a,Gr H F c b d a->RlO K mg h b d a->dI K b d a ms f g->Q f b
def XE(X:Cx)(md:List Md)(P:Pt)(R:RR)(e:Expr)(m:M D):Prop:=PE X e (tM X.K X.mg md P R m)
def VE(X:Cx)(md:List Md)(P:Pt)(e:Expr)(m:M D):Prop:=PE X e (tM X.K X.mg md P (rV X.K) m)
def SE(X:Cx)(md:List Md)(P:Pt)(e:Expr)(m:M D):Prop:=PE X e (tM X.K X.mg md P (rS X.K) m)
def OE(X:Cx)(md:List Md)(P:Pt)(e:Expr)(m:M D):Prop:=PE X e (tM X.K X.mg md P (rO X.K) m)
def TsE(X:Cx)(md:List Md)(P:Pt)(e:Expr)(m:M Bool):Prop:=PT X e (tMT X.K X.mg md P m)
def TwE(X:Cx)(md:List Md)(P:Pt)(e:Expr)(m:M Bool):Prop:=PW X e (tMT X.K X.mg md P m)
def AE(X:Cx)(md:List Md)(P:Pt)(ms:List Md)(a:List Expr)(m:M (List D)):Prop:=PA X a (tMA X.K X.mg md P ms m)
def iM(K:Frag)(mg:Str->Option Value)(md:List Md)(P:Pt)(R:RR)(D:Ends)(H F:Hp)(h:List Addr):Fl->Prop
 | .nx ρ' O'=>∀f c g b,GrS P H F h c g b->RlO K mg O' c g b->SlO K md P ρ' f c g b->D.nx f c
 | .bk ρ' O'=>∀f c g b,GrS P H F h c g b->RlO K mg O' c g b->SlO K md P ρ' f c g b->D.bk f c
 | .ct ρ' O'=>∀f c g b,GrS P H F h c g b->RlO K mg O' c g b->SlO K md P ρ' f c g b->D.ct f c
 | .rt d O'=>∀v c g b,GrS P H F h c g b->RlO K mg O' c g b->R (λa=>¬P a) c g b v d->D.rt v c
 | .ex _ _=>False
 | .no=>False
def tMS(K:Frag)(mg:Str->Option Value)(md:List Md)(P:Pt)(R:RR)(m:MS):TS:=λD σ H =>
 ∃ρ O F a,RlO K mg O H F a/\SlO K md P ρ σ H F a/\iM K mg md P R D H F a (m ρ O)
def VS(X:Cx)(md:List Md)(P:Pt)(R:RR)(st:Stmt)(m:MS):Prop:=PS X st (tMS X.K X.mg md P R m)
def VSs(X:Cx)(md:List Md)(P:Pt)(R:RR)(st:List Stmt)(m:MS):Prop:=PSs X st (tMS X.K X.mg md P R m)
section
variable {X:Cx}{md:List Md}{P:Pt}{R:RR}
theorem PE.imp{e:Expr}{t t':TE}(h:PE X e t)(k:∀σ H Q,t' σ H Q->t σ H Q):PE X e t':=λpins s σ H Q I q=>h pins s σ H Q I (k σ H Q q)
theorem PT.imp{e:Expr}{t t':TT}(h:PT X e t)(k:∀σ H Q,t' σ H Q->t σ H Q):PT X e t':=λpins s σ H Q I q=>h pins s σ H Q I (k σ H Q q)
theorem PW.imp{e:Expr}{t t':TT}(h:PW X e t)(k:∀σ H Q,t' σ H Q->t σ H Q):PW X e t':=λw pins s σ H Q I q=>h w pins s σ H Q I (k σ H Q q)
theorem PA.imp{e:List Expr}{t t':TA}(h:PA X e t)(k:∀σ H Q,t' σ H Q->t σ H Q):PA X e t':=λpos pins s σ H Q I q=>h pos pins s σ H Q I (k σ H Q q)
theorem PS.imp{e:Stmt}{t t':TS}(h:PS X e t)(k:∀D σ H,t' D σ H->t D σ H):PS X e t':=λpins s σ H D I q=>h pins s σ H D I (k D σ H q)
theorem PSs.imp{e:List Stmt}{t t':TS}(h:PSs X e t)(k:∀D σ H,t' D σ H->t D σ H):PSs X e t':=λpins s σ H D I q=>h pins s σ H D I (k D σ H q)
def aa(i:Nat):M D:=λρ O=>match ρ[i]? with
 |some (some d)=>.ok d O
 | _=>.no
def mC(d:D):M D:=λ_ O=>.ok d O
def mG(m:M D):M D:=λρ O=>match m ρ O with
 | .ok d O'=>if j8 d=true then .ok d O' else .no
 |r=>r
theorem uR{i:Nat}{ρ:aA}{O a:au}{d:D}(h:aa i ρ O=.ok d a):ρ[i]?=some (some d)/\a=O:=by
 unfold aa at h;split at h
 ·rename_i b e;cases h;exact⟨e,rfl⟩
 ·cases h
theorem Up{m:M D}{ρ:aA}{O b:au}{d:D}(h:mG m ρ O=.ok d b):m ρ O=.ok d b/\j8 d=true:=by
 unfold mG at h;split at h
 ·rename_i f g e;split at h
  ·rename_i c;cases h;exact⟨e,c⟩
  ·cases h
 ·rename_i a;exact absurd h (a _ _)
theorem SlO.get{K:Frag}{ρ:aA}{σ:St}{H F:Hp}{a:List Addr}{i:Nat}{d:D}(s:SlO K md P ρ σ H F a)(h:ρ[i]?=some (some d)):∃m v,md[i]?=some m/\σ[i]?=some (some v)/\jq P K H F a m v d:=by
 have hi:i<md.length:=by rw[<-s.len'];exact(zg.mp h).1
 obtain⟨v,h1,h2⟩:=s.sl i md[i] d (zj hi) h;exact⟨_,v,zj hi,h1,h2⟩
theorem jq.sv{K:Frag}{H F:Hp}{l:List Addr}{m:Md}{v:V}{d:D}(h:jq P K H F l m v d):Sv K H F l v d:=by
 cases m with
 |v=>exact .inl h
 |s =>
  rcases h with h | ⟨a,b,k,j,i,g,f,n,c⟩
  ·exact .inl h
  ·exact .inr ⟨a,b,k,j,i,g,f,c⟩
 |o =>
  rcases h with⟨_,h⟩ | ⟨a,b,k,j,i,g,u,f,n,c⟩
  ·exact .inl h
  ·exact .inr ⟨a,b,k,j,i,g,f,c⟩
theorem aJ(i:Nat){x:Str}{pos:Pos}(hN:X.N[i]?=some x:=by rfl)(b:Vis X.env.scope x:=by first | exact Or.inl rfl | exact Or.inr (Or.inl rfl) | exact Or.inr (Or.inr rfl))
  (hd:(x == ("__debug__":Str))=false:=by decide) (a:(x == ("__classdict__":Str))=false:=by decide):SE X md P (.Name x pos) (aa i):=by
 refine(o9 (i:=i) hN b hd a).imp λσ H Q h=>?_
 obtain⟨ρ,O,F,f,d,g,r,s,e,k⟩:=h;obtain⟨c,rfl⟩:=uR e;obtain⟨m,v,h1,h2,h3⟩:=s.get c;exact⟨v,h2,k v H F f Gr.refl r h3.sv⟩
theorem az(i:Nat){x:Str}{pos:Pos}(c:md[i]?=some .v:=by rfl)(hN:X.N[i]?=some x:=by rfl)(b:Vis X.env.scope x:=by first | exact Or.inl rfl | exact Or.inr (Or.inl rfl) | exact Or.inr (Or.inr rfl))
  (hd:(x == ("__debug__":Str))=false:=by decide) (a:(x == ("__classdict__":Str))=false:=by decide):VE X md P (.Name x pos) (aa i):=by
 refine(o9 (i:=i) hN b hd a).imp λσ H Q h=>?_
 obtain⟨ρ,O,F,g,d,j,r,s,e,k⟩:=h;obtain⟨f,rfl⟩:=uR e;obtain⟨v,h2,h3⟩:=s.sl i .v d c f;exact⟨v,h2,k v H F g Gr.refl r h3⟩
theorem ao{e:Expr}{m:M D}(h:VE X md P e m):SE X md P e m:=h.imp λσ H Q q=>by
 obtain⟨ρ,O,F,f,d,l,r,s,e,k⟩:=q;exact⟨ρ,_,F,f,_,_,r,s,e,λv i j a g b c=>k v i j a g b (.inl c)⟩
theorem aK{e:Expr}{m:M D}(h:OE X md P e m):SE X md P e m:=h.imp λσ H Q q=>by
 obtain⟨ρ,O,F,f,d,l,r,s,e,k⟩:=q;exact⟨ρ,_,F,f,_,_,r,s,e,λv i j a g b c=>k v i j a g b (Ow.sv c)⟩
theorem dX{e:Expr}{m:M D}(h:SE X md P e m):VE X md P e (mG m):=h.imp λσ H Q q=>by
 obtain⟨ρ,O,F,i,d,n,r,s,e,k⟩:=q;obtain⟨e,f⟩:=Up e;exact⟨ρ,_,F,i,_,_,r,s,e,λv j l a g b c=>k v j l a g b (Sv.rp c f)⟩
theorem bf{e:Expr}{m:M D}(h:OE X md P e m):VE X md P e m:=h.imp λσ H Q q=>by
 obtain⟨ρ,O,F,I,d,L,r,s,e,k⟩:=q;refine⟨ρ,_,F,I,_,_,r,s,e,λv x f c g n i=>?_⟩
 rcases i with⟨_,i⟩ | ⟨a,l,J,rfl,rfl,G,j,E,B,y⟩
 ·exact k v x f c g n i
 ·have ff:Same f (upd f a (.lst l)):=λb u q=>by rw[aP (cG q j)];exact q
  refine k _ x (upd f a (.lst l)) c (g.frz B j) (n.frz G j E rfl) (Rp.mkL (.inl (.inl bW)) (Rps.mono ff (λ_ _ z=>z) _ y))
theorem rM{e:Expr}{v:V}{d:D}(h:PE X e (tC v))(hd:∀K F a,Rp K F a v d):VE X md P e (mC d):=h.imp λσ H Q q=>by
 obtain⟨ρ,O,F,a,d,b,r,s,e,k⟩:=q;cases e;exact k v H F a Gr.refl r (hd _ _ _)
theorem aD{i:Int}{j pos}:VE X md P (.Constant (.int i) j pos) (mC (.int i)):=rM O5 λ_ _ _=>Rp.int
theorem fB{b:Bool}{j pos}:VE X md P (.Constant (.bool b) j pos) (mC (.bl b)):=rM O8 λ_ _ _=>Rp.bl
theorem xV{j pos}:VE X md P (.Constant .none j pos) (mC .non):=rM O9 λ_ _ _=>Rp.non
theorem dg{x:Str}{j pos}(l:List Nat)(a:x=S l:=by decide +kernel):VE X md P (.Constant (.str x) j pos) (mC (.str l)):=rM Pa λ_ _ _=>by rw[a];exact Rp.str
theorem GX{x:Str}{v:V}{d:D}{pos:Pos}(h:∃u,X.mg x=some u/\RelV v u)(hd:∀K F c,Rp K F c v d)(b:Gl X x:=by rfl)(a:(x == ("__debug__":Str))=false:=by decide):VE X md P (.Name x pos) (mC d):=rM (Ud h b a) hd
def aq:M (List D):=λ_ O=>.ok [] O
def aj(m:M D)(r:M (List D)):M (List D):=λρ O=>(m ρ O).bind λd c=>(r ρ c).bind λa b=>.ok (d::a) b
theorem aC:AE X md P [] [] aq:=iJ.imp λσ H Q q=>by
 obtain⟨ρ,O,F,a,d,b,r,s,e,k⟩:=q;cases e;exact k [] H F a Gr.refl r trivial
theorem rA.gr{K:Frag}{m:Md}{N:Addr->Prop}{H F c f:Hp}{a b:List Addr}{v:V}{d:D}(h:rA K m N H F a v d)(g:Gr H F a c f b):rA K m (λ_=>True) c f b v d:=by
 cases m with
 |v=>exact Rp.gr (show Rp K F a v d from h) g
 |s=>exact Sv.gr (show Sv K H F a v d from h) g
 |o=>exact Sv.gr (show Sv K H F a v d from h) g
theorem dI.gr{K:Frag}{H F c f:Hp}{b a:List Addr}(g:Gr H F b c f a):∀{ms:List Md}{vs:List V}{ds:List D},dI K H F b ms vs ds->dI K c f a ms vs ds
 | [],[],[],_=>trivial
 |m::ms,v::vs,d::ds,h=>⟨rA.gr h.1 g,dI.gr g h.2⟩
 | [],[],_::_,h=>h.elim
 | [],_::_,[],h=>h.elim
 | [],_::_,_::_,h=>h.elim
 | _::_,[],[],h=>h.elim
 | _::_,[],_::_,h=>h.elim
 | _::_,_::_,[],h=>h.elim
theorem GZ(a:Md){e:Expr}{b:List Expr}{m:M D}{ms:List Md}{r:M (List D)}(h:XE X md P (rA X.K a) e m)(B:AE X md P ms b r)
  (z:starEach (e::b) X.env=(false,eval e X.env)::starEach b X.env:=by exact cQ rfl):AE X md P (a::ms) (e::b) (aj m r):=(gm h B z).imp λσ H Q q=>by
 obtain⟨ρ,O,F,I,d,Z,x,s,e,k⟩:=q;obtain⟨d,Y,G,e⟩:=Res.bind_ok e;obtain⟨U,W,E,e⟩:=Res.bind_ok e;cases e;refine⟨ρ,_,F,I,_,_,x,s,G,λv H1 T g j u y=>?_⟩;refine⟨ρ,_,T,g,_,_,u,s.step j,E,λl J L f i n c=>?_⟩;exact k (v::l) J L f (j.trans i) n ⟨rA.gr y i,c⟩
theorem aR{e:Expr}{a:List Expr}{m:M D}{ms:List Md}{r:M (List D)}(h:VE X md P e m)(c:AE X md P ms a r)
  (b:starEach (e::a) X.env=(false,eval e X.env)::starEach a X.env:=by exact cQ rfl):AE X md P (.v::ms) (e::a) (aj m r):=GZ .v h c b
theorem aG{e:Expr}{a:List Expr}{m:M D}{ms:List Md}{r:M (List D)}(h:SE X md P e m)(c:AE X md P ms a r)
  (b:starEach (e::a) X.env=(false,eval e X.env)::starEach a X.env:=by exact cQ rfl):AE X md P (.s::ms) (e::a) (aj m r):=GZ .s h c b
theorem dI.rps{K:Frag}{H F:Hp}{a:List Addr}:∀{n:Nat}{vs:List V}{ds:List D},dI K H F a (List.replicate n .v) vs ds->Rps K F a vs ds
 | 0,[],[],_=>Rps.nil
 |n+1,v::vs,d::ds,h=>by
  rw[List.replicate_succ] at h;exact Rps.cons h.1 (dI.rps h.2)
 | 0,[],_::_,h=>h.elim
 | 0,_::_,[],h=>h.elim
 | 0,_::_,_::_,h=>h.elim
 |n+1,[],[],h=>h.elim
 |n+1,[],_::_,h=>h.elim
 |n+1,_::_,[],h=>h.elim
def bF(r:M (List D)):M D:=λρ O=>(r ρ O).bind λa b=>if a.length<=1000000 then .ok (.lst a) b else .no
def bA(r:M (List D)):M D:=λρ O=>(r ρ O).bind λa b=>if a.length<=1000000 then .ok (.tup a) b else .no
theorem gn{n:Nat}(h:n<=1000000):n<=sizeLine:=zH h (by decide)
theorem dJ{j:List Expr}{pos:Pos}{r:M (List D)}(n:Nat)(h:AE X md P (List.replicate n .v) j r):OE X md P (.List j pos) (bF r):=(RB h).imp λσ H Q q=>by
 obtain⟨ρ,O,F,x,d,y,l,s,e,k⟩:=q;obtain⟨ds,O1,u,e⟩:=Res.bind_ok e;split at e
 ·rename_i hz;cases e;refine⟨ρ,_,F,x,_,_,l,s,u,λvs B c f i b hv=>?_⟩;have g:=hv.rps;refine⟨by rw[g.length];exact gn hz,λp a=>?_⟩
  have m:c p=none:=by
   cases q:c p with
   |none=>rfl
   |some o=>rw[b.fh p o q] at a;cases a
  refine k _ _ c f (i.trans (Gr.lay a)) (b.lay a) (.inr ⟨p,vs,ds,rfl,rfl,bW,m,λz=>b.all z a,i.dm p a,g⟩)
 ·cases e
theorem cX{m:List Expr}{pos:Pos}{x1}{r:M (List D)}(n:Nat)(h:AE X md P (List.replicate n .v) m r):VE X md P (.Tuple m x1 pos) (bA r):=(Rz h).imp λσ H Q q=>by
 obtain⟨ρ,O,F,B,d,E,x,s,e,k⟩:=q;obtain⟨ds,O1,y,e⟩:=Res.bind_ok e;split at e
 ·rename_i hz;cases e;refine⟨ρ,_,F,B,_,_,x,s,y,λvs G c i l f hv=>?_⟩;have j:=hv.rps;refine⟨by rw[j.length];exact gn hz,λp a=>?_⟩
  have g:c p=none:=by
   cases q:c p with
   |none=>rfl
   |some o=>rw[f.fh p o q] at a;cases a
  have ff:Same c (upd c p (.tup vs)):=λb u q=>by rw[aP (cG q g)];exact q
  refine k _ _ (upd c p (.tup vs)) i ((l.trans (Gr.lay a)).frz (l.dm p a) g) ((f.lay a).frz bW g (λz=>f.all z a) rfl) (Rp.mkT (.inl bW) (Rps.mono ff (λ_ _ z=>z) _ j))
 ·cases e
def rD(K:Frag)(mg:Str->Option Value)(g:D->D->Option D):R2:=λx y H Q=>∃O F b j i d,RlO K mg O H F b/\Lk K H F b x j/\Lk K H F b y i/\g j i=some d /\
 ∀h c f,Gr H F b c f b->RlO K mg O c f b->Ow K (λa=>H a=none) c f b h d->Q h c
abbrev OpD(X:Cx)(f:Value->Value->Sem Value)(g:D->D->Option D):Prop:=OpR X f (rD X.K X.mg g)
def ak(g:D->D->Option D)(ma mb:M D):M D:=λρ O=>(ma ρ O).bind λx b=>(mb ρ b).bind λy a=>match g (bw a x) (bw a y) with
 |some d=>.ok d a
 |none=>.no
theorem xW{K:Frag}{mg:Str->Option Value}{g:D->D->Option D}{ma mb:M D}{σ:St}{H:Hp}{Q:VK}(h:tM K mg md P (rO K) (ak g ma mb) σ H Q):tOp (rD K mg g) (tM K mg md P (rS K) ma) (tM K mg md P (rS K) mb) σ H Q:=by
 obtain⟨ρ,O,F,T,d,O',r,sl,e,k⟩:=h;obtain⟨x,O1,L,e⟩:=Res.bind_ok e;obtain⟨y,O2,J,e⟩:=Res.bind_ok e;split at e
 ·rename_i d' E;cases e;refine⟨ρ,_,F,T,_,_,r,sl,L,λv H1 Y j i m z=>?_⟩;refine⟨ρ,_,Y,j,_,_,m,sl.step i,J,λu H2 W b f c B=>?_⟩;refine⟨_,W,b,_,_,_,c,Sv.lk (Sv.gr z f) c,Sv.lk B c,E,λl U Z I n hw=>?_⟩;exact k l U Z b ((i.trans f).trans I) n (fV _ _ _ _ _ _ _ (λa G=>(i.trans f).dm a G) hw)
 ·cases e
theorem aW{c b:Expr}{pos:Pos}{a:Operator}{g:D->D->Option D}{ma mb:M D}(d:OpD X (binaryOp a) g)(f:SE X md P c ma)(hb:SE X md P b mb):OE X md P (.BinOp c a b pos) (ak g ma mb):=
 (QF d f hb).imp λ_ _ _=>xW
theorem jH{c b:Expr}{pos:Pos}{a:CmpOp}{g:D->D->Option D}{ma mb:M D}(d:OpD X (compareOp a) g)(h:SE X md P c ma)(hb:SE X md P b mb)(f:behindInMarks a b=false):OE X md P (.Compare c [a] [b] pos) (ak g ma mb):=
 (Q0 d h hb f).imp λ_ _ _=>xW
def aH(m:M D):M Bool:=λρ O=>(m ρ O).bind λd a=>match d with
 | .bl b=>.ok b a
 | _=>.no
theorem rN{K:Frag}{mg:Str->Option Value}{m:M D}{σ:St}{H:Hp}{Q:Bool->Hp->Prop}(h:tMT K mg md P (aH m) σ H Q):uB (tM K mg md P (rO K) m) σ H Q:=by
 obtain⟨ρ,O,F,n,d,E,r,sl,e,k⟩:=h;obtain⟨d,B,l,e⟩:=Res.bind_ok e
 cases d with
 |bl c =>
  cases e;refine⟨ρ,_,F,n,_,_,r,sl,l,λv u x f i g b=>?_⟩
  rcases b with⟨_,b⟩ | ⟨a,y,z,_,j,_⟩
  ·exact⟨_,b.unB,k u x f i g⟩
  ·cases j
 | _=>cases e
theorem bT{c b:Expr}{pos:Pos}{a:CmpOp}{g:D->D->Option D}{ma mb:M D}(d:OpD X (compareOp a) g)(i:SE X md P c ma)(hb:SE X md P b mb)(f:behindInMarks a b=false):TsE X md P (.Compare c [a] [b] pos) (aH (ak g ma mb)):=
 (Fx d i hb f).imp λσ H Q h=>by
  have q:=rN h;exact xW q
def lU(g g':D->D->Option D)(ma mb c:M D):M D:=λρ O=>(ma ρ O).bind λx f=>(mb ρ f).bind λy a=>match g (bw a x) (bw a y) with
 |some (.bl true)=>(c ρ a).bind λz b=>match g' (bw b y) (bw b z) with
  |some d=>.ok d b
  |none=>.no
 |some (.bl false)=>.ok (.bl false) a
 | _=>.no
theorem Uq{K:Frag}{mg:Str->Option Value}{g g':D->D->Option D}{ma mb U:M D}{σ:St}{H:Hp}{Q:VK}(h:tM K mg md P (rO K) (lU g g' ma mb U) σ H Q):
  Fy (rD K mg g) (rD K mg g') (tM K mg md P (rS K) ma) (tM K mg md P (rS K) mb) (tM K mg md P (rS K) U) σ H Q:=by
 obtain⟨ρ,O,F,as,d,O',r,sl,e,k⟩:=h;obtain⟨x,O1,e1,e⟩:=Res.bind_ok e;obtain⟨y,O2,e2,e⟩:=Res.bind_ok e;refine⟨ρ,_,F,as,_,_,r,sl,e1,λv H1 F1 T G r1 W=>?_⟩;refine⟨ρ,_,F1,T,_,_,r1,sl.step G,e2,λu H2 Z b i c m=>?_⟩;split at e
 ·rename_i n;obtain⟨z,O3,e3,e⟩:=Res.bind_ok e;refine⟨_,Z,b,_,_,_,c,Sv.lk (Sv.gr W i) c,Sv.lk m c,n,λv' Y I g' l hw=>?_⟩
  rcases hw with⟨_,hw⟩ | ⟨a,xs,ds,_,z,_⟩
  ·refine⟨true,hw.unB,?_⟩;rw[if_pos rfl];split at e
   ·rename_i d' L;cases e;have E:=(G.trans i).trans g';refine⟨ρ,_,I,b,_,_,l,sl.step E,e3,λw H4 F4 f B j hz=>?_⟩;refine⟨_,F4,f,_,_,_,j,Sv.lk (Sv.gr (Sv.gr m g') B) j,Sv.lk hz j,L,λv5 H5 F5 g5 r5 J=>?_⟩;exact k v5 H5 F5 f ((E.trans B).trans g5) r5 (fV _ _ _ _ _ _ _ (λa ha=>(E.trans B).dm a ha) J)
   ·cases e
  ·cases z
 ·rename_i n;cases e;refine⟨_,Z,b,_,_,_,c,Sv.lk (Sv.gr W i) c,Sv.lk m c,n,λv' Y I g' l hw=>?_⟩
  rcases hw with⟨_,hw⟩ | ⟨a,xs,ds,_,z,_⟩
  ·refine⟨false,hw.unB,?_⟩;rw[if_neg zp];exact k _ Y I b ((G.trans i).trans g') l (.inl ⟨rfl,Rp.bl⟩)
  ·cases z
 ·cases e
theorem Ur{a b c:Expr}{pos:Pos}{f d:CmpOp}{g g':D->D->Option D}{ma mb j:M D}(k:OpD X (compareOp f) g)(i:OpD X (compareOp d) g')(n:SE X md P a ma)(hb:SE X md P b mb)(m:SE X md P c j)
  (l:lastMarks [f,d] [b,c]=false:=by with_unfolding_all rfl):TsE X md P (.Compare a [f,d] [b,c] pos) (aH (lU g g' ma mb j)):=(Q3 k i n hb m l).imp λ_ _ _ h=>Uq (rN h)
def isNon:D->Bool
 | .non=>true
 | _=>false
def jJ(m:M D):M D:=λρ O=>(m ρ O).bind λd a=>.ok (.bl (isNon d)) a
def jr(m:M D):M D:=λρ O=>(m ρ O).bind λd a=>.ok (.bl (!isNon d)) a
theorem Sv.isN{K:Frag}{H F:Hp}{f:List Addr}{v:V}{d:D}(h:Sv K H F f v d):decide (v=.non)=isNon d:=by
 rcases h with h | ⟨a,c,g,rfl,rfl,_⟩
 ·cases d with
  |non=>rw[h.unN];rfl
  |bl b=>rw[h.unB];rfl
  |int b=>rw[h.unI];rfl
  |str b=>rw[h.unS];rfl
  |lst b=>obtain⟨a,c,rfl,_⟩:=h.unL;rfl
  |tup b=>obtain⟨a,c,rfl,_⟩:=h.unT;rfl
  |dic k b=>obtain⟨a,c,rfl,_⟩:=h.unD;rfl
  |ob b=>obtain⟨a,rfl,_⟩:=h.unO;rfl
 ·rfl
theorem Us{K:Frag}{mg:Str->Option Value}{m:M D}{σ:St}{H:Hp}{Q:VK}(h:tM K mg md P (rO K) (jJ m) σ H Q):Ex (tM K mg md P (rS K) m) σ H Q:=by
 obtain⟨ρ,O,F,i,d,u,r,sl,e,k⟩:=h;obtain⟨x,n,g,e⟩:=Res.bind_ok e;cases e;refine⟨ρ,_,F,i,_,_,r,sl,g,λv j l a f b c=>?_⟩;dsimp only;rw[Sv.isN c];exact k _ j l a f b (.inl ⟨rfl,Rp.bl⟩)
theorem Ut{K:Frag}{mg:Str->Option Value}{m:M D}{σ:St}{H:Hp}{Q:VK}(h:tM K mg md P (rO K) (jr m) σ H Q):Ey (tM K mg md P (rS K) m) σ H Q:=by
 obtain⟨ρ,O,F,i,d,u,r,sl,e,k⟩:=h;obtain⟨x,n,g,e⟩:=Res.bind_ok e;cases e;refine⟨ρ,_,F,i,_,_,r,sl,g,λv j l a f b c=>?_⟩;dsimp only;rw[Sv.isN c];exact k _ j l a f b (.inl ⟨rfl,Rp.bl⟩)
theorem G4{t t':TE}{σ:St}{H:Hp}{Q:Bool->Hp->Prop}(h:∀a,t σ H a->t' σ H a)(q:uB t σ H Q):tB t' σ H Q:=h _ q
theorem xX{a:Expr}{pos pos':Pos}{j}{m:M D}(h:SE X md P a m):TsE X md P (.Compare a [.Is] [.Constant .none j pos'] pos) (aH (jJ m)):=(Ez (Ph h)).imp λ_ _ _ q=>G4 (λ_=>Us) (rN q)
theorem G5{a:Expr}{pos pos':Pos}{j}{m:M D}(h:SE X md P a m):TsE X md P (.Compare a [.IsNot] [.Constant .none j pos'] pos) (aH (jr m)):=(Ez (Pj h)).imp λ_ _ _ q=>G4 (λ_=>Ut) (rN q)
def pB:D->Option Bool
 | .non=>some false
 | .bl b=>some b
 | .int i=>some (i != 0)
 | .str l=>if l.length<=1000000 then some (!l.isEmpty) else none
 | .lst ds=>some (!ds.isEmpty)
 | .tup ds=>some (!ds.isEmpty)
 | .dic ks _=>some (!ks.isEmpty)
 | .ob _=>none
def bK(m:M D):M Bool:=λρ O=>(m ρ O).bind λd a=>match pB (bw a d) with
 |some b=>.ok b a
 |none=>.no
theorem G6{α β:Type}{xs:List α}{a:List β}(h:xs.length=a.length):(!xs.isEmpty) = !a.isEmpty:=by
 cases xs<;>cases a<;>simp_all
theorem Lk.tru{K:Frag}{H F:Hp}{j:List Addr}{v:V}{d:D}{b:Bool}(h:Lk K H F j v d)(fh:Same F H)(e:pB d=some b):xD K v H b:=by
 cases d with
 |non=>rw[(h.rp rfl).unN];cases e;rfl
 |bl b=>rw[(h.rp rfl).unB];cases e;rfl
 |int b=>rw[(h.rp rfl).unI];cases e;rfl
 |str l =>
  rw[(h.rp rfl).unS];simp only[pB] at e;split at e
  ·rename_i i;cases e;refine⟨by rw[il];exact gn i,?_⟩;rw[il]
   cases l with
   |nil=>rfl
   |cons c l =>
    have:((((c::l).length:Nat):Int) != 0)=true:=by
     rw[bne_iff_ne,zC];omega
    rw[this];rfl
  ·cases e
 |lst ds =>
  obtain⟨a,g,rfl,h1,h2⟩:=h.list fh;cases e;exact .inl ⟨g,h1.sq,(G6 h2.length).symm⟩
 |tup ds =>
  obtain⟨a,g,rfl,h1,h2⟩:=(h.rp rfl).unT;cases e;exact .inr (.inl ⟨g,Same.seqT fh h1,(G6 h2.length).symm⟩)
 |dic ks vs =>
  obtain⟨a,f,rfl,h1,rfl,h2⟩:=(h.rp rfl).unD;cases e;exact .inr (.inr ⟨f,fh _ _ h1,by cases f<;>rfl⟩)
 |ob n=>cases e
theorem fC{a:Expr}{m:M D}(h:SE X md P a m)(i:∀whole,isTrue a X.env whole=(do let v <-whole;standAt a.pos;holding [v] (truthy v)):=by intro _;rfl):TsE X md P a (bK m):=(Q6 h i).imp λσ H Q q=>by
 obtain⟨ρ,O,F,u,d,B,r,sl,e,k⟩:=q;obtain⟨d,z,n,e⟩:=Res.bind_ok e;split at e
 ·rename_i c j;cases e;exact⟨ρ,_,F,u,_,_,r,sl,n,λv x y f l b g=>⟨_,Lk.tru (Sv.lk g b) b.fh j,k x y f l b⟩⟩
 ·cases e
def fW(a b:M Bool):M Bool:=λρ O=>(a ρ O).bind λc d=>if c=true then b ρ d else .ok false d
def cR(a b:M Bool):M Bool:=λρ O=>(a ρ O).bind λc d=>if c=true then .ok true d else b ρ d
def cB(a:M Bool):M Bool:=λρ O=>(a ρ O).bind λc b=>.ok (!c) b
theorem Uu{K:Frag}{mg:Str->Option Value}{ma mb:M Bool}{σ:St}{H:Hp}{Q:Bool->Hp->Prop}(h:tMT K mg md P (fW ma mb) σ H Q):EY (tMT K mg md P ma) (tMT K mg md P mb) σ H Q:=by
 obtain⟨ρ,O,F,n,d,B,r,sl,e,k⟩:=h;obtain⟨c,z,m,e⟩:=Res.bind_ok e;refine⟨ρ,_,F,n,_,_,r,sl,m,λx i a b g=>?_⟩
 cases c with
 |true =>
  rw[if_pos rfl] at e ⊢;exact⟨ρ,_,i,a,_,_,g,sl.step b,e,λu y f l j=>k u y f (b.trans l) j⟩
 |false =>
  rw[if_neg zp] at e ⊢;cases e;exact k x i a b g
theorem Uv{K:Frag}{mg:Str->Option Value}{ma mb:M Bool}{σ:St}{H:Hp}{Q:Bool->Hp->Prop}(h:tMT K mg md P (cR ma mb) σ H Q):tOr (tMT K mg md P ma) (tMT K mg md P mb) σ H Q:=by
 obtain⟨ρ,O,F,n,d,B,r,sl,e,k⟩:=h;obtain⟨c,z,m,e⟩:=Res.bind_ok e;refine⟨ρ,_,F,n,_,_,r,sl,m,λx i a b g=>?_⟩
 cases c with
 |true =>
  rw[if_pos rfl] at e ⊢;cases e;exact k x i a b g
 |false =>
  rw[if_neg zp] at e ⊢;exact⟨ρ,_,i,a,_,_,g,sl.step b,e,λu y f l j=>k u y f (b.trans l) j⟩
theorem pC{a:Expr}{pos:Pos}{m:M Bool}(h:TsE X md P a m):TwE X md P (.BoolOp .And [a] pos) m:=Pn h
theorem lV{a:Expr}{pos:Pos}{m:M Bool}(h:TsE X md P a m):TwE X md P (.BoolOp .Or [a] pos) m:=Pq h
theorem pF{a b:Expr}{rest:List Expr}{pos:Pos}{ma mb:M Bool}(c:TsE X md P a ma)(hb:TwE X md P (.BoolOp .And (b::rest) pos) mb):TwE X md P (.BoolOp .And (a::b::rest) pos) (fW ma mb):=(Pu c hb).imp λ_ _ _=>Uu
theorem gR{a b:Expr}{rest:List Expr}{pos:Pos}{ma mb:M Bool}(c:TsE X md P a ma)(hb:TwE X md P (.BoolOp .Or (b::rest) pos) mb):TwE X md P (.BoolOp .Or (a::b::rest) pos) (cR ma mb):=(Px c hb).imp λ_ _ _=>Uv
theorem gU{e:Expr}{m:M Bool}(h:TwE X md P e m):TsE X md P e m:=PW.pt h
theorem gq{a:Expr}{pos:Pos}{m:M Bool}(h:TsE X md P a m):TsE X md P (.UnaryOp .Not a pos) (cB m):=(Py h).imp λσ H Q q=>by
 obtain⟨ρ,O,F,f,d,i,r,sl,e,k⟩:=q;obtain⟨c,g,b,e⟩:=Res.bind_ok e;cases e;exact⟨ρ,_,F,f,_,_,r,sl,b,k⟩
def fL(ma mb:M D):M D:=λρ O=>(ma ρ O).bind λd a=>match d with
 | .bl true=>mb ρ a
 | .bl false=>.ok (.bl false) a
 | _=>.no
def G7(ma mb:M D):M D:=λρ O=>(ma ρ O).bind λd a=>match d with
 | .bl true=>.ok (.bl true) a
 | .bl false=>mb ρ a
 | _=>.no
def pG(ma:M D):M D:=λρ O=>(ma ρ O).bind λd a=>match d with
 | .bl b=>.ok (.bl (!b)) a
 | _=>.no
theorem nG{a:Expr}{pos:Pos}{op}{m:M D}(h:VE X md P a m):VE X md P (.BoolOp op [a] pos) m:=PJ h
theorem lW{a b:Expr}{rest:List Expr}{pos:Pos}{ma mb:M D}(y:VE X md P a ma)(hb:VE X md P (.BoolOp .And (b::rest) pos) mb):VE X md P (.BoolOp .And (a::b::rest) pos) (fL ma mb):=(PK y hb).imp λσ H Q q=>by
 obtain⟨ρ,O,F,E,d,T,r,sl,e,k⟩:=q;obtain⟨x,L,B,e⟩:=Res.bind_ok e;refine⟨ρ,_,F,E,_,_,r,sl,B,λv I l f g j u=>?_⟩
 cases x with
 |bl c =>
  refine⟨c,Rp.unB u,?_⟩
  cases c with
  |true =>
   rw[if_pos rfl];exact⟨ρ,_,l,f,_,_,j,sl.step g,e,λm G J i z n h=>k m G J i (g.trans z) n h⟩
  |false =>
   rw[if_neg zp];cases e;exact k _ I l f g j Rp.bl
 | _=>cases e
theorem G8{a:Expr}{pos:Pos}{m:M D}(h:VE X md P a m):VE X md P (.UnaryOp .Not a pos) (pG m):=(PL h).imp λσ H Q q=>by
 obtain⟨ρ,O,F,l,d,z,r,sl,e,k⟩:=q;obtain⟨x,y,j,e⟩:=Res.bind_ok e;refine⟨ρ,_,F,l,_,_,r,sl,j,λv n u b i f g=>?_⟩
 cases x with
 |bl c =>
  cases e;exact⟨c,Rp.unB g,k _ n u b i f Rp.bl⟩
 | _=>cases e
def mIf(t:M Bool)(a b:M D):M D:=λρ O=>(t ρ O).bind λc d=>if c=true then a ρ d else b ρ d
theorem Uw(E:ir R){c a b:Expr}{pos:Pos}{B:M Bool}{ma mb:M D}(I:TsE X md P c B)(i:PE X a (tM X.K X.mg md P R ma))(hb:PE X b (tM X.K X.mg md P R mb)):PE X (.IfExp c a b pos) (tM X.K X.mg md P R (mIf B ma mb)):=(PN I i hb).imp λσ H Q q=>by
 obtain⟨ρ,O,F,L,d,U,r,sl,e,k⟩:=q;obtain⟨x,T,J,e⟩:=Res.bind_ok e;refine⟨ρ,_,F,L,_,_,r,sl,J,λW G j h z=>?_⟩
 cases x with
 |true =>
  rw[if_pos rfl] at e ⊢;exact⟨ρ,_,G,j,_,_,z,sl.step h,e,λl u y g n m f=>k l u y g (h.trans n) m (E _ _ _ _ _ _ _ (λa i=>h.dm a i) f)⟩
 |false =>
  rw[if_neg zp] at e ⊢;exact⟨ρ,_,G,j,_,_,z,sl.step h,e,λl u y g n m f=>k l u y g (h.trans n) m (E _ _ _ _ _ _ _ (λa i=>h.dm a i) f)⟩
theorem G9{c a b:Expr}{pos:Pos}{d:M Bool}{ma mb:M D}(f:TsE X md P c d)(g:VE X md P a ma)(hb:VE X md P b mb):VE X md P (.IfExp c a b pos) (mIf d ma mb):=Uw dw f g hb
end
section
variable {K:Frag}{mg:Str->Option Value}{md:List Md}{P:Pt}{R:RR}{ρ:aA}{σ:St}{H F H' F':Hp}{as as':List Addr}{O O':au}
theorem SlO.set{i:Nat}{m:Md}{v:V}{d:D}(s:SlO K md P ρ σ H F as)(l:md[i]?=some m)(G:m≠.s)(hv:jq P K H F as m v d)
  (I:∀(a:Addr) (ds:List D) (j:Nat) (n:List D),m=.o->v=.ref a->d=.lst ds->i≠j->md[j]?=some .o->ρ[j]?=some (some (.lst n))->σ[j]?≠some (some (.ref a))):SlO K md P (ρ.set i (some d)) (σ.set i (some v)) H F as:=by
 have hi:i<md.length:=(zg.mp l).1;refine⟨by rw[zU];exact s.len,by rw[zU];exact s.len',s.pd,λj Q U E y=>?_,λj k a ds n h1 h2 h3 h4 g f=>?_,λx T=>?_⟩
 ·by_cases h:i=j
  ·subst h;rw[l] at E;cases E;rw[zR (by rw[s.len'];exact hi)] at y;cases y;exact⟨v,zR (by rw[s.len];exact hi),hv⟩
  ·rw[zw h] at y;rw[zw h];exact s.sl j Q U E y
 ·by_cases c:i=j
  ·by_cases b:i=k
   ·rw[<-c,<-b]
   ·exfalso
    subst c;rw[l] at h1;cases h1;rw[zR (by rw[s.len'];exact hi)] at h3;rw[zR (by rw[s.len];exact hi)] at g;rw[zw b] at h4 f;cases h3;cases g;exact I a ds k n rfl rfl rfl b h2 h4 f
  ·by_cases b:i=k
   ·exfalso
    subst b;rw[l] at h2;cases h2;rw[zR (by rw[s.len'];exact hi)] at h4;rw[zR (by rw[s.len];exact hi)] at f;rw[zw c] at h3 g;cases h4;cases f;exact I a n j ds rfl rfl rfl c h1 h3 g
   ·rw[zw c] at h3 g;rw[zw b] at h4 f;exact s.inj j k a ds n h1 h2 h3 h4 g f
 ·obtain⟨B,L,J⟩:=s.pin x T
  have u:i≠x.1:=λz=>by
   rw[<-z,l] at B;exact G (zA B)
  exact⟨B,by rw[zw u];exact L,by rw[zw u];exact J⟩
theorem SlO.setV{i:Nat}{v:V}{d:D}(s:SlO K md P ρ σ H F as)(a:md[i]?=some .v)(hv:Rp K F as v d):SlO K md P (ρ.set i (some d)) (σ.set i (some v)) H F as :=
 s.set a (by decide) hv λ_ _ _ _ z=>nomatch z
theorem SlO.setN{i:Nat}{v:V}{d:D}(s:SlO K md P ρ σ H F as)(b:md[i]?=some .o)(a:j8 d=true)(hv:Rp K F as v d):SlO K md P (ρ.set i (some d)) (σ.set i (some v)) H F as :=
 s.set b (by decide) (.inl ⟨a,hv⟩) λ_ _ _ _ _ _ z=>by subst z;cases a
theorem SlO.setO{i:Nat}{v:V}{d:D}{c:Hp}(s:SlO K md P ρ σ c F as)(g:Gr c F as H' F' as')(h:md[i]?=some .o)(hv:Ow K (λa=>c a=none) H' F' as' v d):SlO K md P (ρ.set i (some d)) (σ.set i (some v)) H' F' as':=by
 have s':=s.step g
 rcases hv with⟨u,hv⟩ | ⟨a,m,J,rfl,rfl,I,G,E,k,B⟩
 ·exact s'.setN h u hv
 ·refine s'.set h (by decide) (.inr ⟨a,m,J,rfl,rfl,I,G,E,λp=>s.pd a p k,B⟩) λb T j U _ z hd Q x y n=>?_
  cases z;obtain⟨v,h1,h2⟩:=s.sl j .o _ x y;rw[n] at h1;cases h1
  rcases h2 with⟨h2,_⟩ | ⟨W,L,_,l,_,f,_⟩
  ·cases h2
  ·cases l;rw[k] at f;cases f
end
section
variable {X:Cx}{md:List Md}{P:Pt}{R:RR}
def bx:MS:=λρ O=>.nx ρ O
def aB(a b:MS):MS:=λρ O=>match a ρ O with
 | .nx ρ' O'=>b ρ' O'
 |r=>r
theorem cC:VSs X md P R [] bx:=P0.imp λD σ H q=>by
 obtain⟨ρ,O,F,a,r,s,k⟩:=q;exact k σ H F a GrS.refl r s
theorem iu{K:Frag}{mg:Str->Option Value}{D:Ends}{H F u x:Hp}{n l:List Addr}(g:GrS P H F n u x l){f:Fl}(k:iM K mg md P R D H F n f):iM K mg md P R D u x l f:=by
 cases f with
 |nx j m=>exact λa h i b c=>k a h i b (g.trans c)
 |bk j m=>exact λa h i b c=>k a h i b (g.trans c)
 |ct j m=>exact λa h i b c=>k a h i b (g.trans c)
 |rt d m=>exact λa h i b c=>k a h i b (g.trans c)
 |ex _ _=>exact k
 |no=>exact k
theorem aO{st:Stmt}{rest:List Stmt}{a b:MS}(h1:VS X md P R st a)(h2:VSs X md P R rest b):VSs X md P R (st::rest) (aB a b):=(Qa h1 h2).imp λD σ H q=>by
 obtain⟨ρ,O,F,l,r,s,k⟩:=q;refine⟨ρ,O,F,l,r,s,?_⟩;unfold aB at k
 cases e:a ρ O with
 |nx c f =>
  rw[e] at k;dsimp only at k
  exact λn u m h g j i=>⟨c,f,m,h,j,i,iu g k⟩
 |bk c f=>rw[e] at k;exact k
 |ct c f=>rw[e] at k;exact k
 |rt d f=>rw[e] at k;exact k
 |ex x f=>rw[e] at k;exact k
 |no=>rw[e] at k;exact k
theorem aQ{st:Stmt}{a:MS}(h1:VS X md P R st a):VSs X md P R [st] a:=Qc h1
def xY:MS:=λ_ _=>.no
def rP(m:M D):MS:=λρ O=>match m ρ O with
 | .ok _ O'=>.nx ρ O'
 | .ex x O'=>.ex x O'
 | .no=>.no
theorem Ux{e:Expr}{pos:Pos}{m:M D}(h:SE X md P e m)(a:swapsWith e none pos.line X.env=pure false:=by rfl):VS X md P R (.Expr e pos) (rP m):=(uz h a).imp λD σ H q=>by
 obtain⟨ρ,O,F,b,r,s,k⟩:=q;unfold rP at k
 cases e:m ρ O with
 |ok d c =>
  rw[e] at k;exact⟨ρ,_,F,b,_,_,r,s,e,λv H' F' as' g r' _=>k σ H' F' as' g.toS r' (s.step g)⟩
 |ex x c=>rw[e] at k;exact False.elim k
 |no=>rw[e] at k;exact False.elim k
def aZ(m:M D):MS:=λρ O=>match m ρ O with
 | .ok d O'=>.rt d O'
 | .ex x O'=>.ex x O'
 | .no=>.no
theorem Ha(j:ir R){e:Expr}{pos:Pos}{m:M D}(h:PE X e (tM X.K X.mg md P R m)):VS X md P R (.Return (some e) pos) (aZ m):=(Fb h).imp λD σ H q=>by
 obtain⟨ρ,O,F,l,r,s,k⟩:=q;unfold aZ at k
 cases e:m ρ O with
 |ok d n =>
  rw[e] at k;exact⟨ρ,_,F,l,_,_,r,s,e,λv u y b g c f=>k v u y b g.toS c (j _ _ _ _ _ _ _ (λa i p=>s.pd a p i) f)⟩
 |ex x n=>rw[e] at k;exact False.elim k
 |no=>rw[e] at k;exact False.elim k
theorem cj{e:Expr}{pos:Pos}{m:M D}(h:VE X md P e m):VS X md P (rV X.K) (.Return (some e) pos) (aZ m):=Ha dw h
theorem jK{e:Expr}{pos:Pos}{m:M D}(h:OE X md P e m):VS X md P (rO X.K) (.Return (some e) pos) (aZ m):=Ha fV h
theorem pH(i:Nat){x:Str}{p pos:Pos}(h:md[i]?=some .o:=by rfl)(hN:X.N[i]?=some x:=by rfl)(g:Vis X.env.scope x:=by first | exact Or.inl rfl | exact Or.inr (Or.inl rfl) | exact Or.inr (Or.inr rfl))
  (hd:(x == ("__debug__":Str))=false:=by decide) (c:(x == ("__classdict__":Str))=false:=by decide):VS X md P (rO X.K) (.Return (some (.Name x p)) pos) (aZ (aa i)):=(Fb (o9 (i:=i) hN g hd c)).imp λD σ H q=>by
 obtain⟨ρ,O,F,B,r,s,k⟩:=q;unfold aZ at k
 cases e:aa i ρ O with
 |ok d E =>
  rw[e] at k;obtain⟨b,rfl⟩:=uR e;obtain⟨v,h1,h2⟩:=s.sl i .o d h b;refine⟨v,h1,k v H F B GrS.refl r ?_⟩
  rcases h2 with h2 | ⟨a,f,z,b,u,n,y,m,l,j⟩
  ·exact .inl h2
  ·exact .inr ⟨a,f,z,b,u,n,y,m,l,j⟩
 |ex x E=>rw[e] at k;exact False.elim k
 |no=>rw[e] at k;exact False.elim k
def aY(t:M Bool)(a b:MS):MS:=λρ O=>match t ρ O with
 | .ok c O'=>if c=true then a ρ O' else b ρ O'
 | .ex x O'=>.ex x O'
 | .no=>.no
theorem bR{c:Expr}{a b:List Stmt}{pos:Pos}{t:M Bool}{ma mb:MS}(j:TsE X md P c t)(l:VSs X md P R a ma)(hb:VSs X md P R b mb):VS X md P R (.If c a b pos) (aY t ma mb):=(Qg j l hb).imp λD σ H q=>by
 obtain⟨ρ,O,F,m,r,s,k⟩:=q;unfold aY at k
 cases e:t ρ O with
 |ok c f =>
  rw[e] at k;refine⟨ρ,_,F,m,_,_,r,s,e,λn i d g h=>?_⟩;dsimp only at k
  cases c with
  |true =>
   rw[if_pos rfl] at k ⊢;exact⟨ρ,f,i,d,h,s.step g,iu g.toS k⟩
  |false =>
   rw[if_neg zp] at k ⊢;exact⟨ρ,f,i,d,h,s.step g,iu g.toS k⟩
 |ex x f=>rw[e] at k;exact False.elim k
 |no=>rw[e] at k;exact False.elim k
def aF(i:Nat)(m:M D):MS:=λρ O=>match m ρ O with
 | .ok d O'=>.nx (ρ.set i (some d)) O'
 | .ex x O'=>.ex x O'
 | .no=>.no
theorem xZ{K:Frag}{mg:Str->Option Value}{i:Nat}{m:M D}{t:TE}(h:md[i]?=some .v)(f:∀σ H Q,tM K mg md P (rV K) m σ H Q->t σ H Q){D:Ends}{σ:St}{H:Hp}(q:tMS K mg md P R (aF i m) D σ H):rm t (q9 i) D σ H:=by
 obtain⟨ρ,O,F,j,r,s,k⟩:=q;unfold aF at k
 cases e:m ρ O with
 |ok d l =>
  rw[e] at k;exact f _ _ _ ⟨ρ,_,F,j,_,_,r,s,e,λv n u a g b c=>k _ n u a g.toS b ((s.step g).setV h c)⟩
 |ex x l=>rw[e] at k;exact False.elim k
 |no=>rw[e] at k;exact False.elim k
theorem Uy{K:Frag}{mg:Str->Option Value}{i:Nat}{m:M D}{t:TE}(h:md[i]?=some .o)(f:∀σ H Q,tM K mg md P (rO K) m σ H Q->t σ H Q){D:Ends}{σ:St}{H:Hp}(q:tMS K mg md P R (aF i m) D σ H):rm t (q9 i) D σ H:=by
 obtain⟨ρ,O,F,j,r,s,k⟩:=q;unfold aF at k
 cases e:m ρ O with
 |ok d l =>
  rw[e] at k;exact f _ _ _ ⟨ρ,_,F,j,_,_,r,s,e,λv n u a g b c=>k _ n u a g.toS b (s.setO g h c)⟩
 |ex x l=>rw[e] at k;exact False.elim k
 |no=>rw[e] at k;exact False.elim k
theorem bH{i:Nat}{x:Str}{e:Expr}{pos pos':Pos}{m:M D}(hN:X.N.Nodup)(hi:X.N[i]?=some x)(a:Loc X.env.scope x)(h:VE X md P e m)(c:md[i]?=some .v:=by rfl)(b:swapsWith e (some (.Name x pos')) pos.line X.env=pure false:=by rfl)
  (d:X.fn x=true\/X.env.scope.names.lookup x=some .local:=by first | exact .inl rfl | exact .inr rfl | assumption):VS X md P R (.Assign [.Name x pos'] e pos) (aF i m):=(Ff (i:=i) hN hi a h b d).imp λD σ H q=>xZ c (λ_ _ _ z=>z) q
theorem jt{i:Nat}{x:Str}{e:Expr}{pos pos':Pos}{m:M D}(hN:X.N.Nodup)(hi:X.N[i]?=some x)(a:Loc X.env.scope x)(h:OE X md P e m)(c:md[i]?=some .o:=by rfl)(b:swapsWith e (some (.Name x pos')) pos.line X.env=pure false:=by rfl)
  (d:X.fn x=true\/X.env.scope.names.lookup x=some .local:=by first | exact .inl rfl | exact .inr rfl | assumption):VS X md P R (.Assign [.Name x pos'] e pos) (aF i m):=(Ff (i:=i) hN hi a h b d).imp λD σ H q=>Uy c (λ_ _ _ z=>z) q
abbrev MG:=D->aA->Option aA
def tMG(K:Frag)(mg:Str->Option Value)(md:List Md)(P:Pt)(g:MG):TG:=λv σ H Q=>∃ρ O F c d b,RlO K mg O H F c/\SlO K md P ρ σ H F c/\Rp K F c v d/\g d ρ=some b/\∀a,SlO K md P b a H F c->Q a H
def Uz(K:Frag)(mg:Str->Option Value)(md:List Md)(P:Pt)(g:List D->aA->Option aA):TGs:=λf σ H Q=>∃ρ O F c d b,RlO K mg O H F c/\SlO K md P ρ σ H F c/\Rps K F c f d/\g d ρ=some b/\∀a,SlO K md P b a H F c->Q a H
def VG(X:Cx)(md:List Md)(P:Pt)(a:Expr)(g:MG):Prop:=PG X a (tMG X.K X.mg md P g)
def VGs(X:Cx)(md:List Md)(P:Pt)(a:List Expr)(g:List D->aA->Option aA):Prop:=PGs X a (Uz X.K X.mg md P g)
theorem PG.imp{e:Expr}{t t':TG}(h:PG X e t)(k:∀v σ H Q,t' v σ H Q->t v σ H Q):PG X e t':=λpins s σ H v u Q I r q=>h pins s σ H v u Q I r (k v σ H Q q)
theorem PGs.imp{e:List Expr}{t t':TGs}(h:PGs X e t)(k:∀v σ H Q,t' v σ H Q->t v σ H Q):PGs X e t':=λpins s σ H v u Q I r q=>h pins s σ H v u Q I r (k v σ H Q q)
def mgN(i:Nat):MG:=λd ρ=>some (ρ.set i (some d))
theorem bL{i:Nat}{x:Str}{pos:Pos}(hN:X.N.Nodup)(hi:X.N[i]?=some x)(a:Loc X.env.scope x)(c:md[i]?=some .v:=by rfl)(f:X.fn x=true\/X.env.scope.names.lookup x=some .local:=by first | exact .inl rfl | exact .inr rfl | assumption):VG X md P (.Name x pos) (mgN i):=
 (Qh (i:=i) hN hi a f).imp λv σ H Q q=>by
  obtain⟨ρ,O,F,h,d,g,r,s,b,e,k⟩:=q;cases e;exact k _ (s.setV c b)
def dU:List D->aA->Option aA:=λa ρ=>match a with
 | []=>some ρ
 | _=>none
def bC(g:MG)(r:List D->aA->Option aA):List D->aA->Option aA:=λa ρ=>match a with
 |d::a=>(g d ρ).bind λb=>r a b
 | []=>none
theorem iQ:VGs X md P [] dU:=Qk.imp λv σ H Q q=>by
 obtain⟨ρ,O,F,d,b,c,r,s,a,e,k⟩:=q
 cases b with
 |nil=>cases e;exact⟨a.un0,k _ s⟩
 |cons _ _=>cases e
theorem dz{e:Expr}{a:List Expr}{g:MG}{r:List D->aA->Option aA}(h1:VG X md P e g)(h2:VGs X md P a r)(n:(assignEach (e::a) X.env).map (·.2)=assign e X.env::(assignEach a X.env).map (·.2):=by rfl):VGs X md P (e::a) (bC g r):=
 (Ql h1 h2 n).imp λv σ H Q q=>by
  obtain⟨ρ,O,F,h,b,c,f,s,m,e,k⟩:=q
  cases b with
  |nil=>cases e
  |cons d b =>
   obtain⟨x,j,rfl,l,u⟩:=m.un;unfold bC at e;dsimp only at e
   cases e1:g d ρ with
   |none=>rw[e1] at e;cases e
   |some ρ1 =>
    rw[e1] at e;exact⟨x,j,rfl,ρ,O,F,h,d,ρ1,f,s,l,e1,λy i=>⟨ρ1,O,F,h,b,c,f,i,u,e,k⟩⟩
def dM(n:Nat)(r:List D->aA->Option aA):MG:=λd ρ=>match d with
 | .tup ds=>if ds.length=n then r ds ρ else none
 | _=>none
theorem iR{b:List Expr}{pos:Pos}{k:Nat}{r:List D->aA->Option aA}(n:Nat)(u:X.calm=true)(h:VGs X md P b r)(l:(assignEach b X.env).length=n:=by rfl)(f:(assignEach b X.env).findIdx? (·.1)=none:=by rfl):VG X md P (.Tuple b k pos) (dM n r):=
 (Qn u h l f).imp λv σ H Q q=>by
  obtain⟨ρ,O,F,x,d,c,g,s,j,e,k⟩:=q
  cases d with
  |tup ds =>
   obtain⟨a,i,rfl,h1,h2⟩:=j.unT;unfold dM at e;dsimp only at e;split at e
   ·rename_i m;exact⟨a,i,rfl,Same.seqT g.fh h1,by rw[h2.length];exact m,ρ,O,F,x,ds,c,g,s,h2,e,k⟩
   ·cases e
  | _=>cases e
def iw(m:M D)(g:MG):MS:=λρ O=>match m ρ O with
 | .ok d O'=>match g d ρ with
  |some a=>.nx a O'
  |none=>.no
 | .ex x O'=>.ex x O'
 | .no=>.no
theorem rQ{a e:Expr}{pos:Pos}{m:M D}{g:MG}(h:VE X md P e m)(z:VG X md P a g)(y:swapsWithSole [a] e pos.line X.env=pure false:=by rfl)(hw:swappedStores [a] e X.env=pure none:=by rfl)
  (h1:(assignEach [a] X.env).map (·.2)=[assign a X.env]:=by rfl):VS X md P R (.Assign [a] e pos) (iw m g):=(Fe h z y hw h1).imp λD σ H q=>by
 obtain⟨ρ,O,F,B,r,s,k⟩:=q;unfold iw at k
 cases e:m ρ O with
 |ok d j =>
  rw[e] at k;dsimp only at k
  cases e2:g d ρ with
  |none=>rw[e2] at k;exact False.elim k
  |some ρ' =>
   rw[e2] at k;refine⟨ρ,_,F,B,_,_,r,s,e,λv E l b i f u=>?_⟩;exact⟨ρ,j,l,b,d,ρ',f,s.step i,u,e2,λc n=>k c E l b i.toS f n⟩
 |ex x j=>rw[e] at k;exact False.elim k
 |no=>rw[e] at k;exact False.elim k
end
structure lX(K:Frag)(mg:Str->Option Value)(P:Pt)(J:It)(ds:List D)(H F:Hp)(as:List Addr):Prop where
 turn:∀(i:Nat) (d:D) (H2 F2:Hp) (as2:List Addr),GrS P H F as H2 F2 as2->(∃O,RlO K mg O H2 F2 as2)->ds[i]?=some d->J.go i H2/\∀x H3,J.yld i H2 x H3->∃F3,Gr H2 F2 as2 H3 F3 as2/\(∀O,RlO K mg O H2 F2 as2->RlO K mg O H3 F3 as2)/\Rp K F3 as2 x d
 stop:∀(H2 F2:Hp) (as2:List Addr),GrS P H F as H2 F2 as2->(∃O,RlO K mg O H2 F2 as2)->J.stop ds.length H2
structure Hb(K:Frag)(mg:Str->Option Value)(J:It)(ds:List D)(H F:Hp)(as:List Addr):Prop where
 turn:∀(i:Nat) (d:D) (H2 F2:Hp) (as2:List Addr),Gr H F as H2 F2 as2->(∃O,RlO K mg O H2 F2 as2)->ds[i]?=some d->J.go i H2/\∀x H3,J.yld i H2 x H3->∃F3,Gr H2 F2 as2 H3 F3 as2/\(∀O,RlO K mg O H2 F2 as2->RlO K mg O H3 F3 as2)/\Rp K F3 as2 x d
 stop:∀(H2 F2:Hp) (as2:List Addr),Gr H F as H2 F2 as2->(∃O,RlO K mg O H2 F2 as2)->J.stop ds.length H2
theorem lX.e{K:Frag}{mg:Str->Option Value}{P:Pt}{J:It}{ds:List D}{H F:Hp}{f:List Addr}(h:lX K mg P J ds H F f):Hb K mg J ds H F f:=⟨λi d b c a g=>h.turn i d b c a g.toS,λb c a g=>h.stop b c a g.toS⟩
def yc(K:Frag)(mg:Str->Option Value)(md:List Md)(P:Pt)(m:M (List D)):TI:=λσ H Q=>∃ρ O F c f g,RlO K mg O H F c/\SlO K md P ρ σ H F c/\m ρ O=.ok f g /\
 ∀J b d a,Gr H F c b d a->RlO K mg g b d a->Hb K mg J f b d a->Q J b
def VIc(X:Cx)(md:List Md)(P:Pt)(a iter:Expr)(m:M (List D)):Prop:=PI X a iter (yc X.K X.mg md P m)
def tMI(K:Frag)(mg:Str->Option Value)(md:List Md)(P:Pt)(m:M (List D)):TI:=λσ H Q=>∃ρ O F c f g,RlO K mg O H F c/\SlO K md P ρ σ H F c/\m ρ O=.ok f g /\
 ∀J b d a,Gr H F c b d a->RlO K mg g b d a->lX K mg P J f b d a->Q J b
def VI(X:Cx)(md:List Md)(P:Pt)(a iter:Expr)(m:M (List D)):Prop:=PI X a iter (tMI X.K X.mg md P m)
section
variable {X:Cx}{md:List Md}{P:Pt}{R:RR}
theorem PI.imp{a e:Expr}{t t':TI}(h:PI X a e t)(k:∀σ H Q,t' σ H Q->t σ H Q):PI X a e t':=λpins s σ H Q I q=>h pins s σ H Q I (k σ H Q q)
theorem ye{b e:Expr}{m:M (List D)}(h:VI X md P b e m):VIc X md P b e m:=h.imp λσ H Q q=>by
 obtain⟨ρ,O,F,i,f,j,r,s,e,k⟩:=q;exact⟨ρ,O,F,i,f,j,r,s,e,λJ l n a g c d=>k J l n a g c d.e⟩
def dO(g:MG)(b:MS):List D->MS
 | [],ρ,O=>.nx ρ O
 |d::ds,ρ,O=>match g d ρ with
  |none=>.no
  |some a=>match b a O with
   | .nx ρ2 O2=>dO g b ds ρ2 O2
   | .ct ρ2 O2=>dO g b ds ρ2 O2
   | .bk ρ2 O2=>.nx ρ2 O2
   |r=>r
def bO(m:M (List D))(g:MG)(b:MS):MS:=λρ O=>match m ρ O with
 | .ok ds O'=>dO g b ds ρ O'
 | .ex x O'=>.ex x O'
 | .no=>.no
theorem UG{K:Frag}{mg:Str->Option Value}{m:M (List D)}{g:MG}{b:MS}{D:Ends}{σ:St}{H:Hp}(q:tMS K mg md P R (bO m g b) D σ H):xq (tMI K mg md P m) (tMG K mg md P g) (tMS K mg md P R b) D σ H:=by
 obtain⟨ρ,O,F,as,r,s,k⟩:=q;unfold bO at k
 cases e:m ρ O with
 |ex x B=>rw[e] at k;exact False.elim k
 |no=>rw[e] at k;exact False.elim k
 |ok ds O1 =>
  rw[e] at k;dsimp only at k;refine⟨ρ,_,F,as,_,_,r,s,e,λJ H1 F1 G g1 r1 hJ=>?_⟩;have k1:=iu (R:=R) g1.toS k;refine⟨λi m W L=>m=ds.length - i/\i<=ds.length/\∃z B Q c,GrS P H1 F1 G L Q c/\RlO K mg B L Q c/\SlO K md P z W L Q c/\iM K mg md P R D L Q c (dO g b (ds.drop i) z B),⟨ds.length,by simp,Nat.zero_le _,ρ,O1,F1,G,GrS.refl,r1,s.step g1,by rw[List.drop_zero];exact k1⟩,?_⟩;rintro i n W L ⟨rfl,hi,z,B,Q,c,g',r',s',k'⟩
  by_cases Y:i<ds.length
  ·have hd:=zj Y;obtain⟨go,yl⟩:=hJ.turn i _ L Q c g' ⟨B,r'⟩ hd;rw[List.drop_eq_getElem_cons Y] at k';refine .inr ⟨go,λj u=>∃h I l a,GrS P H1 F1 G u l a/\RlO K mg I u l a/\SlO K md P h j u l a/\iM K mg md P R D u l a (dO g b (ds.drop (i+1)) h I),λj u h2=>⟨ds.length - (i+1),by omega,rfl,Y,h2⟩,λx H3 y=>?_⟩;obtain⟨F3,Z,r3,hx⟩:=yl x H3 y;have r3':=r3 B r';unfold dO at k'
   cases eg:g ds[i] z with
   |none=>rw[eg] at k';exact False.elim k'
   |some ρ1 =>
    rw[eg] at k';dsimp only at k';refine⟨z,B,F3,c,ds[i],ρ1,r3',s'.step Z,hx,eg,λσ4 s4=>?_⟩;refine⟨ρ1,B,F3,c,r3',s4,?_⟩;have g4:GrS P H1 F1 G H3 F3 c:=g'.trans Z.toS
    have keep:=λ{f}=>iu (K:=K) (mg:=mg) (md:=md) (R:=R) (D:=D) (f:=f) (Z.toS (P:=P))
    cases eb:b ρ1 B with
    |nx h I =>
     rw[eb] at k'
     exact λj u l a E U T=>⟨h,I,l,a,g4.trans E,U,T,iu E (keep k')⟩
    |ct h I =>
     rw[eb] at k'
     exact λj u l a E U T=>⟨h,I,l,a,g4.trans E,U,T,iu E (keep k')⟩
    |bk h I =>
     rw[eb] at k'
     exact λj u l a E U T=>k' j u l a (Z.toS.trans E) U T
    |rt d I =>
     rw[eb] at k'
     exact λv u l a E U T=>k' v u l a (Z.toS.trans E) U T
    |ex _ _=>rw[eb] at k';exact False.elim k'
    |no=>rw[eb] at k';exact False.elim k'
  ·have hi':i=ds.length:=by omega
   subst hi';refine .inl ⟨hJ.stop L Q c g' ⟨B,r'⟩,?_⟩;rw[List.drop_length] at k';exact k' W L Q c GrS.refl r' s'
theorem eU{a iter:Expr}{body:List Stmt}{pos:Pos}{m:M (List D)}{g:MG}{b:MS}(h:X.calm=true)(hi:VI X md P a iter m)(f:VG X md P a g)(hb:VSs X md P R body b)(d:PassesOwn (model X.prog X.w) X.A X.env X.xe:=by exact PassesOwn.never)
  (c:∀x,foldedSetIterable iter X.env x=pure x:=by intro _;rfl):VS X md P R (.For a iter body [] pos) (bO m g b):=(Fj d h hi f hb c).imp λ_ _ _ q=>UG q
def gD(t:M Bool)(b:MS):Nat->MS
 | 0,_,_=>.no
 |n+1,ρ,O=>match t ρ O with
  | .ok true O1=>match b ρ O1 with
   | .nx ρ2 O2=>gD t b n ρ2 O2
   | .ct ρ2 O2=>gD t b n ρ2 O2
   | .bk ρ2 O2=>.nx ρ2 O2
   |r=>r
  | .ok false O1=>.nx ρ O1
  | .ex x O'=>.ex x O'
  | .no=>.no
def lY(n:Nat)(t:M Bool)(b:MS):MS:=gD t b n
theorem UJ{K:Frag}{mg:Str->Option Value}{n:Nat}{t:M Bool}{b:MS}{D:Ends}{σ:St}{H:Hp}(q:tMS K mg md P R (lY n t b) D σ H):Fg (tMT K mg md P t) (tMS K mg md P R b) D σ H:=by
 refine⟨λn h E=>tMS K mg md P R (gD t b n) D h E,⟨n,q⟩,?_⟩;rintro m σ1 H1 ⟨ρ,O,F,as,r,s,k⟩
 cases m with
 |zero=>exact False.elim k
 |succ m =>
  unfold gD at k
  cases e:t ρ O with
  |ex x Q=>rw[e] at k;exact False.elim k
  |no=>rw[e] at k;exact False.elim k
  |ok c O1 =>
   rw[e] at k;refine⟨ρ,_,F,as,_,_,r,s,e,λL I B y G=>?_⟩
   cases c with
   |false =>
    rw[if_neg zp];exact k σ1 L I B y.toS G (s.step y)
   |true =>
    rw[if_pos rfl];refine⟨λh E=>tMS K mg md P R (gD t b m) D h E,λh E J=>⟨m,ja m,J⟩,ρ,O1,I,B,G,s.step y,?_⟩;dsimp only at k
    have keep:=λ{f}=>iu (K:=K) (mg:=mg) (md:=md) (R:=R) (D:=D) (f:=f) (y.toS (P:=P))
    cases eb:b ρ O1 with
    |nx ρ2 O2 =>
     rw[eb] at k
     exact λg z u a l j i=>⟨ρ2,O2,u,a,j,i,iu l (keep k)⟩
    |ct ρ2 O2 =>
     rw[eb] at k
     exact λg z u a l j i=>⟨ρ2,O2,u,a,j,i,iu l (keep k)⟩
    |bk ρ2 O2 =>
     rw[eb] at k
     exact λg z u a l j i=>k g z u a (y.toS.trans l) j i
    |rt d O2 =>
     rw[eb] at k
     exact λg z u a l j i=>k g z u a (y.toS.trans l) j i
    |ex _ _=>rw[eb] at k;exact False.elim k
    |no=>rw[eb] at k;exact False.elim k
theorem Hc(n:Nat){c:Expr}{body:List Stmt}{pos:Pos}{t:M Bool}{b:MS}(d:TsE X md P c t)(hb:VSs X md P R body b)(a:PassesOwn (model X.prog X.w) X.A X.env X.xe:=by exact PassesOwn.never):VS X md P R (.While c body [] pos) (lY n t b):=
 (Qq a d hb).imp λ_ _ _ q=>UJ q
def cT(g:MG)(t:M Bool)(m:M D):List D->aA->au->List D->Res (List D)
 | [],ρ,O,acc=>.ok acc O
 |d::ds,ρ,O,acc=>match g d ρ with
  |none=>.no
  |some a=>match t a O with
   | .ok true O1=>match m a O1 with
    | .ok y O2=>cT g t m ds a O2 (acc++[y])
    | .ex x O'=>.ex x O'
    | .no=>.no
   | .ok false O1=>cT g t m ds a O1 acc
   | .ex x O'=>.ex x O'
   | .no=>.no
def ju(own:Nat)(cap:List Nat)(ρ:aA):aA:=List.replicate own none++cap.map λj=>(ρ[j]?).join
def dB(m:M (List D))(own:Nat)(cap:List Nat)(g:MG)(t:M Bool)(e:M D):M D:=λρ O=>(m ρ O).bind λa d=>if a.length<=1000000 then(cT g t e a (ju own cap ρ) d []).bind λb c=>.ok (.lst b) c else .no
def eQ:M Bool:=λ_ O=>.ok true O
def cMd(own:Nat)(cap:List Nat)(md:List Md):List Md:=List.replicate own .v++cap.map λj=>match md[j]? with
 |some .v=>.v
 | _=>.s
theorem Hd{K:Frag}{ρ:aA}{σ:St}{H F:Hp}{u:List Addr}{own:List Str}{cap:List Nat}(s:SlO K md P ρ σ H F u)(x:∀j∈cap,j<md.length):SlO K (cMd own.length cap md) (Pt.all H) (ju own.length cap ρ) (compSt own cap σ) H F u:=by
 refine⟨by simp[compSt,cMd],by simp[ju,cMd],λa h=>h,λi m d c b=>?_,λi j a g E h1=>?_,λ_ z=>nomatch z⟩
 ·unfold ju at b;unfold cMd at c;unfold compSt
  by_cases hi:i<own.length
  ·rw[zx (by simpa using hi),List.getElem?_replicate_of_lt hi] at b;cases b
  ·have hi':own.length<=i:=Nat.le_of_not_lt hi;rw[zE (by simpa using hi'),List.length_replicate,zq] at b c;rw[zE (by simpa using hi'),zd,zq]
   cases q:cap[i - own.length]? with
   |none=>rw[q] at b;cases b
   |some j =>
    rw[q] at c b;simp only[Option.map_some,Option.some.injEq] at c b ⊢
    cases q2:ρ[j]? with
    |none=>rw[q2] at b;cases b
    |some o =>
     rw[q2] at b;have e2':o=some d:=b;subst e2';obtain⟨y,v,h1,h2,h3⟩:=s.get q2;rw[h1] at c;refine⟨v,by rw[h2];rfl,?_⟩
     cases y with
     |v=>dsimp only at c;subst c;exact h3
     |s =>
      dsimp only at c;subst c
      rcases h3 with h3 | ⟨a,k,g,c,b,f,n,B,l⟩
      ·exact .inl h3
      ·exact .inr ⟨a,k,g,c,b,f,n,(show H a≠none by rw[f];exact λz=>nomatch z),l⟩
     |o =>
      dsimp only at c;subst c
      rcases h3 with⟨_,h3⟩ | ⟨a,k,g,c,b,f,G,n,B,l⟩
      ·exact .inl h3
      ·exact .inr ⟨a,k,g,c,b,f,n,(show H a≠none by rw[f];exact λz=>nomatch z),l⟩
 ·exfalso
  unfold cMd at h1
  by_cases hi:i<own.length
  ·rw[zx (by simpa using hi),List.getElem?_replicate_of_lt hi] at h1;cases h1
  ·have hi':own.length<=i:=Nat.le_of_not_lt hi;rw[zE (by simpa using hi'),List.length_replicate,zq] at h1
   cases q:cap[i - own.length]? with
   |none=>rw[q] at h1;cases h1
   |some j =>
    rw[q] at h1;simp only[Option.map_some,Option.some.injEq] at h1
    split at h1<;>cases h1
end
section
variable {X:Cx}{md:List Md}{P:Pt}{R:RR}
def xM(K:Frag)(mg:Str->Option Value)(md:List Md)(R:RR)(m:M D):TE:=λσ H Q=>∃P,tM K mg md P R m σ H Q
def xMT(K:Frag)(mg:Str->Option Value)(md:List Md)(m:M Bool):TT:=λσ H Q=>∃P,tMT K mg md P m σ H Q
def xMG(K:Frag)(mg:Str->Option Value)(md:List Md)(g:MG):TG:=λv σ H Q=>∃P,tMG K mg md P g v σ H Q
theorem xm{e:Expr}{m:M D}(h:∀P,PE X e (tM X.K X.mg md P R m)):PE X e (xM X.K X.mg md R m):=λpins s σ H Q I ⟨P,q⟩=>h P pins s σ H Q I q
theorem xmg{e:Expr}{g:MG}(h:∀P,VG X md P e g):PG X e (xMG X.K X.mg md g):=λpins s σ H v u Q I r ⟨P,q⟩=>h P pins s σ H v u Q I r q
theorem xmt{e:List Expr}{m:M Bool}(h:∀P,lQ X e (tMT X.K X.mg md P m)):lQ X e (xMT X.K X.mg md m):=λpins s σ H Q I ⟨P,q⟩=>h P pins s σ H Q I q
def VIf(X:Cx)(md:List Md)(P:Pt)(e:List Expr)(m:M Bool):Prop:=lQ X e (tMT X.K X.mg md P m)
theorem nH:VIf X md P [] eQ:=λpins s σ H Q I q=>by
 obtain⟨ρ,O,F,a,d,b,r,s,e,k⟩:=q;cases e;exact TQ pins _ σ H Q I (k H F a Gr.refl r)
theorem yg{c:Expr}{m:M Bool}(h:TsE X md P c m):VIf X md P [c] m:=TV h
theorem yh{K:Frag}{mg:Str->Option Value}{m:M (List D)}{own:List Str}{cap:List Nat}{g:MG}{t:M Bool}{e:M D}(hcap:∀j∈cap,j<md.length){σ:St}{H:Hp}{Q:VK}(q:tM K mg md P (rO K) (dB m own.length cap g t e) σ H Q):
  uN (yc K mg md P m) own cap (xMG K mg (cMd own.length cap md) g) (xMT K mg (cMd own.length cap md) t) (xM K mg (cMd own.length cap md) (rV K) e) σ H Q:=by
 obtain⟨ρ,O,F,as,d,OZ,r,s,eq,k⟩:=q;obtain⟨l,O1,e1,eq⟩:=Res.bind_ok eq;split at eq
 ·rename_i hz;obtain⟨yf,O2,e2,eq⟩:=Res.bind_ok eq;cases eq;refine⟨ρ,_,F,as,_,_,r,s,e1,λJ H1 F1 L g1 r1 hJ=>?_⟩;have sb:=Hd (own:=own) (s.step g1) hcap
  refine⟨λi n W Z U=>n=l.length - i/\i<=l.length/\∃f E u a b,Gr H1 F1 L U u a/\RlO K mg E U u a/\SlO K (cMd own.length cap md) (Pt.all H1) f Z U u a/\Rps K u a W b/\b.length<=i /\
   cT g t e (l.drop i) f E b=.ok yf OZ,⟨l.length,by simp,Nat.zero_le _,ju own.length cap ρ,O1,F1,L,[],Gr.refl,r1,sb,Rps.nil,zc _,by rw[List.drop_zero];exact e2⟩,?_⟩
  rintro i n W Z U ⟨rfl,hi,f,E,u,a,b,g',r',s',hy,hl,ec⟩
  by_cases I:i<l.length
  ·obtain⟨go,yl⟩:=hJ.turn i _ U u a g' ⟨E,r'⟩ (zj I)
   refine .inr ⟨go,?_,λW Y H2=>∃ρ2 O3 F2 B h,Gr H1 F1 L H2 F2 B/\RlO K mg O3 H2 F2 B/\SlO K (cMd own.length cap md) (Pt.all H1) ρ2 Y H2 F2 B/\Rps K F2 B W h/\h.length<=i+1 /\
    cT g t e (l.drop (i+1)) ρ2 O3 h=.ok yf OZ,λys2 Y H2 h2=>⟨l.length - (i+1),by omega,rfl,I,h2⟩,λx H3 y=>?_⟩
   ·rw[hy.length]
    have:=gn hz
    omega
   obtain⟨F3,g3,r3,hx⟩:=yl x H3 y;have r3':=r3 E r';have g13:=g'.trans g3;rw[List.drop_eq_getElem_cons I] at ec;unfold cT at ec
   cases eg:g l[i] f with
   |none=>rw[eg] at ec;cases ec
   |some ρ1 =>
    rw[eg] at ec;dsimp only at ec;refine⟨_,f,E,F3,a,l[i],ρ1,r3',s'.step g3,hx,eg,λσ4 s4=>?_⟩
    cases et:t ρ1 E with
    |ex _ _=>rw[et] at ec;cases ec
    |no=>rw[et] at ec;cases ec
    |ok c O4 =>
     rw[et] at ec;refine⟨_,ρ1,E,F3,a,c,O4,r3',s4,et,λH5 F5 as5 G r5=>?_⟩
     cases c with
     |false =>
      rw[if_neg zp];exact⟨ρ1,O4,F5,as5,b,g13.trans G,r5,s4.step G,(hy.gr g3).gr G,by omega,ec⟩
     |true =>
      rw[if_pos rfl];dsimp only at ec
      cases em:e ρ1 O4 with
      |ex _ _=>rw[em] at ec;cases ec
      |no=>rw[em] at ec;cases ec
      |ok yd O6 =>
       rw[em] at ec;refine⟨_,ρ1,O4,F5,as5,yd,O6,r5,s4.step G,em,λvy H7 F7 as7 g7 r7 hvy=>?_⟩;exact⟨ρ1,O6,F7,as7,b++[yd],(g13.trans G).trans g7,r7,(s4.step G).step g7,(((hy.gr g3).gr G).gr g7).snoc hvy,by rw[zh];show b.length+1<=i+1;omega,ec⟩
  ·have hi':i=l.length:=by omega
   subst hi';rw[List.drop_length] at ec;cases ec;refine .inl ⟨hJ.stop U u a g' ⟨_,r'⟩,?_,λp T=>?_⟩
   ·rw[hy.length];exact zH hl (gn hz)
   ·have hF:u p=none:=by
     cases q:u p with
     |none=>rfl
     |some o=>rw[r'.fh p o q] at T;cases T
    exact k _ _ u a ((g1.trans g').trans (Gr.lay T)) (r'.lay T) (.inr ⟨p,W,yf,rfl,rfl,bW,hF,λz=>r'.all z T,(g1.trans g').dm p T,hy⟩)
 ·cases eq
variable {tg iter elt:Expr}{ifs:List Expr}{scope:Scope}{pos:Pos}{mi:M (List D)}{g:MG}{t:M Bool}{e:M D}
theorem pI(a:Scope)(b own:List Str)(cap:List Nat)(m:X.calm=true)(hi:VIc X md P tg iter mi)
  (k:∀C s H ex P,VG (cP X scope C (bQ b own cap) s H ex) (cMd own.length cap md) P tg g) (h:∀C s H ex P,VIf (cP X scope C (bQ b own cap) s H ex) (cMd own.length cap md) P ifs t)
  (l:∀C s H ex P,VE (cP X scope C (bQ b own cap) s H ex) (cMd own.length cap md) P elt e)
  (c:∀j∈cap,j<md.length:=by decide) (d:X.env.scope=a:=by rfl) (f:X.N=b:=by rfl) (ok:nF a b scope own cap=true:=by decide +kernel) (i:∀x,foldedSetIterable iter X.env x=pure x:=by intro _;rfl):
  OE X md P (.ListComp elt [⟨tg,iter,ifs,0⟩] scope pos) (dB mi own.length cap g t e):=
 (T4 a b own cap m hi (λC s H ex=>xmg (k C s H ex)) (λC s H ex=>xmt (h C s H ex)) (λC s H ex=>xm (l C s H ex)) d f ok i).imp λ_ _ _ q=>yh c q
theorem yj{i:Nat}{x:Str}{pos' c:Pos}(f:Scope)(h own:List Str)(cap:List Nat)(hN:X.N.Nodup)(U:X.N[i]?=some x)(hl:Loc X.env.scope x)(hc:X.calm=true)(hi:VIc X md P tg iter mi)
  (hg:∀C s H ex P,VG (cP X scope C (bQ h own cap) s H ex) (cMd own.length cap md) P tg g) (W:∀C s H ex P,VIf (cP X scope C (bQ h own cap) s H ex) (cMd own.length cap md) P ifs t)
  (he:∀C s H ex P,VE (cP X scope C (bQ h own cap) s H ex) (cMd own.length cap md) P elt e)
  (Z:md[i]?=some .v:=by rfl) (m:∀j∈cap,j<md.length:=by decide) (E:swapsWith (.ListComp elt [⟨tg,iter,ifs,0⟩] scope pos) (some (.Name x pos')) c.line X.env=pure true:=by rfl)
  (hf:X.fn x=true\/X.env.scope.names.lookup x=some .local:=by first | exact .inl rfl | exact .inr rfl | assumption)
  (G:X.env.scope=f:=by rfl) (I:X.N=h:=by rfl) (ok:nF f h scope own cap=true:=by decide +kernel) (Y:∀x,foldedSetIterable iter X.env x=pure x:=by intro _;rfl):
  VS X md P R (.Assign [.Name x pos'] (.ListComp elt [⟨tg,iter,ifs,0⟩] scope pos) c) (aF i (dB mi own.length cap g t e)):=
 (GD (i:=i) f h own cap hN U hl hc hi (λC s H ex=>xmg (hg C s H ex)) (λC s H ex=>xmt (W C s H ex)) (λC s H ex=>xm (he C s H ex)) E hf G I ok Y).imp λD σ H q =>
  xZ Z (λσ H Q z=>yh m (by
   obtain⟨ρ,O,F,as,d,O',r,s,e,k⟩:=z;refine⟨ρ,_,F,as,_,_,r,s,e,λv T n l g L y=>?_⟩
   rcases y with⟨_,y⟩ | ⟨a,J,ds,rfl,rfl,e3,B,e5,e6,e7⟩
   ·exact k v T n l g L y
   ·have ff:Same n (upd n a (.lst J)):=λb u q=>by rw[aP (cG q B)];exact q
    exact k _ T (upd n a (.lst J)) l (g.frz e6 B) (L.frz e3 B e5 rfl) (Rp.mkL (.inl (.inl bW)) (Rps.mono ff (λ_ _ z=>z) _ e7)))) q
end
def vSp(K:Frag)(mg:Str->Option Value)(pm:List Md)(R:RR)(c:List D->au->Res D):Sp:=λvs H Q _ =>
 ∃i O F g d j,RlO K mg O H F g/\dI K H F g pm vs i/\c i O=.ok d j/\∀v f h b,Gr H F g f h b->RlO K mg j f h b->R (λa=>H a=none) f h b v d->Q v f
def bZ(n:Nat)(b:MS):List D->au->Res D:=λa O=>match b (a.map some++List.replicate (n - a.length) none) O with
 | .rt d O'=>.ok d O'
 | .nx _ O'=>.ok .non O'
 | .ex x O'=>.ex x O'
 | _=>.no
theorem dI.len{K:Frag}{H F:Hp}{a:List Addr}:∀{ms:List Md}{vs:List V}{ds:List D},dI K H F a ms vs ds->vs.length=ms.length/\ds.length=ms.length
 | [],[],[],_=>⟨rfl,rfl⟩
 |m::ms,v::vs,d::ds,h=>by
  have:=dI.len h.2
  simp[this.1,this.2]
 | [],[],_::_,h=>h.elim
 | [],_::_,[],h=>h.elim
 | [],_::_,_::_,h=>h.elim
 | _::_,[],[],h=>h.elim
 | _::_,[],_::_,h=>h.elim
 | _::_,_::_,[],h=>h.elim
theorem dI.get{K:Frag}{H F:Hp}{a:List Addr}:∀{ms:List Md}{vs:List V}{ds:List D}{i:Nat}{m:Md}{d:D},dI K H F a ms vs ds->ms[i]?=some m->ds[i]?=some d->∃v,vs[i]?=some v/\rA K m (λ_=>True) H F a v d
 |m::ms,v::vs,d::ds,0,m',d',h,e1,e2=>by
  simp at e1 e2
  subst e1 e2;exact⟨v,rfl,h.1⟩
 |m::ms,v::vs,d::ds,i+1,m',d',h,e1,e2=>by
  obtain⟨b,h1,h2⟩:=dI.get (i:=i) (m:=m') (d:=d') h.2 (by simpa using e1) (by simpa using e2);exact⟨b,by simpa using h1,h2⟩
 | [],[],[],_,_,_,_,e1,_=>by simp at e1
 | [],[],_::_,_,_,_,h,_,_=>h.elim
 | [],_::_,[],_,_,_,h,_,_=>h.elim
 | [],_::_,_::_,_,_,_,h,_,_=>h.elim
 | _::_,[],[],_,_,_,h,_,_=>h.elim
 | _::_,[],_::_,_,_,_,h,_,_=>h.elim
 | _::_,_::_,[],_,_,_,h,_,_=>h.elim
theorem Hf{K:Frag}{H F:Hp}{n:List Addr}{N:List Str}{pm g:List Md}{vs:List V}{ds:List D}(h:dI K H F n pm vs ds)(G:(pm++g).length=N.length)(k:∀m∈pm,m≠.o):
  SlO K (pm++g) (Pt.all H) (ds.map some++List.replicate (N.length - ds.length) none) (start N vs) H F n:=by
 obtain⟨h1,h2⟩:=h.len;rw[zh] at G
 have J:vs.length<=N.length:=by omega
 have no:∀i a,(ds.map some++List.replicate (N.length - ds.length) none)[i]?=some (some a)->i<ds.length:=λi a e=>by
  by_cases hi:i<ds.length
  ·exact hi
  ·rw[zE (by simpa using hi),List.getElem?_replicate] at e
   split at e<;>cases e
 refine⟨by unfold start;simp;omega,by simp;omega,λa z=>z,λi m d c b=>?_,λi j a l fs c b I=>?_,λ_ z=>nomatch z⟩
 ·have hi:=no i d b;rw[zx (by simpa using hi),zq] at b;rw[zx (by omega)] at c
  cases q:ds[i]? with
  |none=>rw[q] at b;cases b
  |some d' =>
   rw[q] at b;cases b;obtain⟨v,h3,h4⟩:=h.get c q;refine⟨v,?_,?_⟩
   ·unfold start;rw[zx (by simp;omega),zq,h3];rfl
   ·cases m with
    |v=>exact h4
    |s =>
     rcases h4 with h4 | ⟨a,E,l,B,y,f,x,u⟩
     ·exact .inl h4
     ·exact .inr ⟨a,E,l,B,y,f,x,(show H a≠none by rw[f];exact λz=>nomatch z),u⟩
    |o=>exact absurd rfl (k .o (zD c))
 ·have hi:=no i _ I;rw[zx (by omega)] at c;exact absurd rfl (k .o (zD c))
section
variable {Pr:Program}{w:World}{K:Frag}{mg:Str->Option Value}{base:Heap}
theorem dD{x:Str}{st:Stmt}{N ps:List Str}{k:Nat}(Df:Def K mg x st)(S:cg N ps (bu st))
  (hb:∀(kV I pm:Value) (an:Option Addr) (i ct:Value) (us:List Value),us.length=ps.length->bindArgs (PySem.W.fnOf x x (iK st) (fU st) (bu st) .none kV I pm an i ct) ⟨us,[]⟩=pure (ps.zip us))
  (pm J:List Md) {R:RR}{b:MS} (hR:ir R) (G:∀N H F l,R N H F l .non .non) (B:pm.length=ps.length:=by rfl) (Y:(pm++J).length=N.length:=by rfl) (X:∀m∈pm,m≠.o:=by decide)
  (body:∀(f:Addr) (i:Value) (A:Around) (outer:List Env) (s:Shared) (H:Hp) (E:XK),bM k (A.deeper (envOfC x (bu st) s.heap.objs.size f i))->∀P,VSs ((iZ CX0 Pr w K mg base N x (bu st) f i A outer s H E).nox) (pm++J) P R (fU st) b):
  Can Pr w K mg base x ps (k+1) (vSp K mg pm R (bZ N.length b)):=by
 refine Df.can (k:=k) S hb (λL H Q E h=>?_) (λf i A outer s H L Q E U h=>?_)
 ·obtain⟨u,O,F,l,d,O',r,a,_⟩:=h;rw[a.len.1,B]
 ·obtain⟨u,O,F,l,d,O',r,a,e,q⟩:=h;refine⟨_,body f i A outer s H E U (Pt.all H),?_⟩;refine⟨_,O,F,l,r,Hf a Y X,?_⟩;unfold bZ at e
  cases eb:b (u.map some++List.replicate (N.length - u.length) none) O with
  |rt d' O2 =>
   rw[eb] at e;cases e
   exact λv y z j g n T=>q v y z j g.gr n (hR _ _ _ _ _ _ _ (λc Z=>Classical.not_not.mp Z) T)
  |nx ρ O2 =>
   rw[eb] at e;cases e
   exact λσ' y z j g n _=>q _ y z j g.gr n (G _ _ _ _)
  |bk _ _=>rw[eb] at e;cases e
  |ct _ _=>rw[eb] at e;cases e
  |ex _ _=>rw[eb] at e;cases e
  |no=>rw[eb] at e;cases e
end
section
variable {X:Cx}{md:List Md}{P:Pt}{R:RR}{k:Nat}{x:Str}{ps:List Str}{p pos:Pos}{e:Expr}{es:List Expr}{pm:List Md}{c:List D->au->Res D}{ma:M (List D)}
def aM(c:List D->au->Res D)(ma:M (List D)):M D:=λρ O=>(ma ρ O).bind λa b=>c a b
theorem UL{K:Frag}{mg:Str->Option Value}(m:ir R){E:XK}{σ:St}{H:Hp}{Q:VK}(q:tM K mg md P R (aM c ma) σ H Q):xF (vSp K mg pm R c) [] E (tMA K mg md P pm ma) σ H Q:=by
 obtain⟨ρ,O,F,z,d,G,r,s,e,k⟩:=q;obtain⟨y,B,u,e⟩:=Res.bind_ok e;refine⟨ρ,_,F,z,_,_,r,s,u,λT U J b g h j=>?_⟩;dsimp only;rw[zT];exact⟨y,B,J,b,d,G,h,j,e,λv I L f n i hw=>k v I L f (g.trans n) i (m _ _ _ _ _ _ _ (λa l=>g.dm a l) hw)⟩
theorem Hg(i:ir R)(C:Can X.prog X.w X.K X.mg X.base x ps k (vSp X.K X.mg pm R c))(d:bM k X.A)(h:AE X md P pm (e::es) ma)(f:Gl X x:=by rfl)(b:(x == ("__debug__":Str))=false:=by decide)
  (g:starEach (e::es) X.env=(false,eval e X.env)::starEach es X.env:=by exact cQ rfl) (a:(backTo pos (starEach es X.env)).any (·.1)=false:=by exact fj rfl):PE X (.Call (.Name x p) (e::es) [] pos) (tM X.K X.mg md P R (aM c ma)):=
 (T5 C d h f b g a).imp λ_ _ _ q=>UL i q
end
section
variable {K:Frag}{mg:Str->Option Value}{H F:Hp}{as:List Addr}{O:au}{Q:VK}{d:D}{p:Addr}{xs:List V}{ds:List D}
theorem di{v:V}(r:RlO K mg O H F as)(k:∀f b c,Gr H F as b c as->RlO K mg O b c as->Ow K (λa=>H a=none) b c as f d->Q f b)(g:j8 d=true)(hv:Rp K F as v d):Q v H:=k v H F Gr.refl r (.inl ⟨g,hv⟩)
theorem RlO.frF(r:RlO K mg O H F as)(a:H p=none):F p=none:=by
 cases q:F p with
 |none=>rfl
 |some o=>rw[r.fh p o q] at a;cases a
theorem nJ(r:RlO K mg O H F as)(k:∀g c f,Gr H F as c f as->RlO K mg O c f as->Ow K (λa=>H a=none) c f as g (.lst ds)->Q g c)(b:H p=none)(h:Rps K F as xs ds):Q (.ref p) (upd H p (.lst xs)):=
 k _ _ F (Gr.lay b) (r.lay b) (.inr ⟨p,xs,ds,rfl,rfl,bW,r.frF b,λz=>r.all z b,b,h⟩)
theorem Hh(r:RlO K mg O H F as)(k:∀i f h,Gr H F as f h as->RlO K mg O f h as->Ow K (λa=>H a=none) f h as i (.tup ds)->Q i f)(c:H p=none)(j:Rps K F as xs ds):Q (.ref p) (upd H p (.tup xs)):=by
 have g:=r.frF c
 have ff:Same F (upd F p (.tup xs)):=λb u q=>by rw[aP (cG q g)];exact q
 exact k _ _ (upd F p (.tup xs)) ((Gr.lay c).frz c g) ((r.lay c).frz bW g (λz=>r.all z c) rfl) (.inl ⟨rfl,Rp.mkT (.inl bW) (Rps.mono ff (λ_ _ z=>z) _ j)⟩)
end
section
variable {X:Cx}
def UT(K:Frag):R2:=λx y H Q=>∃l b c a,x=.ref l/\y=.ref b/\RdK K H l c/\RdK K H b a/\c.length+a.length<=sizeLine/\∀p,H p=none->Q (.ref p) (upd H p (.lst (c++a)))
theorem UV:OpR X (binaryOp .Add) (UT X.K):=by
 intro pins s σ H x y v u Q I g f h;obtain⟨l,b,G,E,rfl,rfl,i,j,L,q⟩:=h;cases g;cases f;obtain⟨z,c,n,r,e⟩:=i.ok I;obtain⟨F,a,J,d,m⟩:=j.ok I;have O:=r.length;have B:=d.length;refine PySem.P.add_list e m ?_ (by rw[zr,zr];omega)
 have k:c.toArray++a.toArray=(c++a).toArray:=by simp
 rw[k];exact⟨.ref _,_,I.lnew (t':=s.toks) (r.append d) (by rw[zh];omega),rfl,q _ I.fresh⟩
def UW(K:Frag):R2:=λx y H Q=>∃l k a,x=.ref l/\y=.int k/\RdK K H l a/\-(2 ^ 63)<=k/\k<2 ^ 63/\a.length * k.toNat<=sizeLine /\
 ∀p,H p=none->Q (.ref p) (upd H p (.lst (List.replicate k.toNat a).flatten))
theorem U0:OpR X (binaryOp .Mult) (UW X.K):=by
 intro pins s σ H x y v u Q I J G h;obtain⟨l,k,P,rfl,rfl,O,h1,h2,B,q⟩:=h;cases J;obtain⟨t,rfl⟩:=G;obtain⟨z,b,n,r,e⟩:=O.ok I;have L:=r.length
 have hlen:b.toArray.size * k.toNat<=sizeLine:=by rw[zr,<-L];exact B
 have g:¬b.toArray.size * k.toNat>(2 ^ 63 - 1) / 8:=by
  have:(sizeLine:Nat)<=(2 ^ 63 - 1) / 8:=by decide
  omega
 have f:¬(!Builtin.List.listFitsIndex k)=true:=by
  rw[fitsIndex_both h1 h2];exact zp
 have c:¬Builtin.List.listTooLong (b.toArray.size * k.toNat)=true:=by
  rw[Gm hlen];exact zp
 have d:List.foldl (λj i=>j++i) #[] (List.replicate (if b.toArray.isEmpty=true then 0 else k.toNat) b.toArray)=(List.replicate k.toNat b).flatten.toArray:=by
  have f0:∀m:Nat,List.foldl (λj i=>j++i) #[] (List.replicate m b.toArray)=(List.replicate m b).flatten.toArray:=λm=>by
   have:=foldl_rep b m []
   rw[zM] at this;exact this
  rw[f0]
  cases b with
  |nil=>simp
  |cons a R=>rw[if_neg (by simp)]
 refine wpAny_binaryOp_repeat_ref (T:="list") (U:="int") (by decide) ⟨_,e,rfl⟩ (λE=>typeIs_int E k t) noFill_list_mul F.fills_int_mul F.slot_int_rmul repeat_list F.slot_int_index.lookup
  (call_meets F.slot_int_rmul (typeIs_int s k t) F.entry_int_rmul (F.args_int_rmul_2 _ _) (int___rmul___int_list k t l b.toArray n)
   ⟨e,rfl,⟨_,e,rfl⟩,call_meets F.slot_list_mul ⟨_,e,rfl⟩ F.entry_list_mul (F.args_list_mul_2 _ _) (AutoListH.list___mul___list_int_3 l b.toArray n k t f g c) ⟨e,?_⟩⟩)
 rw[d];exact⟨.ref _,_,I.lnew (t':=s.toks) (r.rep k.toNat) (by rw[len_rep,Nat.mul_comm];exact B),rfl,q _ I.fresh⟩
def aN:D->D->Option D
 | .int i,.int j=>some (.int (i+j))
 | .int i,.bl k=>some (.int (i+b2i k))
 | .str a,.str b=>if a.length+b.length<=1000000 then some (.str (a++b)) else none
 | .lst a,.lst b=>if a.length+b.length<=1000000 then some (.lst (a++b)) else none
 | .tup a,.tup b=>if a.length+b.length<=1000000/\a≠[] then some (.tup (a++b)) else none
 | _,_=>none
instance (a:List D):Decidable (a≠[]):=match a with
 | []=>isFalse λh=>h rfl
 | _::_=>isTrue λh=>nomatch h
theorem bU:OpD X (binaryOp .Add) aN:=by
 intro pins s σ H x y v u Q I g f h;obtain⟨O,F,T,R,B,d,r,m,l,e,k⟩:=h
 cases R with
 |int i =>
  cases(m.rp rfl).unI
  cases B with
  |int j =>
   cases(l.rp rfl).unI;cases e;exact QK pins s σ H _ _ v u Q I g f ⟨i,j,rfl,rfl,di r k rfl Rp.int⟩
  |bl j =>
   cases(l.rp rfl).unB;cases e;exact QV pins s σ H _ _ v u Q I g f ⟨i,j,rfl,rfl,di r k rfl Rp.int⟩
  | _=>cases e
 |str a =>
  cases(m.rp rfl).unS
  cases B with
  |str b =>
   cases(l.rp rfl).unS;simp only[aN] at e;split at e
   ·rename_i c;cases e;refine Ra pins s σ H _ _ v u Q I g f ⟨S a,S b,rfl,rfl,by rw[il,il];exact gn c,?_⟩;rw[T7];exact di r k rfl Rp.str
   ·cases e
  | _=>cases e
 |lst a =>
  obtain⟨p,n,rfl,h1,h2⟩:=m.list r.fh
  cases B with
  |lst b =>
   obtain⟨G,E,rfl,h3,h4⟩:=l.list r.fh;simp only[aN] at e;split at e
   ·rename_i c;cases e;exact UV pins s σ H _ _ v u Q I g f ⟨p,G,n,E,rfl,rfl,h1,h3,by rw[h2.length,h4.length];exact gn c,λq J=>nJ r k J (Rps.append h4 h2)⟩
   ·cases e
  | _=>cases e
 |tup a =>
  obtain⟨p,n,rfl,h1,h2⟩:=(m.rp rfl).unT
  cases B with
  |tup b =>
   obtain⟨G,E,rfl,h3,h4⟩:=(l.rp rfl).unT;simp only[aN] at e;split at e
   ·rename_i c;cases e
    have L:n≠[]:=λz=>c.2 (List.eq_nil_of_length_eq_zero (by rw[<-h2.length,z];rfl))
    refine R5 pins s σ H _ _ v u Q I g f ⟨p,G,n,E,rfl,rfl,Same.seqT r.fh h1,Same.seqT r.fh h3,L,by rw[h2.length,h4.length];exact gn c.1,λz=>?_,λ_ q J=>Hh r k J (Rps.append h4 h2)⟩;have P:b=[]:=List.eq_nil_of_length_eq_zero (by rw[<-h4.length,z];rfl);subst P;rw[zT] at k;exact di r k rfl (m.rp rfl)
   ·cases e
  | _=>cases e
 | _=>cases e
def gI(C:Int->Int->Bool)(f:Int->Int->Int):D->D->Option D
 | .int i,.int j=>if C i j=true then some (.int (f i j)) else none
 | _,_=>none
theorem ym{f:Value->Value->Sem Value}{a:Int->Int->Prop}{g:Int->Int->Int}{C:Int->Int->Bool}(h:OpR X f (rI a λi j=>.int (g i j)))(n:∀i j,C i j=true->a i j):OpD X f (gI C g):=by
 intro pins s σ H x y v u Q I c b B;obtain⟨O,F,J,G,E,d,r,m,l,e,k⟩:=B
 cases G with
 |int i =>
  cases(m.rp rfl).unI
  cases E with
  |int j =>
   cases(l.rp rfl).unI;simp only[gI] at e;split at e
   ·rename_i z;cases e;exact h pins s σ H _ _ v u Q I c b ⟨i,j,rfl,rfl,n i j z,di r k rfl Rp.int⟩
   ·cases e
  | _=>cases e
 | _=>cases e
def jL:D->D->Option D:=gI (λ_ _=>true) λi j=>i - j
theorem yo:OpD X (binaryOp .Sub) jL:=by
 intro pins s σ H x y v u Q I b a g;obtain⟨O,F,m,l,h,d,r,f,c,e,k⟩:=g
 cases l with
 |int i =>
  cases(f.rp rfl).unI
  cases h with
  |int j =>
   cases(c.rp rfl).unI;cases e;exact QL pins s σ H _ _ v u Q I b a ⟨i,j,rfl,rfl,di r k rfl Rp.int⟩
  | _=>cases e
 | _=>cases e
def pJ(i:Int):Bool:=decide (-(2 ^ 64)<i)&&decide (i<2 ^ 64)
theorem yp{i:Int}(h:pJ i=true):-(2 ^ 64)<i/\i<2 ^ 64:=by
 unfold pJ at h;rw[zu,decide_eq_true_eq,decide_eq_true_eq] at h;exact h
def cI:D->D->Option D
 | .int i,.int j=>if(pJ i || pJ j)=true then some (.int (i * j)) else none
 | .str l,.int n=>if -1000000<n/\n<1000000/\l.length * n.toNat<=16777216 then some (.str (List.replicate n.toNat l).flatten) else none
 | .lst l,.int n=>if -1000000<n/\n<1000000/\l.length * n.toNat<=1000000 then some (.lst (List.replicate n.toNat l).flatten) else none
 | _,_=>none
theorem iT:OpD X (binaryOp .Mult) cI:=by
 intro pins s σ H x y v u Q I c b h;obtain⟨O,F,J,G,m,d,r,g,f,e,k⟩:=h
 cases G with
 |int i =>
  cases(g.rp rfl).unI
  cases m with
  |int j =>
   cases(f.rp rfl).unI;simp only[cI] at e;split at e
   ·rename_i a;cases e;refine QM pins s σ H _ _ v u Q I c b ⟨i,j,rfl,rfl,?_,di r k rfl Rp.int⟩;rw[Bool.or_eq_true] at a
    rcases a with z | z
    ·exact .inl (yp z)
    ·exact .inr (yp z)
   ·cases e
  | _=>cases e
 |str l =>
  cases(g.rp rfl).unS
  cases m with
  |int n =>
   cases(f.rp rfl).unI;simp only[cI] at e;split at e
   ·rename_i a;cases e;exact Uo pins s σ H _ _ v u Q I c b ⟨l,n,rfl,rfl,a.1,a.2.1,a.2.2,di r k rfl Rp.str⟩
   ·cases e
  | _=>cases e
 |lst l =>
  obtain⟨p,B,rfl,h1,h2⟩:=g.list r.fh
  cases m with
  |int n =>
   cases(f.rp rfl).unI;simp only[cI] at e;split at e
   ·rename_i a;cases e;exact U0 pins s σ H _ _ v u Q I c b ⟨p,n,B,rfl,rfl,h1,by omega,by omega,by rw[h2.length];exact gn a.2.2,λq E=>nJ r k E (h2.rep _)⟩
   ·cases e
  | _=>cases e
 | _=>cases e
def bD:D->D->Option D:=gI (λ_ j=>decide (0<j)) λi j=>i % j
theorem dY:OpD X (binaryOp .Mod) bD:=ym QR λ_ _ h=>jg h
def dj:D->D->Option D:=gI (λ_ j=>decide (0<j)&&decide (j<1073741824)) λi j=>i / j
theorem j9:OpD X (binaryOp .FloorDiv) dj:=ym QQ λi j h=>by
 rw[zu,decide_eq_true_eq,decide_eq_true_eq] at h;exact h
def fG:D->D->Option D:=gI (λi j=>decide (0<=j)&&(decide (j<=1000000)&&pJ i)) λi j=>i ^ j.toNat
theorem pK:OpD X (binaryOp .Pow) fG:=ym QS λi j h=>by
 rw[zu,zu,decide_eq_true_eq,decide_eq_true_eq] at h
 have:=yp h.2.2
 exact⟨h.1,h.2.1,by omega⟩
def mUn(g:D->Option D)(m:M D):M D:=λρ O=>(m ρ O).bind λd a=>match g (bw a d) with
 |some y=>.ok y a
 |none=>.no
def f9:D->Option D
 | .int i=>some (.int (-i))
 | _=>none
theorem pL{md:List Md}{P:Pt}{a:Expr}{pos:Pos}{m:M D}(h:SE X md P a m):OE X md P (.UnaryOp .USub a pos) (mUn f9 m):=(QG QT h).imp λσ H Q q=>by
 obtain⟨ρ,O,F,l,d,z,r,s,e,k⟩:=q;obtain⟨x,n,j,e⟩:=Res.bind_ok e;refine⟨ρ,_,F,l,_,_,r,s,j,λv u y b g c f=>?_⟩
 cases ed:bw n x with
 |int i =>
  rw[ed] at e;cases e
  have:=Sv.lk f c
  rw[ed] at this;exact⟨i,(this.rp rfl).unI,k _ u y b g c (.inl ⟨rfl,Rp.int⟩)⟩
 | _=>rw[ed] at e;cases e
def gCI(f:Int->Int->Bool):D->D->Option D
 | .int i,.int j=>some (.bl (f i j))
 | _,_=>none
theorem Hi{f:Value->Value->Sem Value}{g:Int->Int->Bool}(h:OpR X f (rI0 λi j=>.bl (g i j))):OpD X f (gCI g):=by
 intro pins s σ H x y v u Q I b a m;obtain⟨O,F,B,z,n,d,r,l,c,e,k⟩:=m
 cases z with
 |int i =>
  cases(l.rp rfl).unI
  cases n with
  |int j =>
   cases(c.rp rfl).unI;cases e;exact h pins s σ H _ _ v u Q I b a ⟨i,j,rfl,rfl,di r k rfl Rp.bl⟩
  | _=>cases e
 | _=>cases e
def gLt:D->D->Option D:=gCI λi j=>decide (i<j)
def gGt:D->D->Option D:=gCI λi j=>decide (j<i)
def gGe:D->D->Option D:=gCI λi j=>decide (j<=i)
def gLe:D->D->Option D
 | .int i,.int j=>some (.bl (decide (i<=j)))
 | .str a,.str b=>some (.bl (!decide (b<a)))
 | _,_=>none
theorem Hj:OpD X (compareOp .LtE) gLe:=by
 intro pins s σ H x y v u Q I f c m;obtain⟨O,F,z,n,l,d,r,h,g,e,k⟩:=m
 cases n with
 |int i =>
  cases(h.rp rfl).unI
  cases l with
  |int j =>
   cases(g.rp rfl).unI;cases e;exact QX pins s σ H _ _ v u Q I f c ⟨i,j,rfl,rfl,di r k rfl Rp.bl⟩
  | _=>cases e
 |str a =>
  cases(h.rp rfl).unS
  cases l with
  |str b =>
   cases(g.rp rfl).unS;cases e;refine T8 pins s σ H _ _ v u Q I f c ⟨S a,S b,rfl,rfl,?_⟩;rw[rK,rK];exact di r k rfl Rp.bl
  | _=>cases e
 | _=>cases e
theorem jw:OpD X (compareOp .Lt) gLt:=Hi QW
theorem nM:OpD X (compareOp .Gt) gGt:=Hi QZ
mutual
def toP:D->PyData
 | .non=>.none
 | .bl b=>.bool b
 | .int i=>.int i
 | .str l=>.str (S l)
 | .lst ds=>.list (jM ds)
 | .tup ds=>.tuple (jM ds)
 | .dic _ _=>.none
 | .ob _=>.none
def jM:List D->List PyData
 | []=>[]
 |d::ds=>toP d::jM ds
end
mutual
def eX:D->Bool
 | .lst ds=>kh ds
 | .tup ds=>kh ds
 | .dic _ _=>false
 | .ob _=>false
 | _=>true
def kh:List D->Bool
 | []=>true
 |d::ds=>eX d&&kh ds
end
section
variable {K:Frag}{F:Hp}{as:List Addr}
mutual
theorem Rp.rep:∀(d:D) {v:V},eX d=true->Rp K F as v d->Rep K F v (toP d)
 | .non,v,_,h=>by rw[toP,Rep];exact h.unN
 | .bl b,v,_,h=>by rw[toP,Rep];exact h.unB
 | .int i,v,_,h=>by rw[toP,Rep];exact h.unI
 | .str x,v,_,h=>by rw[toP,Rep];exact h.unS
 | .lst ds,v,hp,h=>by
  obtain⟨a,c,h1,h2,h3⟩:=h.unL;rw[toP,Rep];rw[eX] at hp;exact⟨a,c,h1,h2.sq,Rps.rep' ds hp h3⟩
 | .tup ds,v,hp,h=>by
  obtain⟨a,c,h1,h2,h3⟩:=h.unT;rw[toP,Rep];rw[eX] at hp;exact⟨a,c,h1,h2,Rps.rep' ds hp h3⟩
 | .dic _ _,v,hp,h=>by rw[eX] at hp;cases hp
 | .ob _,v,hp,h=>by rw[eX] at hp;cases hp
theorem Rps.rep':∀(ds:List D) {xs:List V},kh ds=true->Rps K F as xs ds->cZ K F xs (jM ds)
 | [],xs,_,h=>by rw[h.un0,jM];exact cZ.nil
 |d::ds,xs,hp,h=>by
  obtain⟨x,r,rfl,h2,h3⟩:=h.un;rw[kh,zu] at hp;rw[jM];exact cZ.cons (Rp.rep d hp.1 h2) (Rps.rep' ds hp.2 h3)
end
theorem Lk.rep{H:Hp}{d:D}{v:V}(h:Lk K H F as v d)(fh:Same F H)(b:eX d=true):Rep K H v (toP d):=by
 rcases h with h | ⟨a,c,f,rfl,rfl,h1,h2⟩
 ·exact Rep.mono fh _ (Rp.rep d b h)
 ·rw[eX] at b;rw[toP,Rep];exact⟨a,c,rfl,.inl (.inl h1),cZ.mono fh _ (Rps.rep' f b h2)⟩
end
def okE(d:D):Bool:=eX d&&okD (toP d)
def gh(a b:D):Bool:=PyData.eqv (toP a) (toP b)
def gEq:D->D->Option D
 | .int i,.int j=>some (.bl (decide (i=j)))
 | .str a,.str b=>some (.bl (decide (a=b)))
 | .bl a,.bl b=>some (.bl (decide (a=b)))
 |a,b=>if(okE a&&okE b)=true then some (.bl (gh a b)) else none
def gNe:D->D->Option D
 | .int i,.int j=>some (.bl (!decide (i=j)))
 | .str a,.str b=>some (.bl (!decide (a=b)))
 | .bl a,.bl b=>some (.bl (!decide (a=b)))
 |a,b=>if(okE a&&okE b)=true then some (.bl (!gh a b)) else none
theorem Hl(a b:List Nat):decide (V.str (S a)=V.str (S b))=decide (a=b):=by
 by_cases h:a=b
 ·subst h;simp
 ·rw[zf h,zf];intro z;exact h (uO (V.str.inj z))
theorem Hm(a b:Int):decide (V.int a=V.int b)=decide (a=b):=by
 by_cases h:a=b
 ·subst h;simp
 ·rw[zf h,zf];intro z;exact h (V.int.inj z)
theorem Hn(a b:Bool):decide (V.bl a=V.bl b)=decide (a=b):=by
 cases a<;>cases b<;>rfl
theorem U3{a b d:D}(h:gEq a b=some d):(∃i j,a=.int i/\b=.int j/\d=.bl (decide (i=j)))\/(∃i j,a=.str i/\b=.str j/\d=.bl (decide (i=j)))\/(∃i j,a=.bl i/\b=.bl j/\d=.bl (decide (i=j))) \/
  (okE a=true/\okE b=true/\d=.bl (gh a b)):=by
 unfold gEq at h;split at h
 ·cases h;exact .inl ⟨_,_,rfl,rfl,rfl⟩
 ·cases h;exact .inr (.inl ⟨_,_,rfl,rfl,rfl⟩)
 ·cases h;exact .inr (.inr (.inl ⟨_,_,rfl,rfl,rfl⟩))
 ·split at h
  ·rename_i c;rw[zu] at c;cases h;exact .inr (.inr (.inr ⟨c.1,c.2,rfl⟩))
  ·cases h
theorem U4{a b d:D}(h:gNe a b=some d):(∃i j,a=.int i/\b=.int j/\d=.bl (!decide (i=j)))\/(∃i j,a=.str i/\b=.str j/\d=.bl (!decide (i=j)))\/(∃i j,a=.bl i/\b=.bl j/\d=.bl (!decide (i=j))) \/
  (okE a=true/\okE b=true/\d=.bl (!gh a b)):=by
 unfold gNe at h;split at h
 ·cases h;exact .inl ⟨_,_,rfl,rfl,rfl⟩
 ·cases h;exact .inr (.inl ⟨_,_,rfl,rfl,rfl⟩)
 ·cases h;exact .inr (.inr (.inl ⟨_,_,rfl,rfl,rfl⟩))
 ·split at h
  ·rename_i c;rw[zu] at c;cases h;exact .inr (.inr (.inr ⟨c.1,c.2,rfl⟩))
  ·cases h
theorem dR{k:Nat}(g:bM k X.A):OpD X (compareOp .Eq) gEq:=by
 intro pins s σ H x y v u Q I b a h;obtain⟨O,F,n,m,l,d,r,f,c,e,k⟩:=h
 rcases U3 e with⟨i,j,rfl,rfl,rfl⟩ | ⟨i,j,rfl,rfl,rfl⟩ | ⟨i,j,rfl,rfl,rfl⟩ | ⟨h1,h2,rfl⟩
 ·cases(f.rp rfl).unI;cases(c.rp rfl).unI;refine xB pins s σ H _ _ v u Q I b a ⟨rfl,?_⟩;rw[Hm];exact di r k rfl Rp.bl
 ·cases(f.rp rfl).unS;cases(c.rp rfl).unS;refine xB pins s σ H _ _ v u Q I b a ⟨rfl,?_⟩;rw[Hl];exact di r k rfl Rp.bl
 ·cases(f.rp rfl).unB;cases(c.rp rfl).unB;refine xB pins s σ H _ _ v u Q I b a ⟨rfl,?_⟩;rw[Hn];exact di r k rfl Rp.bl
 ·unfold okE at h1 h2;rw[zu] at h1 h2;exact T6 g pins s σ H _ _ v u Q I b a ⟨toP m,toP l,f.rep r.fh h1.1,c.rep r.fh h2.1,h1.2,h2.2,di r k rfl Rp.bl⟩
theorem kj{k:Nat}(g:bM k X.A):OpD X (compareOp .NotEq) gNe:=by
 intro pins s σ H x y v u Q I b a h;obtain⟨O,F,n,m,l,d,r,f,c,e,k⟩:=h
 rcases U4 e with⟨i,j,rfl,rfl,rfl⟩ | ⟨i,j,rfl,rfl,rfl⟩ | ⟨i,j,rfl,rfl,rfl⟩ | ⟨h1,h2,rfl⟩
 ·cases(f.rp rfl).unI;cases(c.rp rfl).unI;refine xC pins s σ H _ _ v u Q I b a ⟨rfl,?_⟩;rw[Hm];exact di r k rfl Rp.bl
 ·cases(f.rp rfl).unS;cases(c.rp rfl).unS;refine xC pins s σ H _ _ v u Q I b a ⟨rfl,?_⟩;rw[Hl];exact di r k rfl Rp.bl
 ·cases(f.rp rfl).unB;cases(c.rp rfl).unB;refine xC pins s σ H _ _ v u Q I b a ⟨rfl,?_⟩;rw[Hn];exact di r k rfl Rp.bl
 ·unfold okE at h1 h2;rw[zu] at h1 h2;exact GF g pins s σ H _ _ v u Q I b a ⟨toP m,toP l,f.rep r.fh h1.1,c.rep r.fh h2.1,h1.2,h2.2,di r k rfl Rp.bl⟩
def toV:D->V
 | .bl b=>.bl b
 | .int i=>.int i
 | .str l=>.str (S l)
 | _=>.non
def uT:D->Bool
 | .non=>true
 | .bl _=>true
 | .int _=>true
 | .str _=>true
 | _=>false
def eqF(x y:D):Bool:=eqV (toV x) (toV y)
def gIn(a:Bool):D->D->Option D
 | .str [c],.str l=>some (.bl (a ^^ decide (c∈l)))
 |x,.lst ds=>if(uT x&&ds.all uT)=true then some (.bl (a ^^ ds.any λy=>eqF y x)) else none
 |x,.tup ds=>if(uT x&&ds.all uT)=true then some (.bl (a ^^ ds.any λy=>eqF y x)) else none
 | _,_=>none
def gIx:D->D->Option D
 | .lst ds,.int i=>atI ds i
 | .tup ds,.int i=>atI ds i
 | .str l,.int i=>if l.length<=1000000 then(atI l i).map λc=>.str [c] else none
 | _,_=>none
theorem Rps.atI{K:Frag}{F:Hp}{a:List Addr}{xs:List V}{ds:List D}{i:Int}{d:D}(h:Rps K F a xs ds)(e:atI ds i=some d):∃v,L2.atI xs i=some v/\Rp K F a v d:=by
 unfold L2.atI at e ⊢;rw[h.length]
 cases q:ixN ds.length i with
 |none=>rw[q] at e;cases e
 |some j =>
  rw[q] at e;exact h.get' e
def rDv(K:Frag)(mg:Str->Option Value)(g:D->D->Option D):R2:=λx y H Q=>∃O F a f c d,RlO K mg O H F a/\Lk K H F a x f/\Lk K H F a y c/\g f c=some d/\∀b,Rp K F a b d->Q b H
theorem U5:IxR X (rDv X.K X.mg gIx):=by
 intro value slice pins s σ H x y v u Q I g f G a;obtain⟨O,F,L,J,B,d,r,j,h,e,k⟩:=G
 cases J with
 |lst ds =>
  obtain⟨p,b,rfl,h1,h2⟩:=j.list r.fh
  cases B with
  |int i =>
   cases(h.rp rfl).unI;obtain⟨z,n,m⟩:=h2.atI e;exact Sd value slice pins s σ H _ _ v u Q I g f ⟨p,b,i,z,rfl,rfl,h1.sq,n,k z m⟩ a
  | _=>cases e
 |tup ds =>
  obtain⟨p,b,rfl,h1,h2⟩:=(j.rp rfl).unT
  cases B with
  |int i =>
   cases(h.rp rfl).unI;obtain⟨z,n,m⟩:=h2.atI e;exact Sh value slice pins s σ H _ _ v u Q I g f ⟨p,b,i,z,rfl,rfl,Same.seqT r.fh h1,n,k z m⟩ a
  | _=>cases e
 |str l =>
  cases(j.rp rfl).unS
  cases B with
  |int i =>
   cases(h.rp rfl).unI;simp only[gIx] at e;split at e
   ·rename_i E
    cases q:L2.atI l i with
    |none=>rw[q] at e;cases e
    |some c =>
     rw[q] at e;cases e;exact Sq value slice pins s σ H _ _ v u Q I g f ⟨S l,i,c,rfl,rfl,by rw[il];exact gn E,by rw[rK];exact q,k _ Rp.str⟩ a
   ·cases e
  | _=>cases e
 | _=>cases e
theorem bz{md:List Md}{P:Pt}{a b:Expr}{pos:Pos}{ma mb:M D}(I:SE X md P a ma)(hb:SE X md P b mb)(E:uF b:=by intro _ _;rfl):VE X md P (.Subscript a b pos) (ak gIx ma mb):=(R6 U5 I hb E).imp λσ H Q h=>by
 obtain⟨ρ,O,F,R,d,O',r,sl,e,k⟩:=h;obtain⟨x,Z,L,e⟩:=Res.bind_ok e;obtain⟨y,Y,J,e⟩:=Res.bind_ok e;split at e
 ·rename_i W G;cases e;refine⟨ρ,_,F,R,_,_,r,sl,L,λv H1 U g j n z=>?_⟩;refine⟨ρ,_,U,g,_,_,n,sl.step j,J,λu T l c i f B=>?_⟩;exact⟨_,l,c,_,_,_,f,Sv.lk (Sv.gr z i) f,Sv.lk B f,G,λm hw=>k m T l c (j.trans i) f hw⟩
 ·cases e
def tMO(K:Frag)(mg:Str->Option Value)(md:List Md)(P:Pt)(m:M (Option Int)):TO:=λσ H Q =>
 ∃ρ O F c b f,RlO K mg O H F c/\SlO K md P ρ σ H F c/\m ρ O=.ok b f/\∀d g a,Gr H F c d g a->RlO K mg f d g a->Q b d
def VO(X:Cx)(md:List Md)(P:Pt)(e:Option Expr)(m:M (Option Int)):Prop:=PO X e (tMO X.K X.mg md P m)
theorem PO.imp{e:Option Expr}{t t':TO}(h:PO X e t)(k:∀σ H Q,t' σ H Q->t σ H Q):PO X e t':=λpins s σ H Q I q=>h pins s σ H Q I (k σ H Q q)
def moN:M (Option Int):=λ_ O=>.ok none O
def moS(m:M D):M (Option Int):=λρ O=>(m ρ O).bind λd a=>match d with
 | .int i=>.ok (some i) a
 | _=>.no
theorem Ho{md:List Md}{P:Pt}:VO X md P none moN:=RX.imp λσ H Q q=>by
 obtain⟨ρ,O,F,a,d,b,r,s,e,k⟩:=q;cases e;exact k H F a Gr.refl r
theorem gj{md:List Md}{P:Pt}{e:Expr}{m:M D}(h:VE X md P e m):VO X md P (some e) (moS m):=(RZ h).imp λσ H Q q=>by
 obtain⟨ρ,O,F,j,d,y,r,s,e,k⟩:=q;obtain⟨x,u,g,e⟩:=Res.bind_ok e
 cases x with
 |int i =>
  cases e;exact⟨ρ,_,F,j,_,_,r,s,g,λv l n a f b c=>⟨i,Rp.unI c,k l n a f b⟩⟩
 | _=>cases e
def gSl(d:D)(lo hi:Option Int):Option D:=match d with
 | .lst ds=>some (.lst (fD ds lo hi))
 | .tup ds=>some (.tup (fD ds lo hi))
 | .str l=>if l.length<=16777216 then some (.str (fD l lo hi)) else none
 | _=>none
def U6(K:Frag)(mg:Str->Option Value):V->Option Int->Option Int->Hp->VK->Prop:=λx lo hi H Q=>∃O F b h d,RlO K mg O H F b/\Lk K H F b x h/\gSl h lo hi=some d /\
 ∀g c f,Gr H F b c f b->RlO K mg O c f b->Ow K (λa=>H a=none) c f b g d->Q g c
theorem Rps.cut{K:Frag}{F:Hp}{a:List Addr}{xs:List V}{ds:List D}(h:Rps K F a xs ds)(lo hi:Option Int):Rps K F a (j0 xs lo hi) (fD ds lo hi):=by
 unfold j0 fD;rw[h.length];exact(h.drop _).take _
theorem U7:SlR X (U6 X.K X.mg):=by
 intro pins s σ H x v vl c lo hi sl Q I f i g pu h;obtain⟨O,F,u,n,d,r,a,e,k⟩:=h
 cases n with
 |lst ds =>
  obtain⟨p,b,rfl,h1,h2⟩:=a.list r.fh;cases e;exact Sy pins s σ H _ v vl c lo hi sl Q I f i g pu ⟨p,b,rfl,h1.sq,λq j=>nJ r k j (h2.cut lo hi)⟩
 |tup ds =>
  obtain⟨p,b,rfl,h1,h2⟩:=(a.rp rfl).unT;cases e;refine Ui X.K rfl pins s σ H _ v vl c lo hi sl Q I f i g pu ⟨p,b,rfl,Same.seqT r.fh h1,λz=>?_,λ_ q j=>Hh r k j (h2.cut lo hi)⟩
  have:fD ds lo hi=ds:=by
   unfold fD;rw[<-h2.length,z.1,z.2,List.drop_zero,Nat.sub_zero,h2.length,List.take_length]
  rw[this] at k;exact di r k rfl (a.rp rfl)
 |str l =>
  cases(a.rp rfl).unS;simp only[gSl] at e;split at e
  ·rename_i m;cases e;exact Ug pins s σ H _ v vl c lo hi sl Q I f i g pu ⟨l,rfl,zH m (Nat.le_of_eq sizeLine_eq.symm),di r k rfl Rp.str⟩
  ·cases e
 | _=>cases e
def mSl(m:M D)(lo hi:M (Option Int)):M D:=λρ O=>(m ρ O).bind λd c=>(lo ρ c).bind λl b=>(hi ρ b).bind λh a=>match gSl (bw a d) l h with
 |some y=>.ok y a
 |none=>.no
end
section
variable {X:Cx}{md:List Md}{P:Pt}{R:RR}
theorem km{e:Expr}{lo hi:Option Expr}{L pos:Pos}{m:M D}{ml n:M (Option Int)}(Z:SE X md P e m)(U:VO X md P lo ml)(W:VO X md P hi n):OE X md P (.Subscript e (.Slice lo hi none L) pos) (mSl m ml n):=(R0 U7 Z U W).imp λσ H Q q=>by
 obtain⟨ρ,O,F,as,d,O',r,s,e,k⟩:=q;obtain⟨x,O1,e1,e⟩:=Res.bind_ok e;obtain⟨l,O2,e2,e⟩:=Res.bind_ok e;obtain⟨h,O3,e3,e⟩:=Res.bind_ok e;split at e
 ·rename_i y Y;cases e;refine⟨ρ,_,F,as,_,_,r,s,e1,λv H1 F1 i B I T=>?_⟩;refine⟨ρ,_,F1,i,_,_,I,s.step B,e2,λH2 F2 g z G=>?_⟩;have c:=B.trans z;refine⟨ρ,_,F2,g,_,_,G,s.step c,e3,λH3 F3 f u j=>?_⟩;have b:=c.trans u;exact⟨_,F3,f,_,_,j,Sv.lk (Sv.gr (Sv.gr T z) u) j,Y,λE H' F' g' J hw=>k E H' F' f (b.trans g') J (fV _ _ _ _ _ _ _ (λa ha=>b.dm a ha) hw)⟩
 ·cases e
def Lks(K:Frag)(H F:Hp)(a:List Addr):List V->List D->Prop
 | [],[]=>True
 |v::vs,d::ds=>Lk K H F a v d/\Lks K H F a vs ds
 | _,_=>False
theorem dI.lks{K:Frag}{mg:Str->Option Value}{O:au}{H F:Hp}{a:List Addr}(r:RlO K mg O H F a):∀{ms:List Md}{vs:List V}{ds:List D},dI K H F a ms vs ds->Lks K H F a vs (ds.map (bw O))
 | [],[],[],_=>trivial
 |m::ms,v::vs,d::ds,h=>by
  refine⟨?_,dI.lks r h.2⟩
  have h1:Sv K H F a v d:=by
   cases m with
   |v=>exact .inl h.1
   |s=>exact h.1
   |o=>exact h.1
  exact h1.lk r
 | [],[],_::_,h=>h.elim
 | [],_::_,[],h=>h.elim
 | [],_::_,_::_,h=>h.elim
 | _::_,[],[],h=>h.elim
 | _::_,[],_::_,h=>h.elim
 | _::_,_::_,[],h=>h.elim
def rC(K:Frag)(mg:Str->Option Value)(g:List D->Option D):List V->Hp->VK->Prop:=λj H Q=>∃O F b i d,RlO K mg O H F b/\Lks K H F b j i/\g i=some d /\
 ∀h c f,Gr H F b c f b->RlO K mg O c f b->Ow K (λa=>H a=none) c f b h d->Q h c
abbrev lZ(X:Cx)(f:Value)(g:List D->Option D):Prop:=iH X f (rC X.K X.mg g)
def aL(g:List D->Option D)(ma:M (List D)):M D:=λρ O=>(ma ρ O).bind λb a=>match g (b.map (bw a)) with
 |some d=>.ok d a
 |none=>.no
theorem uU{K:Frag}{mg:Str->Option Value}{g:List D->Option D}{ms:List Md}{ma:M (List D)}{σ:St}{H:Hp}{Q:VK}(q:tM K mg md P (rO K) (aL g ma) σ H Q):tCB (rC K mg g) (tMA K mg md P ms ma) σ H Q:=by
 obtain⟨ρ,O,F,x,d,L,r,s,e,k⟩:=q;obtain⟨I,J,u,e⟩:=Res.bind_ok e;split at e
 ·rename_i y l;cases e;refine⟨ρ,_,F,x,_,_,r,s,u,λG T B b f c j=>?_⟩;exact⟨_,B,b,_,_,c,j.lks c,l,λh z E n i hw=>k h z E b (f.trans n) i (fV _ _ _ _ _ _ _ (λa m=>f.dm a m) hw)⟩
 ·cases e
theorem cD{x:Str}{p pos:Pos}{e:Expr}{a:List Expr}{d:String}{g:List D->Option D}{ms:List Md}{ma:M (List D)}(k:lZ X (.builtin d) g)(h:X.mg x=none)(l:AE X md P ms (e::a) ma)(hv:bootBuiltins x=some (.builtin d):=by decide +kernel)(i:Gl X x:=by rfl)
  (f:x≠"__name__":=by decide) (c:(x == ("__debug__":Str))=false:=by decide) (j:starEach (e::a) X.env=(false,eval e X.env)::starEach a X.env:=by exact cQ rfl) (b:(backTo pos (starEach a X.env)).any (·.1)=false:=by exact fj rfl):
  OE X md P (.Call (.Name x p) (e::a) [] pos) (aL g ma):=(uE k i h hv l f c j b).imp λ_ _ _ q=>uU q
theorem pM{x:Str}{p pos:Pos}{e:Expr}{a:List Expr}{T:String}{g:List D->Option D}{ms:List Md}{ma:M (List D)}(j:lZ X (.type T) g)(f:X.mg x=none)(k:AE X md P ms (e::a) ma)(hv:bootBuiltins x=some (.type T):=by decide +kernel)(h:Gl X x:=by rfl)
  (d:x≠"__name__":=by decide) (c:(x == ("__debug__":Str))=false:=by decide) (i:starEach (e::a) X.env=(false,eval e X.env)::starEach a X.env:=by exact cQ rfl) (b:(backTo pos (starEach a X.env)).any (·.1)=false:=by exact fj rfl):
  OE X md P (.Call (.Name x p) (e::a) [] pos) (aL g ma):=(RN j h f hv k d c i b).imp λ_ _ _ q=>uU q
theorem Lks.one{K:Frag}{H F:Hp}{a:List Addr}{vs:List V}{d:D}(h:Lks K H F a vs [d]):∃v,vs=[v]/\Lk K H F a v d:=by
 cases vs with
 |nil=>exact h.elim
 |cons v vs =>
  cases vs with
  |nil=>exact⟨v,rfl,h.1⟩
  |cons u b=>exact h.2.elim
theorem Lks.two{K:Frag}{H F:Hp}{a:List Addr}{vs:List V}{d e:D}(h:Lks K H F a vs [d,e]):∃v u,vs=[v,u]/\Lk K H F a v d/\Lk K H F a u e:=by
 cases vs with
 |nil=>exact h.elim
 |cons v vs =>
  cases vs with
  |nil=>exact h.2.elim
  |cons u us =>
   cases us with
   |nil=>exact⟨v,u,rfl,h.1,h.2.1⟩
   |cons w b=>exact h.2.2.elim
def aU:List D->Option D
 | [.str l]=>if l.length<=1000000 then some (.int l.length) else none
 | [.lst ds]=>some (.int ds.length)
 | [.tup ds]=>some (.int ds.length)
 | _=>none
theorem cJ:lZ X (.builtin "len") aU:=by
 intro pins s σ H c f Q I g h;obtain⟨O,F,m,j,d,r,a,e,k⟩:=h;unfold aU at e;split at e
 ·rename_i l;obtain⟨v,rfl,b⟩:=a.one;split at e
  ·rename_i i;cases e;cases(b.rp rfl).unS;refine call_len pins s σ H _ f Q I g ⟨_,_,rfl,⟨by rw[il];exact gn i,rfl⟩,?_⟩;rw[il];exact di r k rfl Rp.int
  ·cases e
 ·rename_i l;obtain⟨v,rfl,b⟩:=a.one;cases e;obtain⟨p,c,rfl,h1,h2⟩:=b.list r.fh;refine call_len pins s σ H _ f Q I g ⟨_,_,rfl,.inl ⟨c,h1.sq,rfl⟩,?_⟩;rw[h2.length];exact di r k rfl Rp.int
 ·rename_i l;obtain⟨v,rfl,b⟩:=a.one;cases e;obtain⟨p,c,rfl,h1,h2⟩:=(b.rp rfl).unT;refine call_len pins s σ H _ f Q I g ⟨_,_,rfl,.inr ⟨c,Same.seqT r.fh h1,rfl⟩,?_⟩;rw[h2.length];exact di r k rfl Rp.int
 ·cases e
def U8:List D->Option D
 | [.int i,.int j]=>some (.int (if j>i then j else i))
 | _=>none
def pN:List D->Option D
 | [.int i,.int j]=>some (.int (if j<i then j else i))
 | _=>none
theorem U9(i:X.calm=true):lZ X (.builtin "min") pN:=by
 intro pins s σ H j b Q I c h;obtain⟨O,F,m,l,d,r,a,e,k⟩:=h;unfold pN at e;split at e
 ·obtain⟨v,u,rfl,f,g⟩:=a.two;cases e;cases(f.rp rfl).unI;cases(g.rp rfl).unI;exact Rb i pins s σ H _ b Q I c ⟨_,_,rfl,di r k rfl Rp.int⟩
 ·cases e
def nP:List D->Option D
 | [.int i]=>some (.int i)
 | [.bl b]=>some (.int (if b then 1 else 0))
 | _=>none
theorem Hq:lZ X (.type "int") nP:=by
 intro pins s σ H g c Q I f h;obtain⟨O,F,j,i,d,r,a,e,k⟩:=h;unfold nP at e;split at e
 ·obtain⟨v,rfl,b⟩:=a.one;cases e;cases(b.rp rfl).unI;exact FJ pins s σ H _ c Q I f (.inl ⟨_,rfl,di r k rfl Rp.int⟩)
 ·obtain⟨v,rfl,b⟩:=a.one;cases e;cases(b.rp rfl).unB;exact FJ pins s σ H _ c Q I f (.inr ⟨_,rfl,di r k rfl Rp.int⟩)
 ·cases e
def iy:List D->Option D
 | [.lst ds]=>some (.lst ds)
 | [.tup ds]=>some (.lst ds)
 | _=>none
theorem uV:lZ X (.type "list") iy:=by
 intro pins s σ H b g Q I i h;obtain⟨O,F,m,j,d,r,a,e,k⟩:=h;unfold iy at e;split at e
 ·obtain⟨v,rfl,c⟩:=a.one;cases e;obtain⟨p,b,rfl,h1,h2⟩:=c.list r.fh;exact Gk pins s σ H _ g Q I i ⟨p,b,rfl,.inl h1.sq,λl f=>nJ r k f h2⟩
 ·obtain⟨v,rfl,c⟩:=a.one;cases e;obtain⟨p,b,rfl,h1,h2⟩:=(c.rp rfl).unT;exact Gk pins s σ H _ g Q I i ⟨p,b,rfl,.inr (Same.seqT r.fh h1),λl f=>nJ r k f h2⟩
 ·cases e
def iz:List D->Option (List Int)
 | []=>some []
 | .int b::ds=>(iz ds).map (b :: ·)
 | _=>none
theorem Rps.ints{K:Frag}{F:Hp}{a:List Addr}:∀{ds:List D}{xs:List V}{bs:List Int},Rps K F a xs ds->iz ds=some bs->xs=bs.map V.int
 | [],xs,bs,h,e=>by cases e;rw[h.un0];rfl
 |d::ds,xs,bs,h,e=>by
  obtain⟨x,r,rfl,h2,h3⟩:=h.un
  cases d with
  |int b =>
   unfold iz at e
   cases q:iz ds with
   |none=>rw[q] at e;cases e
   |some cs =>
    rw[q] at e;cases e;rw[h2.unI,Rps.ints h3 q];rfl
  | _=>cases e
def mj:List D->Option D
 | [.lst ds]=>(iz ds).bind λns=>if(ns.all (λn=>decide (0<=n)&&decide (n<=1000000))&&decide (ns.length<=1000000))=true then some (.int ns.sum) else none
 | _=>none
theorem Hr(l:X.calm=true):lZ X (.builtin "sum") mj:=by
 intro pins s σ H c f Q I g h;obtain⟨O,F,x,u,d,r,b,e,k⟩:=h;unfold mj at e;split at e
 ·rename_i m;obtain⟨v,rfl,i⟩:=b.one;obtain⟨p,c,rfl,h1,h2⟩:=i.list r.fh
  cases q:iz m with
  |none=>rw[q] at e;cases e
  |some ns =>
   rw[q] at e;dsimp only[Option.bind_some] at e;split at e
   ·rename_i a;rw[zu,decide_eq_true_eq,jo] at a;cases e;refine Uc l pins s σ H _ f Q I g ⟨p,ns,rfl,?_,λn j=>?_,a.2,di r k rfl Rp.int⟩
    ·rw[<-h2.ints q];exact h1.sq
    ·have:=a.1 n j
     rw[zu,decide_eq_true_eq,decide_eq_true_eq] at this;exact this
   ·cases e
 ·cases e
theorem cL:bootBuiltins "len" = some (.builtin "len"):=by decide +kernel
theorem Va:bootBuiltins "min" = some (.builtin "min"):=by decide +kernel
theorem Hs:bootBuiltins "sum" = some (.builtin "sum"):=by decide +kernel
theorem rR:bootBuiltins "int" = some (.type "int"):=by decide +kernel
theorem Ht:bootBuiltins "str" = some (.type "str"):=by decide +kernel
theorem uW:bootBuiltins "bool" = some (.type "bool"):=by decide +kernel
theorem mq:bootBuiltins "list" = some (.type "list"):=by decide +kernel
theorem yq:bootBuiltins "tuple" = some (.type "tuple"):=by decide +kernel
def tyD:D->Option String
 | .non=>some "NoneType"
 | .bl _=>some "bool"
 | .int _=>some "int"
 | .str _=>some "str"
 | .lst _=>some "list"
 | .tup _=>some "tuple"
 | .dic _ _=>some "dict"
 | .ob _=>none
def cF(t n:String):Bool:=t == n || (t == "bool" && n == "int")
def cH(n:String)(m:M D):M D:=λρ O=>(m ρ O).bind λd a=>match tyD (bw a d) with
 |some t=>.ok (.bl (cF t n)) a
 |none=>.no
def yt:List String:=["str","int","bool","list","tuple","dict"]
theorem Vb(K:Frag):∀d t,tyD d=some t->∀n∈yt,PySem.W.kitOne K (.type t) (.type n)=some (cF t n):=by
 intro d t e n a;simp only[yt,zm,List.not_mem_nil,or_false] at a
 cases d<;>cases e<;>rcases a with rfl | rfl | rfl | rfl | rfl | rfl<;>first | exact GK K _ | kernel_rfl
theorem Lk.ty{K:Frag}{H F:Hp}{f:List Addr}{v:V}{d:D}{t:String}(h:Lk K H F f v d)(fh:Same F H)(e:tyD d=some t):TyQ K H v t:=by
 cases d with
 |non=>cases e;rw[(h.rp rfl).unN];exact .non
 |bl b=>cases e;rw[(h.rp rfl).unB];exact .bl _
 |int b=>cases e;rw[(h.rp rfl).unI];exact .int _
 |str b=>cases e;rw[(h.rp rfl).unS];exact .str _
 |lst c=>cases e;obtain⟨p,a,rfl,h1,h2⟩:=h.list fh;exact .lst h1.sq
 |tup c=>cases e;obtain⟨p,a,rfl,h1,h2⟩:=(h.rp rfl).unT;exact .tup (Same.seqT fh h1)
 |dic i g=>cases e;obtain⟨p,a,rfl,h1,h2⟩:=(h.rp rfl).unD;exact .dK (fh _ _ h1)
 |ob n=>cases e
theorem gG(n:String){T:Str}{a:Expr}{p b pos:Pos}{m:M D}(G:X.mg "isinstance" = none)(hT:X.mg T=none)(h:SE X md P a m)(hb:bootBuiltins T=some (.type n):=by decide +kernel)(E:n∈yt:=by decide)(I:Gl X "isinstance":=by rfl)(j:Gl X T:=by rfl)
  (l:T≠"__name__":=by decide) (u:(T == ("__debug__":Str))=false:=by decide)
  (c:starEach [a,.Name T b] X.env=(false,eval a X.env)::starEach [.Name T b] X.env:=by exact cQ rfl) (g:starEach [.Name T b] X.env=(false,eval (.Name T b) X.env)::starEach [] X.env:=by rfl) (i:(backTo pos (starEach [.Name T b] X.env)).any (·.1)=false:=by exact fj rfl):
  OE X md P (.Call (.Name "isinstance" p) [a,.Name T b] [] pos) (cH n m):=
 (uE (Uk X.K) I G (by decide +kernel) (gm h (gm (Ew (v:=.ty n) j hT hb rfl l u) iJ g) c) (by decide) (by decide) c i).imp λσ H Q q=>by
  obtain⟨ρ,O,F,U,d,O',r,s,e,k⟩:=q;obtain⟨x,Z,L,e⟩:=Res.bind_ok e;split at e
  ·rename_i t z;cases e;refine⟨ρ,_,F,U,_,_,r,s,L,λv W Y y J f B=>?_⟩;exact⟨v,n,t,_,rfl,Lk.ty (Sv.lk B f) f.fh z,Vb _ _ t z n E,k _ W Y y J f (.inl ⟨rfl,Rp.bl⟩)⟩
  ·cases e
def uX(m:M D):M (List D):=λρ O=>(m ρ O).bind λd a=>match d with
 | .lst ds=>.ok ds a
 | _=>.no
def yu(m:M D):M (List D):=λρ O=>(m ρ O).bind λd a=>match d with
 | .tup ds=>.ok ds a
 | _=>.no
theorem Vc{K:Frag}{mg:Str->Option Value}{H F:Hp}{j:List Addr}{a:Addr}{xs:List V}{ds:List D}(k:Rps K F j xs ds)(l:∀(c f:Hp) (b:List Addr),GrS P H F j c f b->(∃O,RlO K mg O c f b)->RdK K c a xs):lX K mg P (Itl K a) ds H F j:=by
 refine⟨λi d c f b g r e=>?_,λc f b g r=>⟨xs,(l c f b g r).sq,by rw[k.length];exact zc _⟩⟩;obtain⟨x,h1,h2⟩:=k.get' e;have q:=l c f b g r;refine⟨⟨xs,x,q.sq,h1⟩,λy m h=>?_⟩;obtain⟨rfl,h⟩:=h
 have:=h xs q.sq
 rw[h1] at this;cases this;exact⟨f,Gr.refl,λ_ r=>r,h2.grS g⟩
end
section
variable {X:Cx}{pins:List (Addr×Obj)}{σ:St}{H:Hp}{s:Shared}
theorem Inv.turnL{ch:List Addr}{h':Heap}{t':Nat}(I:Inv X pins σ H s)(d:∀b∈ch,gO X pins H b)(k:∀b o,b∉ch->s.heap.get? b=some o->h'.get? b=some o):Inv X pins σ H {s with heap:=h',toks:=t'}:=by
 have f:∀b u,H b=some u->b∉ch:=λb u e z=>by rw[(d b z).1] at e;cases e
 refine I.step (g':=s.gens) (d':=s.drawn) (ch:=ch) (λb i=>?_) (λb o _ _ a e _=>k b o a e) (λb o _ _ a e _=>⟨o.slots,k b o a e⟩) (λ_ _ _ _ n=>n)
  (λb o a e=>⟨o,k b o a e⟩) (λ_ _ e=>e) (λ_ _ _ e=>e) (λb F e=>⟨#[],by rw[e];simp⟩) (λm h=>?_) (λb u e=>?_) I.bare
 ·obtain⟨f0,y,G,x,l,j⟩:=d b i;exact⟨x,y,l,j⟩
 ·obtain⟨o,B,E,g,r⟩:=h;exact⟨o,B,E,k _ o (λz=>(d _ z).2.1 rfl) g,r⟩
 ·refine(I.hok b u e).stay (λc v a q=>k c v ?_ q) (λ_ q=>q) λ_ _ q=>q
  rcases a with z | z
  ·rw[z];exact f b u e
  ·exact f c _ z
theorem Inv.turnT{ch:List Addr}{h':Heap}{t':Nat}{T:Addr}{vs:List V}{us:List Value}(I:Inv X pins σ H s)(d:∀b∈ch,gO X pins H b)(k:∀b o,b∉ch->s.heap.get? b=some o->h'.get? b=some o)
  (hT:s.heap.objs.size<=T) (i:IsTup h' T us.toArray) (hv:aX vs us) (hz:vs.length<=sizeLine):Inv X pins σ (upd H T (.tup vs)) {s with heap:=h',toks:=t'}:=by
 have f:H T=none:=I.hok.fresh hT
 have g:∀b u,H b=some u->b∉ch:=λb u e z=>by rw[(d b z).1] at e;cases e
 have ne:∀b o,s.heap.get? b=some o->b≠T:=λb o e z=>by
  subst z;exact absurd (ze e) (Nat.not_lt_of_le hT)
 refine I.step (g':=s.gens) (d':=s.drawn) (ch:=ch) (λb h=>?_) (λb o _ _ a e _=>k b o a e) (λb o _ _ a e _=>⟨o.slots,k b o a e⟩) (λb o _ e n=>by rw[aP (ne b o e)];exact n)
  (λb o a e=>⟨o,k b o a e⟩) (λb _ e=>by rw[aP (cG e f)];exact e) (λb _ _ e=>by rw[aP (cG e f)];exact e) (λb L e=>⟨#[],by rw[aP (cG e f),e];simp⟩) (λm l=>?_) (λb u e=>?_) I.bare
 ·obtain⟨f0,E,O,B,y,x⟩:=d b h;exact⟨B,E,y,x⟩
 ·obtain⟨o,F,G,j,r⟩:=l;exact⟨o,F,G,k _ o (λz=>(d _ z).2.1 rfl) j,r⟩
 ·by_cases h:b=T
  ·subst h;rw[bW] at e;cases e;exact⟨hz,us,hv,i⟩
  ·rw[aP h] at e
   refine(I.hok b u e).stay (λc v a q=>k c v ?_ q) (λc q=>by rw[aP (cG q f)];exact q) λc J q=>by rw[aP (cG q f)];exact q
   rcases a with z | z
   ·rw[z];exact g b u e
   ·exact g c _ z
end
def Ite(K:Frag)(l:Addr):It:=⟨λi H=>∃a x,SqL K H l a/\a[i]?=some x,λi H v b=>∃T x,v=.ref T/\H T=none/\b=upd H T (.tup [.int i,x])/\∀a,SqL K H l a->a[i]?=some x,λi H=>∃a,SqL K H l a/\a.length<=i⟩
def Hu(l:List Nat):It:=⟨λi _=>i<l.length,λi H v a=>∃T c,v=.ref T/\H T=none/\a=upd H T (.tup [.int i,.str (S [c])])/\l[i]?=some c,λi _=>l.length<=i⟩
theorem nQ{h:Heap}{b:Addr}{o:Obj}{vs:Array Value}(e:h.get? b=some o)(d:o.data=.fields vs):∃o,h.get? b=some o/\∀v,o.data≠.cell v:=⟨o,e,λv z=>by rw[d] at z;cases z⟩
theorem Vd{P:Program}{w:World}{K:Frag}{elts:List Expr}{x1}{pos:Pos}(e it l:Addr)(hne:e≠it):Turn P w K (.Tuple elts x1 pos) (Ite K l) [e,it] e (λi h=>(∃old,IsEnum h e it i old)/\h.IsListIter it l i) where
 mem:=by simp
 obj:=λi h st b hb=>by
  obtain⟨⟨old,he⟩,o,ho,hc,hd⟩:=st
  rcases zm.mp hb with rfl | hb
  ·exact nQ he rfl
  ·rw[zk.mp hb];exact nQ ho hd
 keep:=λi h h' st k=>by
  obtain⟨⟨old,he⟩,o,ho,r⟩:=st;exact⟨⟨old,k e (by simp) _ he⟩,o,k it (by simp) o ho,r⟩
 item:=by
  intro X hP hw hK hc i pins s σ H E I hf st hg;subst hP hw hK;obtain⟨⟨old,he⟩,hit⟩:=st;obtain⟨xs,x,hq,hx⟩:=hg;obtain⟨its,rv,pl,hz⟩:=I.list hq;obtain⟨u,hu,ru⟩:=rv.get hx;have hT:H s.heap.objs.size=none:=I.hok.fresh (zc _);have elt:e<s.heap.objs.size:=ze he
  refine wpAny_pyNext_enum_item he hit pl.isList (x:=u) (by simpa using hu) hne λh' ho hit' hTup hsz hk=>⟨_,rfl,?_⟩
  refine wpAny_letOwnedTupleGo_enum ho λh'' he'' hs''=>⟨.ref s.heap.objs.size,_,?_,rfl,⟨s.heap.objs.size,x,rfl,hT,rfl,λys hy=>by rw[I.list_inj hy hq];exact hx⟩,⟨⟨_,by simpa using he''⟩,hit'.extBut hs''.extBut (Ne.symm hne)⟩,λb hb=>?_⟩
  ·show Inv X pins σ _ {s with heap:=h'',toks:=s.toks+1};refine I.turnT (ch:=[e,it]) (us:=[.int i s.toks,u]) hf (λb o hb q=>?_) (zc _) ⟨_,hs''.extBut _ _ (Nat.ne_of_gt elt) hTup,rfl,_,rfl⟩ (.cons ⟨_,rfl⟩ (.cons ru .nil)) (by show 2<=sizeLine;decide)
   have h1:b≠e:=λz=>hb (by simp[z])
   have h2:b≠it:=λz=>hb (by simp[z])
   exact hs''.extBut _ _ h1 (hk b o h1 h2 q)
  ·have q:=hf b hb;rw[aP (λz=>?_)]
   ·exact q.1
   ·obtain⟨o,ho⟩:∃o,s.heap.get? b=some o:=by
     rcases zm.mp hb with rfl | hb
     ·exact⟨_,he⟩
     ·rw[zk.mp hb];obtain⟨o,ho,_⟩:=hit;exact⟨o,ho⟩
    exact absurd (ze ho) (by rw[z];exact zN _)
 done:=by
  intro X hP hw hK hc i pins s σ H E I hf st hg;subst hP hw hK;obtain⟨⟨old,he⟩,hit⟩:=st;obtain⟨xs,hq,hl⟩:=hg;obtain⟨its,rv,pl,hz⟩:=I.list hq
  refine wpAny_pyNext_enum_end (I.ok.hd hc) he hit pl.isList (by have:=rv.length;simp;omega) λh' hx=>⟨rfl,?_⟩
  exact I.turnL (t':=s.toks) (ch:=[e,it]) hf λb o hb q=>hx b o (λz=>hb (by simp[z])) q
 self:=λA i s Q E st h=>by
  obtain⟨⟨old,he⟩,_⟩:=st;exact wpAny_pyIter_enum he h
theorem Ve{P:Program}{w:World}{K:Frag}{elts:List Expr}{x1}{pos:Pos}(e it:Addr)(l:List Nat)(t:Tok)(hne:e≠it):Turn P w K (.Tuple elts x1 pos) (Hu l) [e,it] e (λi h=>(∃old,IsEnum h e it i old)/\h.IsStrIter it "str_ascii_iterator" (S l) t i) where
 mem:=by simp
 obj:=λi h st b hb=>by
  obtain⟨⟨old,he⟩,o,ho,hc,hd⟩:=st
  rcases zm.mp hb with rfl | hb
  ·exact nQ he rfl
  ·rw[zk.mp hb];exact nQ ho hd
 keep:=λi h h' st k=>by
  obtain⟨⟨old,he⟩,o,ho,r⟩:=st;exact⟨⟨old,k e (by simp) _ he⟩,o,k it (by simp) o ho,r⟩
 item:=by
  intro X hP hw hK hc i pins s σ H E I hf st hg;subst hP hw hK;obtain⟨⟨old,he⟩,hit⟩:=st;have hg':i<l.length:=hg;have hT:H s.heap.objs.size=none:=I.hok.fresh (zc _);have elt:e<s.heap.objs.size:=ze he;have hd:X.A.in1.handled=none:=I.ok.hd hc
  refine wpAny_pyNext_enum_itemD (Draws.strAscii hd it (S l) t) he hit (by simpa [S] using hg') hne (λz=>hne (by simpa using z)) λu h' tk hP ho hit' hTup hsz hk=>⟨_,rfl,?_⟩
  obtain⟨c,tc,hcx,rfl⟩:=hP
  have hcl:l[i]?=some c:=by
   rw[<-hcx];simp[S]
  refine wpAny_letOwnedTupleGo_enum ho λh'' he'' hs''=>⟨.ref s.heap.objs.size,_,?_,rfl,⟨s.heap.objs.size,c,rfl,hT,rfl,hcl⟩,⟨⟨_,by simpa using he''⟩,?_⟩,λb hb=>?_⟩
  ·show Inv X pins σ _ {s with heap:=h'',toks:=tk+1};refine I.turnT (ch:=[e,it]) (us:=[.int i tk,.str ⟨#[c]⟩ tc]) hf (λb o hb q=>?_) (zc _) ⟨_,hs''.extBut _ _ (Nat.ne_of_gt elt) hTup,rfl,_,rfl⟩ (.cons ⟨_,rfl⟩ (.cons ⟨_,rfl⟩ .nil)) (by show 2<=sizeLine;decide)
   have h1:b≠e:=λz=>hb (by simp[z])
   have h2:b≠it:=λz=>hb (by simp[z])
   exact hs''.extBut _ _ h1 (hk b o h1 h2 q)
  ·obtain⟨o,ho',r⟩:=hit';exact⟨o,hs''.extBut _ _ (Ne.symm hne) ho',r⟩
  ·have q:=hf b hb;rw[aP (λz=>?_)]
   ·exact q.1
   ·obtain⟨o,ho⟩:∃o,s.heap.get? b=some o:=by
     rcases zm.mp hb with rfl | hb
     ·exact⟨_,he⟩
     ·rw[zk.mp hb];obtain⟨o,ho,_⟩:=hit;exact⟨o,ho⟩
    exact absurd (ze ho) (by rw[z];exact zN _)
 done:=by
  intro X hP hw hK hc i pins s σ H E I hf st hg;subst hP hw hK;obtain⟨⟨old,he⟩,hit⟩:=st;have hd:X.A.in1.handled=none:=I.ok.hd hc;have hg':l.length<=i:=hg;have hT:s.TypeIs (.ref e) "enumerate":=⟨_,he,rfl⟩;unfold pyNext
  refine za (wpAny_attempt (wpAny_callSpecial?_slot (name:=Str.ofString "__next__") hT F.slot_enumerate_next
   (wpAny_call_entry F.slot_enumerate_next hT F.entry_enumerate_next ?_ (F.args_enumerate_next_1 _))))
  show wpAny _ _ (field (.ref e) 2 >>= _) _ _ _;refine za (wpAny_field he rfl (x:=.ref it) rfl ?_);refine za (wpAny_nextOf_ascii_end hd hit (by simp[S];exact hg') λh' x he' hx'=>?_);obtain⟨o,ho,hc⟩:=hx';refine za (wpAny_isInstance (T:="StopIteration") (b:=true) ⟨o,ho,hc⟩ isSubtype_stop ?_);exact zb ⟨rfl,I.turnL (t':=s.toks) (ch:=[e,it]) hf λb o hb q=>he' b o (λz=>hb (by simp[z])) q⟩
 self:=λA i s Q E st h=>by
  obtain⟨⟨old,he⟩,_⟩:=st;exact wpAny_pyIter_enum he h
section
variable {X:Cx}{elts:List Expr}{x1:Nat}{tpos:Pos}
def uY(K:Frag)(f:TA):TI:=λσ H R=>f σ H λd b=>∃a,d=[.ref a]/\(∃c,SqL K b a c)/\R (Ite K a) b
def Vf(b:TA):TI:=λσ H R=>b σ H λa c=>∃l,a=[.str (S l)]/\ascii l=true/\R (Hu l) c
theorem Vg{l:List Nat}(h:ascii l=true):strIterType (S l) = "str_ascii_iterator":=by
 unfold strIterType;rw[if_pos];unfold ascii at h;rw[jo] at h;simp[S];intro i hi;simpa using h i hi
theorem yw{a:Expr}{f:TA}{p pos:Pos}(y:Gl X "enumerate")(n:X.mg "enumerate" = none)(z:PA X [a] f)(k:starEach [a] X.env=[(false,eval a X.env)]:=by exact j7 rfl):PI X (.Tuple elts x1 tpos) (.Call (.Name "enumerate" p) [a] [] pos) (uY X.K f):=by
 intro pins s σ H R I h;refine Call_ (iY I y n boot_enumerate (PyProof.Rows.callWith_type1 (thn (z pos pins s σ H _ I h) λus s1 ⟨vs,H1,I1,r1,q1⟩=>?_) k rfl));obtain⟨l,e,⟨F,m⟩,q⟩:=q1;subst e;obtain⟨u,rfl,i⟩:=vals1 r1;cases i;obtain⟨B,G,j,J⟩:=I1.list m
 refine call_enumerate_list j.isList λL g d E x=>wpAny_pyIter_enum g ?_
 refine⟨s1.heap.objs.size+1,[s1.heap.objs.size+1,s1.heap.objs.size],_,_,H1,rfl,I1.kept (t':=s1.toks) x,Vd (s1.heap.objs.size+1) s1.heap.objs.size l (Nat.succ_ne_self _),⟨⟨_,g⟩,d⟩,λb c=>?_,q⟩
 have hb':s1.heap.objs.size<=b:=by
  rcases zm.mp c with rfl | c
  ·exact Nat.le_succ _
  ·rw[zk.mp c];exact zc _
 exact I1.fpOk hb' (I1.hok.fresh hb')
theorem Vh{a:Expr}{f:TA}{p pos:Pos}(n:Gl X "enumerate")(j:X.mg "enumerate" = none)(x:PA X [a] f)(i:starEach [a] X.env=[(false,eval a X.env)]:=by exact j7 rfl):PI X (.Tuple elts x1 tpos) (.Call (.Name "enumerate" p) [a] [] pos) (Vf f):=by
 intro pins s σ H R I h;refine Call_ (iY I n j boot_enumerate (PyProof.Rows.callWith_type1 (thn (x pos pins s σ H _ I h) λus s1 ⟨vs,H1,I1,r1,q1⟩=>?_) i rfl));obtain⟨l,e,k,q⟩:=q1;subst e;obtain⟨u,rfl,t,rfl⟩:=vals1 r1
 refine call_enumerate_str λz g c y m=>wpAny_pyIter_enum g ?_
 rw[Vg k] at c;refine⟨s1.heap.objs.size+1,[s1.heap.objs.size+1,s1.heap.objs.size],_,_,H1,rfl,I1.kept (t':=s1.toks) m,Ve (s1.heap.objs.size+1) s1.heap.objs.size l t (Nat.succ_ne_self _),⟨⟨_,g⟩,c⟩,λb d=>?_,q⟩
 have hb':s1.heap.objs.size<=b:=by
  rcases zm.mp d with rfl | d
  ·exact Nat.le_succ _
  ·rw[zk.mp d];exact zc _
 exact I1.fpOk hb' (I1.hok.fresh hb')
end
def rW(K:Frag)(P:Pt):RR:=λ_ H F b v d=>Rp K F b v d\/∃a c f,v=.ref a/\d=.lst f/\H a=some (.lst c)/\a∉b/\P a/\Rps K F b c f
def WE(X:Cx)(md:List Md)(P:Pt)(e:Expr)(m:M D):Prop:=PE X e (tM X.K X.mg md P (rW X.K P) m)
section
variable {X:Cx}{md:List Md}{P:Pt}{R:RR}
theorem pO{e:Expr}{m:M D}(h:VE X md P e m):WE X md P e m:=h.imp λσ H Q q=>by
 obtain⟨ρ,O,F,f,d,i,r,s,e,k⟩:=q;exact⟨ρ,O,F,f,d,i,r,s,e,λv j l a g b c=>k v j l a g b (.inl c)⟩
theorem uZ(i:Nat){x:Str}{pos:Pos}(c:md[i]?=some .s:=by rfl)(hN:X.N[i]?=some x:=by rfl)(b:Vis X.env.scope x:=by first | exact Or.inl rfl | exact Or.inr (Or.inl rfl) | exact Or.inr (Or.inr rfl))
  (hd:(x == ("__debug__":Str))=false:=by decide) (a:(x == ("__classdict__":Str))=false:=by decide):WE X md P (.Name x pos) (aa i):=by
 refine(o9 (i:=i) hN b hd a).imp λσ H Q h=>?_
 obtain⟨ρ,O,F,g,d,j,r,s,e,k⟩:=h;obtain⟨f,rfl⟩:=uR e;obtain⟨v,h2,h3⟩:=s.sl i .s d c f;exact⟨v,h2,k v H F g Gr.refl r h3⟩
theorem rY{K:Frag}{mg:Str->Option Value}{N:Addr->Prop}{H F:Hp}{f:List Addr}{v:V}{ds:List D}(hv:rW K P N H F f v (.lst ds)):
  ∃a xs,v=.ref a/\Rps K F f xs ds/\∀(c d:Hp) (b:List Addr),GrS P H F f c d b->(∃O,RlO K mg O c d b)->RdK K c a xs:=by
 rcases hv with hv | ⟨a,xs,l,rfl,e,k,j,i,h⟩
 ·obtain⟨a,xs,rfl,h1,h2⟩:=hv.unL;exact⟨a,xs,rfl,h2,λc d b g ⟨O,r⟩=>(h1.mono g.ff).mono r.fh⟩
 ·cases e;exact⟨a,xs,rfl,h,λc d b g _=>.inl (.inl (g.fr _ _ i k j rfl))⟩
theorem Vi{j e:Expr}{m:M D}(h:WE X md P e m):VI X md P j e (uX m):=(Fi h).imp λσ H Q q=>by
 obtain⟨ρ,O,F,x,y,B,r,s,e,k⟩:=q;obtain⟨d,z,u,e⟩:=Res.bind_ok e
 cases d with
 |lst es =>
  cases e;refine⟨ρ,_,F,x,_,_,r,s,u,λv f g b n c l=>?_⟩;obtain⟨a,i,rfl,h1,h2⟩:=rY (mg:=X.mg) l;exact⟨a,rfl,⟨i,(h2 f g b GrS.refl ⟨_,c⟩).sq⟩,k _ f g b n c (Vc h1 h2)⟩
 | _=>cases e
theorem Hv{G e:Expr}{m:M D}(h:VE X md P e m):VI X md P G e (yu m):=(Qx h).imp λσ H Q q=>by
 obtain⟨ρ,O,F,T,U,Y,r,s,e,k⟩:=q;obtain⟨d,W,L,e⟩:=Res.bind_ok e
 cases d with
 |tup es =>
  cases e;refine⟨ρ,_,F,T,_,_,r,s,L,λv z B j J E I=>?_⟩;obtain⟨a,l,rfl,h1,h2⟩:=Rp.unT I
  have u:∀(c f:Hp) (b:List Addr),GrS P z B j c f b->(∃O,RlO X.K X.mg O c f b)->SqT X.K c a l:=λc f b g ⟨O,r⟩=>Same.seqT r.fh (Same.seqT g.ff h1)
  refine⟨a,rfl,⟨l,u z B j GrS.refl ⟨_,E⟩⟩,k _ z B j J E ⟨λi d c f b g r e=>?_,λc f b g r=>⟨l,u c f b g r,by rw[h2.length];exact zc _⟩⟩⟩;obtain⟨x,h3,h4⟩:=h2.get' e;have q:=u c f b g r;refine⟨⟨l,x,q,h3⟩,λy Z n=>?_⟩;obtain⟨rfl,n⟩:=n
  have:=n l q
  rw[h3] at this;cases this;exact⟨f,Gr.refl,λ_ r=>r,h4.grS g⟩
 | _=>cases e
def jx(l:List Nat):List D:=l.map λc=>.str [c]
def yx(m:M D):M (List D):=λρ O=>(m ρ O).bind λd a=>match d with
 | .str l=>if ascii l=true then .ok (jx l) a else .no
 | _=>.no
theorem yz{K:Frag}{mg:Str->Option Value}{J:It}{ds:List D}{H F:Hp}{c:List Addr}(h1:∀(i:Nat) (d:D) (a:Hp),ds[i]?=some d->J.go i a/\∀x b,J.yld i a x b->b=a/\∀K F c,Rp K F c x d)(h2:∀a,J.stop ds.length a):lX K mg P J ds H F c :=
 ⟨λi d a g h _ _ e=>⟨(h1 i d a e).1,λx b y=>by
  obtain⟨rfl,f⟩:=(h1 i d a e).2 x b y
  exact⟨g,Gr.refl,λ_ r=>r,f _ _ _⟩⟩,λa _ _ _ _=>h2 a⟩
theorem Hw{g e:Expr}{m:M D}(h:SE X md P e m):VI X md P g e (yx m):=(Ub h).imp λσ H Q q=>by
 obtain⟨ρ,O,F,B,J,U,r,s,e,k⟩:=q;obtain⟨d,T,a,e⟩:=Res.bind_ok e
 cases d with
 |str l =>
  dsimp only at e;split at e
  ·rename_i u;cases e;refine⟨ρ,_,F,B,_,_,r,s,a,λv G I b z j n=>?_⟩;refine⟨l,(Sv.rp n rfl).unS,u,k _ G I b z j (yz (λi d E e=>?_) λE=>by simp[jx,Its])⟩;unfold jx at e;rw[zq] at e
   cases q:l[i]? with
   |none=>rw[q] at e;cases e
   |some c =>
    rw[q] at e;cases e;refine⟨(zg.mp q).1,λx W y=>?_⟩;obtain⟨a,L,f,rfl⟩:=y;rw[q] at f;cases f;exact⟨a,λ_ _ _=>Rp.str⟩
  ·cases e
 | _=>cases e
def eE(lo:Int)(n:Nat):List D:=(List.range n).map λ(k:Nat)=>.int (lo+(k:Int))
def dq(m:M (List D)):M (List D):=λρ O=>(m ρ O).bind λa b=>match a with
 | [.int j]=>if j<=1000000000/\-1000000000<=j then .ok (eE 0 j.toNat) b else .no
 | _=>.no
theorem Vj{K:Frag}{mg:Str->Option Value}{lo:Int}{n:Nat}{H F:Hp}{b:List Addr}:lX K mg P (Itr lo n) (eE lo n) H F b:=yz (λi d c e=>by
 unfold eE at e;rw[zq] at e
 by_cases hi:i<n
 ·rw[List.getElem?_range hi] at e;cases e;refine⟨hi,λx f y=>?_⟩;obtain⟨a,rfl⟩:=y;exact⟨a,λ_ _ _=>Rp.int⟩
 ·rw[zV (by simpa using hi)] at e
  cases e) λc=>by simp[eE,Itr]
theorem dI.one{K:Frag}{H F:Hp}{a:List Addr}{m:Md}{vs:List V}{d:D}(h:dI K H F a [m] vs [d]):∃v,vs=[v]/\rA K m (λ_=>True) H F a v d:=by
 cases vs with
 |nil=>exact h.elim
 |cons v vs =>
  cases vs with
  |nil=>exact⟨v,rfl,h.1⟩
  |cons u b=>exact h.2.elim
theorem dI.two{K:Frag}{H F:Hp}{a:List Addr}{m n:Md}{vs:List V}{d e:D}(h:dI K H F a [m,n] vs [d,e]):∃v u,vs=[v,u]/\rA K m (λ_=>True) H F a v d/\rA K n (λ_=>True) H F a u e:=by
 cases vs with
 |nil=>exact h.elim
 |cons v vs =>
  cases vs with
  |nil=>exact h.2.elim
  |cons u us =>
   cases us with
   |nil=>exact⟨v,u,rfl,h.1,h.2.1⟩
   |cons w b=>exact h.2.2.elim
theorem iB{d a:Expr}{p pos:Pos}{m:M (List D)}(i:X.mg "range" = none)(n:AE X md P [.s] [a] m)(l:Gl X "range":=by rfl)(h:starEach [a] X.env=[(false,eval a X.env)]:=by exact j7 rfl):VI X md P d (.Call (.Name "range" p) [a] [] pos) (dq m):=(QB l i n h).imp λσ H Q q=>by
 obtain⟨ρ,O,F,y,J,T,r,s,e,k⟩:=q;obtain⟨I,L,x,e⟩:=Res.bind_ok e;split at e
 ·rename_i j;split at e
  ·rename_i G;cases e;refine⟨ρ,_,F,y,_,_,r,s,x,λE z B c u f g=>?_⟩;obtain⟨v,rfl,b⟩:=g.one
   have:=(Sv.rp b rfl).unI
   subst this;exact⟨j,rfl,by omega,by omega,k _ z B c u f Vj⟩
  ·cases e
 ·cases e
def fX:Nat->List D->List D
 | _,[]=>[]
 |k,d::ds=>.tup [.int k,d]::fX (k+1) ds
theorem pP:∀(k:Nat) (ds:List D),(fX k ds).length=ds.length
 | _,[]=>rfl
 |k,d::ds=>by simp[fX,pP (k+1) ds]
theorem rZ:∀(k:Nat) (ds:List D) (i:Nat),(fX k ds)[i]?=(ds[i]?).map λd=>.tup [.int ((k+i:Nat):Int),d]
 |k,[],i=>by simp[fX]
 |k,d::ds,0=>by simp[fX]
 |k,d::ds,i+1=>by
  rw[fX,List.getElem?_cons_succ,List.getElem?_cons_succ,rZ (k+1) ds i];congr 1
  funext d
  congr 3;omega
theorem pQ{K:Frag}{mg:Str->Option Value}{d c:Hp}{a:List Addr}{T:Addr}{xs:List V}{ds:List D}(j:∃O,RlO K mg O d c a)(hT:d T=none)(i:Rps K c a xs ds):
  ∃g,Gr d c a (upd d T (.tup xs)) g a/\(∀O,RlO K mg O d c a->RlO K mg O (upd d T (.tup xs)) g a)/\Rp K g a (.ref T) (.tup ds):=by
 obtain⟨O,r⟩:=j;have f:=r.frF hT
 have ff:Same c (upd c T (.tup xs)):=λb u q=>by rw[aP (cG q f)];exact q
 exact⟨upd c T (.tup xs),(Gr.lay hT).frz hT f,λk h=>(h.lay hT).frz bW f (λz=>h.all z hT) rfl,Rp.mkT (.inl bW) (Rps.mono ff (λ_ _ z=>z) _ i)⟩
def pR(m:M D):M (List D):=λρ O=>(m ρ O).bind λd a=>match d with
 | .lst ds=>.ok (fX 0 ds) a
 | _=>.no
def Hx(m:M D):M (List D):=λρ O=>(m ρ O).bind λd a=>match d with
 | .str l=>if ascii l=true then .ok (fX 0 (jx l)) a else .no
 | _=>.no
variable {elts:List Expr}{x1:Nat}{tpos:Pos}
theorem Vk{a:Expr}{p pos:Pos}{m:M D}(W:X.mg "enumerate" = none)(h:WE X md P a m)(Y:Gl X "enumerate":=by rfl)(U:starEach [a] X.env=[(false,eval a X.env)]:=by exact j7 rfl)(u:starEach [a] X.env=(false,eval a X.env)::starEach [] X.env:=by exact cQ rfl):
  VI X md P (.Tuple elts x1 tpos) (.Call (.Name "enumerate" p) [a] [] pos) (pR m):=(yw Y W (gm h iJ u) U).imp λσ H Q q=>by
 obtain⟨ρ,O,F,as,ds,O',r,s,e,k⟩:=q;obtain⟨d,O1,e1,e⟩:=Res.bind_ok e
 cases d with
 |lst es =>
  cases e;refine⟨ρ,_,F,as,_,_,r,s,e1,λv G I c Z B L=>?_⟩;obtain⟨a,f,rfl,h1,h2⟩:=rY (mg:=X.mg) L;refine⟨a,rfl,⟨f,(h2 G I c GrS.refl ⟨_,B⟩).sq⟩,k _ G I c Z B ⟨λi d j l b g r e=>?_,λj l b g r=>⟨f,(h2 j l b g r).sq,by rw[pP,h1.length];exact zc _⟩⟩⟩;rw[rZ] at e
  cases q:es[i]? with
  |none=>rw[q] at e;cases e
  |some y =>
   rw[q] at e;cases e;obtain⟨x,h3,h4⟩:=h1.get' q;have E:=h2 j l b g r;refine⟨⟨f,x,E.sq,h3⟩,λz H3 J=>?_⟩;obtain⟨T,x',rfl,hT,rfl,n⟩:=J
   have:=n f E.sq
   rw[h3] at this;cases this;rw[zy];exact pQ r hT (Rps.cons Rp.int (Rps.cons (h4.grS g) Rps.nil))
 | _=>cases e
theorem Vl{a:Expr}{p pos:Pos}{m:M D}(E:X.mg "enumerate" = none)(h:SE X md P a m)(I:Gl X "enumerate":=by rfl)(B:starEach [a] X.env=[(false,eval a X.env)]:=by exact j7 rfl)(f:starEach [a] X.env=(false,eval a X.env)::starEach [] X.env:=by exact cQ rfl):
  VI X md P (.Tuple elts x1 tpos) (.Call (.Name "enumerate" p) [a] [] pos) (Hx m):=(Vh I E (gm h iJ f) B).imp λσ H Q q=>by
 obtain⟨ρ,O,F,U,ds,O',r,s,e,k⟩:=q;obtain⟨d,O1,L,e⟩:=Res.bind_ok e
 cases d with
 |str l =>
  dsimp only at e;split at e
  ·rename_i G;cases e;refine⟨ρ,_,F,U,_,_,r,s,L,λv Y F1 n J u y=>?_⟩;refine⟨l,by rw[(Sv.rp y rfl).unS],G,k _ Y F1 n J u ⟨λi d W Z j g r e=>?_,λW Z j g r=>?_⟩⟩
   ·rw[rZ] at e;unfold jx at e;rw[zq] at e
    cases q:l[i]? with
    |none=>rw[q] at e;cases e
    |some c =>
     rw[q] at e;cases e;refine⟨(zg.mp q).1,λz H3 x=>?_⟩;obtain⟨T,c',rfl,hT,rfl,b⟩:=x;rw[q] at b;cases b;rw[zy];exact pQ r hT (Rps.cons Rp.int (Rps.cons Rp.str Rps.nil))
   ·show l.length<=_;rw[pP];simp[jx]
  ·cases e
 | _=>cases e
def u0:List D->Option (List (List Nat))
 | []=>some []
 | .str l::ds=>(u0 ds).map (l :: ·)
 | _=>none
def Vm(m:M D):M D:=λρ O=>(m ρ O).bind λd a=>match bw a d with
 | .lst ds=>match u0 ds with
  |some ls=>if(ls.map List.length).sum<=1000000 then .ok (.str ls.flatten) a else .no
  |none=>.no
 | _=>.no
def Vn(mo m:M D):M D:=λρ O=>(mo ρ O).bind λa d=>(m ρ d).bind λb c=>match a,b with
 | .str l,.str n=>.ok (.bl (decide (l.take n.length=n))) c
 | _,_=>.no
end
section
variable {K:Frag}{mg:Str->Option Value}{md:List Md}{P:Pt}{ρ:aA}{σ:St}{H F:Hp}{as:List Addr}{O:au}{i:Nat}{a:Addr}{xs xs':List V}{ds ds':List D}
theorem SlO.own(s:SlO K md P ρ σ H F as)(c:md[i]?=some .o)(b:ρ[i]?=some (some (.lst ds))):∃a xs,σ[i]?=some (some (.ref a))/\H a=some (.lst xs)/\F a=none/\a∉as/\¬P a/\Rps K F as xs ds:=by
 obtain⟨v,h1,h2⟩:=s.sl i .o _ c b
 rcases h2 with⟨h2,_⟩ | ⟨a,xs,l,rfl,j,h,k,g,f,d⟩
 ·cases h2
 ·cases j;exact⟨a,xs,h1,h,k,g,f,d⟩
theorem SlO.mut(s:SlO K md P ρ σ H F as)(I:md[i]?=some .o)(y:ρ[i]?=some (some (.lst ds)))(u:σ[i]?=some (some (.ref a)))(hF:F a=none)(ha:a∉as)(Z:¬P a)(r:Rps K F as xs' ds'):SlO K md P (ρ.set i (some (.lst ds'))) σ (upd H a (.lst xs')) F as:=by
 have hi:i<md.length:=(zg.mp I).1;refine⟨s.len,by rw[zU];exact s.len',λc p=>?_,λj m d J n=>?_,λj k c b fs h1 h2 h3 h4 h5 h6=>?_,λx hx=>?_⟩
 ·have:=s.pd c p
  unfold upd
  split
  ·exact λz=>nomatch z
  ·exact this
 ·by_cases h:i=j
  ·subst h;rw[I] at J;cases J;rw[zR (by rw[s.len'];exact hi)] at n;cases n;exact⟨_,u,.inr ⟨a,xs',ds',rfl,rfl,bW,hF,ha,Z,r⟩⟩
  ·rw[zw h] at n;obtain⟨v,Y,g⟩:=s.sl j m d J n;refine⟨v,Y,?_⟩
   cases m with
   |v=>exact g
   |s =>
    rcases g with g | ⟨c,T,b,G,E,R,Q,B,L⟩
    ·exact .inl g
    ·exact .inr ⟨c,T,b,G,E,by rw[aP (λz=>Z (by rw[<-z];exact B))];exact R,Q,B,L⟩
   |o =>
    rcases g with g | ⟨c,T,b,G,E,R,z0,Q,B,L⟩
    ·exact .inl g
    ·refine .inr ⟨c,T,b,G,E,?_,z0,Q,B,L⟩;rw[aP]
     ·exact R
     ·intro z;subst z G E;exact h (s.inj i j c ds b I J y n u Y)
 ·have f:∀k b,(ρ.set i (some (.lst ds')))[k]?=some (some (D.lst b))->∃l,ρ[k]?=some (some (D.lst l)):=λk b q=>by
   by_cases h:i=k
   ·subst h;exact⟨ds,y⟩
   ·rw[zw h] at q;exact⟨b,q⟩
  obtain⟨l,q3⟩:=f j b h3;obtain⟨X,q4⟩:=f k fs h4;exact s.inj j k c l X h1 h2 q3 q4 h5 h6
 ·obtain⟨U,p2,p3⟩:=s.pin x hx
  have W:i≠x.1:=λz=>by rw[<-z,I] at U;cases U
  exact⟨U,by rw[zw W];exact p2,p3⟩
theorem Hy{xs:List V}(d:H a=some (.lst xs))(b:¬P a){o:HO}:GrS P H F as (upd H a o) F as :=
 ⟨λ_ _ _ _ _ _=>rfl,Same.refl F,⟨[],by simp,λ_ h=>nomatch h⟩,λc u p e _ _=>by rw[aP (λz=>b (by rw[<-z];exact p))];exact e,λc e=>by
  by_cases h:c=a
  ·subst h;rw[bW] at e;cases e
  ·rwa [aP h] at e,λc f u e=>by rw[aP (λz=>by rw[z,d] at e;cases e)];exact e⟩
theorem RlO.mut(r:RlO K mg O H F as)(g:F a=none)(f:a∉as){o:HO}:RlO K mg O (upd H a o) F as:=by
 refine⟨λc u e=>?_,r.fd,r.nd,r.len,r.fa,λn c u b d=>(r.ob n c u b d).keep (aP ?_) (Same.refl F) λ_ _ h=>h⟩
 ·rw[aP (cG e g)];exact r.fh c u e
 ·intro z;subst z;exact f (zD b)
end
section
variable {X:Cx}{md:List Md}{P:Pt}{R:RR}
def cM(i:Nat)(m:M D):MS:=λρ O=>match m ρ O with
 | .ok d O'=>match ρ[i]? with
  |some (some (.lst ds))=>if ds.length<1000000 then .nx (ρ.set i (some (.lst (ds++[d])))) O' else .no
  | _=>.no
 | .ex x O'=>.ex x O'
 | .no=>.no
theorem Vo{i:Nat}{m:M D}{ρ:aA}{O:au}(K:Frag)(mg:Str->Option Value){D:Ends}{H F:Hp}{b:List Addr}(k:iM K mg md P R D H F b (cM i m ρ O)):
  ∃d a ds,m ρ O=.ok d a/\ρ[i]?=some (some (.lst ds))/\ds.length<1000000/\iM K mg md P R D H F b (.nx (ρ.set i (some (.lst (ds++[d])))) a):=by
 unfold cM at k;split at k
 ·rename_i d a e;split at k
  ·rename_i ds f;split at k
   ·rename_i c;exact⟨d,a,ds,e,f,c,k⟩
   ·exact False.elim k
  ·exact False.elim k
 ·exact False.elim k
 ·exact False.elim k
theorem iC(i:Nat){x:Str}{p apos b pos:Pos}{e:Expr}{m:M D}(h:VE X md P e m)(Q:md[i]?=some .o:=by rfl)(hN:X.N[i]?=some x:=by rfl)(hv:Vis X.env.scope x:=by first | exact Or.inl rfl | exact Or.inr (Or.inl rfl) | exact Or.inr (Or.inr rfl))
  (hd:(x == ("__debug__":Str))=false:=by decide) (B:(x == ("__classdict__":Str))=false:=by decide)
  (g:attributeBase (.Name x p) "append" X.env (eval (.Name x p) X.env)=eval (.Name x p) X.env:=by rfl)
  (l:((backTo b (starEach [e] X.env)).all (λx=>!x.1)&&(backToKw b (keywordEach [] X.env)).all (λx=>x.1.isSome)&&decide ([e].length+([]:List Keyword).length+(if([]:List Keyword).isEmpty then 0 else 1)<30))=true:=by rfl)
  (f:(apos.endLine == b.line)=true:=by rfl) (L:starEach [e] X.env=(false,eval e X.env)::starEach [] X.env:=by exact cQ rfl) (c:(backTo b (starEach [] X.env)).any (·.1)=false:=by exact fj rfl)
  (u:swapsWith (.Call (.Attribute (.Name x p) "append" apos) [e] [] b) none pos.line X.env=pure false:=by rfl):
  VS X md P R (.Expr (.Call (.Attribute (.Name x p) "append" apos) [e] [] b) pos) (cM i m):=
 (uz (xK PySem.F.plainAttrs_list PySem.F.slot_list_append PySem.F.type_list_append SN (o9 (i:=i) hN hv hd B) (gm h iJ L) g l f L c) u).imp λD σ H q=>by
  obtain⟨ρ,O,F,as,r,s,k⟩:=q;obtain⟨d,O',ds,e,W,hz,k⟩:=Vo X.K X.mg k;obtain⟨a,G,h1,h2,h3,h4,U,T⟩:=s.own Q W;refine⟨_,h1,.inl ⟨rfl,G,.inl (.inl h2)⟩,ρ,O,F,as,d,O',r,s,e,λy H1 Y E j r1 hy=>?_⟩;have Z:=s.step j
  have hn:H a≠none:=by rw[h2];exact λz=>nomatch z
  have n:=j.fr _ _ h2 h4 rfl
  have J:Y a=none:=by rw[j.fz a _ h2 h4 rfl];exact h3
  have I:=j.out h4 hn
  have hn1:H1 a≠none:=by rw[n];exact λz=>nomatch z
  exact⟨a,G,y,rfl,rfl,n,by rw[T.length];exact zJ hz (by decide),k σ _ Y E (j.toS.trans (Hy n U)) (r1.mut J I) (Z.mut Q W h1 J I U ((T.gr j).snoc hy))⟩
def Vp(K:Frag):V->List V->Hp->VK->Prop:=λx d H Q=>∃l b c a,x=.ref l/\d=[.ref b]/\H l=some (.lst c)/\RdK K H b a/\c.length+a.length<=sizeLine/\Q .non (upd H l (.lst (c++a)))
theorem Hz:MtM X "list.extend" (Vp X.K):=by
 intro pins s σ H x T v U Q I j k h;obtain⟨l,b,O,J,rfl,rfl,i,B,W,q⟩:=h;cases j;obtain⟨u,rfl,m⟩:=k.one;cases m;obtain⟨z,c,n,r,Y,e⟩:=I.lstM i;obtain⟨L,a,y,g,E⟩:=B.ok I;have G:=g.length
 have f:c.toArray.size+a.toArray.size<=sizeLine:=by rw[zr,zr];omega
 have d:¬(!c.toArray.isEmpty&&Builtin.List.listTooLong (c.toArray.size+a.toArray.size))=true:=by
  rw[Gm f,Bool.and_false];exact zp
 refine call_meets F.slot_list_extend ⟨_,e,rfl⟩ F.entry_list_extend (F.args_list_extend_2 _ _)
  (AutoSeq1.list_extend_list_list_0 l c.toArray n b a.toArray y d (by rw[zr];omega) (by omega)) ⟨e,E,?_⟩
 refine⟨.non,_,I.lset (its':=c++a) i e (by simp) (r.append g) ?_,rfl,q⟩;rw[zh];omega
def pU(i:Nat)(m:M D):MS:=λρ O=>match m ρ O with
 | .ok d O'=>match ρ[i]?,bw O' d with
  |some (some (.lst ds)),.lst es=>if ds.length+es.length<=1000000 then .nx (ρ.set i (some (.lst (ds++es)))) O' else .no
  | _,_=>.no
 | .ex x O'=>.ex x O'
 | .no=>.no
theorem Vq{i:Nat}{m:M D}{ρ:aA}{O:au}(K:Frag)(mg:Str->Option Value){D:Ends}{H F:Hp}{c:List Addr}(k:iM K mg md P R D H F c (pU i m ρ O)):
  ∃d b ds a,m ρ O=.ok d b/\ρ[i]?=some (some (.lst ds))/\bw b d=.lst a/\ds.length+a.length<=1000000/\iM K mg md P R D H F c (.nx (ρ.set i (some (.lst (ds++a)))) b):=by
 unfold pU at k;split at k
 ·rename_i d b e;split at k
  ·rename_i ds a h g;split at k
   ·rename_i f;exact⟨d,b,ds,a,e,h,g,f,k⟩
   ·exact False.elim k
  ·exact False.elim k
 ·exact False.elim k
 ·exact False.elim k
theorem Vr(i:Nat){x:Str}{p apos c pos:Pos}{e:Expr}{m:M D}(h:SE X md P e m)(Y:md[i]?=some .o:=by rfl)(hN:X.N[i]?=some x:=by rfl)(hv:Vis X.env.scope x:=by first | exact Or.inl rfl | exact Or.inr (Or.inl rfl) | exact Or.inr (Or.inr rfl))
  (hd:(x == ("__debug__":Str))=false:=by decide) (G:(x == ("__classdict__":Str))=false:=by decide)
  (j:attributeBase (.Name x p) "extend" X.env (eval (.Name x p) X.env)=eval (.Name x p) X.env:=by rfl)
  (n:((backTo c (starEach [e] X.env)).all (λx=>!x.1)&&(backToKw c (keywordEach [] X.env)).all (λx=>x.1.isSome)&&decide ([e].length+([]:List Keyword).length+(if([]:List Keyword).isEmpty then 0 else 1)<30))=true:=by rfl)
  (g:(apos.endLine == c.line)=true:=by rfl) (W:starEach [e] X.env=(false,eval e X.env)::starEach [] X.env:=by exact cQ rfl) (f:(backTo c (starEach [] X.env)).any (·.1)=false:=by exact fj rfl)
  (E:swapsWith (.Call (.Attribute (.Name x p) "extend" apos) [e] [] c) none pos.line X.env=pure false:=by rfl):
  VS X md P R (.Expr (.Call (.Attribute (.Name x p) "extend" apos) [e] [] c) pos) (pU i m):=
 (uz (xK PySem.F.plainAttrs_list PySem.F.slot_list_extend PySem.F.type_list_extend Hz (o9 (i:=i) hN hv hd G) (gm h iJ W) j n g W f) E).imp λD σ H q=>by
  obtain⟨ρ,O,F,as,r,s,k⟩:=q;obtain⟨d,O',ds,es,e,e2,e3,hz,k⟩:=Vq X.K X.mg k;obtain⟨a,J,h1,h2,h3,h4,h5,Z⟩:=s.own Y e2;refine⟨_,h1,.inl ⟨rfl,J,.inl (.inl h2)⟩,ρ,O,F,as,d,O',r,s,e,λy H1 F1 I l u hy=>?_⟩;have s1:=s.step l
  have hn:H a≠none:=by rw[h2];exact λz=>nomatch z
  have B:=l.fr _ _ h2 h4 rfl
  have T:F1 a=none:=by rw[l.fz a _ h2 h4 rfl];exact h3
  have Q:=l.out h4 hn
  have hn1:H1 a≠none:=by rw[B];exact λz=>nomatch z
  have U:=Sv.lk hy u;rw[e3] at U;obtain⟨b,zs,rfl,w1,L⟩:=U.list u.fh;exact⟨a,b,J,zs,rfl,rfl,B,w1,by rw[Z.length,L.length];exact gn hz,k σ _ F1 I (l.toS.trans (Hy B h5)) (u.mut T Q) (s1.mut Y e2 h1 T Q h5 (Rps.append L (Z.gr l)))⟩
end
def putD(f:Str)(v:D):List (Str×D)->List (Str×D)
 | []=>[(f,v)]
 | (g,x)::r=>if g=f then(g,v)::r else(g,x)::putD f v r
section
variable {K:Frag}{F:Hp}{as:List Addr}
theorem FsR.cons_inv{b:List (Str×V)}{f:Str}{d:D}{fs:List (Str×D)}(h:FsR K F as b ((f,d)::fs)):∃v a,b=(f,v)::a/\Rp K F as v d/\FsR K F as a fs:=by
 obtain⟨h1,h2⟩:=h
 cases b with
 |nil=>cases h1
 |cons g a =>
  obtain⟨i,c⟩:=g;simp only[zl,List.cons.injEq] at h1;obtain⟨x,r,e,h3,h4⟩:=h2.un;simp only[zl,List.cons.injEq] at e;obtain⟨rfl,rfl⟩:=e;exact⟨c,a,by rw[h1.1],h3,⟨h1.2,h4⟩⟩
theorem FsR.nil_inv{a:List (Str×V)}(h:FsR K F as a []):a=[]:=List.map_eq_nil_iff.mp h.nm
theorem FsR.get:∀{fs:List (Str×D)}{a:List (Str×V)}{f:Str}{d:D},FsR K F as a fs->fs.lookup f=some d->∃v,a.lookup f=some v/\Rp K F as v d
 | [],_,_,_,_,e=>by cases e
 | (g,x)::fs,a,f,d,h,e=>by
  obtain⟨v,b,rfl,h1,h2⟩:=h.cons_inv;rw[List.lookup_cons] at e ⊢
  cases q:f == g with
  |true =>
   rw[q] at e;cases e;exact⟨v,rfl,h1⟩
  |false =>
   rw[q] at e;exact FsR.get h2 e
theorem FsR.no:∀{fs:List (Str×D)}{a:List (Str×V)}{f:Str},FsR K F as a fs->fs.lookup f=none->a.lookup f=none
 | [],_,_,h,e=>by rw[h.nil_inv];rfl
 | (g,x)::fs,a,f,h,e=>by
  obtain⟨v,b,rfl,h1,h2⟩:=h.cons_inv;rw[List.lookup_cons] at e ⊢
  cases q:f == g with
  |true=>rw[q] at e;cases e
  |false =>
   rw[q] at e;exact FsR.no h2 e
theorem FsR.put{f:Str}{v:V}{d:D}(hv:Rp K F as v d):∀{fs:List (Str×D)}{a:List (Str×V)},FsR K F as a fs->FsR K F as (fK f v a) (putD f d fs)
 | [],_,h=>by
  rw[h.nil_inv];exact⟨rfl,Rps.cons hv Rps.nil⟩
 | (g,x)::fs,a,h=>by
  obtain⟨u,c,rfl,h1,h2⟩:=h.cons_inv;rw[fK,putD]
  by_cases q:g=f
  ·rw[if_pos q,if_pos q];exact⟨by simp[h2.nm],Rps.cons hv h2.vl⟩
  ·rw[if_neg q,if_neg q];have b:=FsR.put (f:=f) hv h2;exact⟨by simp[b.nm],Rps.cons h1 b.vl⟩
theorem FsR.length{fs:List (Str×D)}{a:List (Str×V)}(h:FsR K F as a fs):a.length=fs.length:=by
 have:=congrArg List.length h.nm
 simpa using this
theorem RlO.set{mg:Str->Option Value}{O:au}{H:Hp}{n:Nat}{a:Addr}{o:Ob}{u:HO}(r:RlO K mg O H F as)(d:as[n]?=some a)(i:ObR K mg (upd H a u) F as a o):RlO K mg (O.set n o) (upd H a u) F as:=by
 have j:=r.fa a (zD d);refine⟨λc w e=>?_,r.fd,r.nd,by rw[zU];exact r.len,r.fa,λk c w b hw=>?_⟩
 ·rw[aP (cG e j)];exact r.fh c w e
 ·by_cases h:n=k
  ·subst h;rw[d] at b;cases b;rw[zR (by rw[<-r.len];exact(zg.mp d).1)] at hw;cases hw;exact i
  ·rw[zw h] at hw
   refine(r.ob k c w b hw).keep (aP ?_) (Same.refl F) λ_ _ h=>h
   intro z;subst z;obtain⟨m,g⟩:=zg.mp d;obtain⟨l,f⟩:=zg.mp b;exact h ((List.getElem_inj r.nd).mp (g.trans f.symm))
end
def KC(K:Frag)(mg:Str->Option Value)(c f:Str):Prop:=∃C,mg c=some (.ref C)/\Cls K C/\nu K C f
section
variable {X:Cx}{md:List Md}{P:Pt}{R:RR}
def fH(b:List Str)(f:Str)(m:M D):M D:=λρ O=>(m ρ O).bind λd a=>match d with
 | .ob n=>match a[n]? with
  |some (.ins c fs)=>if c∈b then match fs.lookup f with
   |some y=>.ok y a
   |none=>.no else .no
  | _=>.no
 | _=>.no
theorem nR{j:List Str}{f:Str}{o:Expr}{pos:Pos}{m:M D}(u:∀c∈j,KC X.K X.mg c f)(h:VE X md P o m)(hb:attributeBase o f X.env (eval o X.env)=eval o X.env:=by rfl):VE X md P (.Attribute o f pos) (fH j f m):=(Rt h hb).imp λσ H Q q=>by
 obtain⟨ρ,O,F,Z,d,O',r,s,e,k⟩:=q;obtain⟨x,O1,W,e⟩:=Res.bind_ok e
 cases x with
 |ob n =>
  dsimp only at e;split at e
  ·rename_i c fs U;split at e
   ·rename_i b;split at e
    ·rename_i y T;cases e;refine⟨ρ,_,F,Z,_,_,r,s,W,λv H1 F1 g L i l=>?_⟩;obtain⟨a,rfl,z⟩:=Rp.unO l;obtain⟨C,Y,J,h1,h2,h3⟩:=i.ob n a _ z U;obtain⟨C',h4,I,G⟩:=u c b;rw[h1] at h4;cases h4;obtain⟨w,E,B⟩:=h3.get T;exact⟨a,C,Y,J,w,rfl,h2,I,G,E,k w H1 F1 g L i B⟩
    ·cases e
   ·cases e
  ·cases e
 | _=>cases e
def kE(b:List Str)(f:Str)(mo a:M D):MS:=λρ O=>match a ρ O with
 | .ok d O1=>match mo ρ O1 with
  | .ok (.ob n) O2=>match O2[n]? with
   |some (.ins c fs)=>if c∈b/\fs.length<900 then .nx ρ (O2.set n (.ins c (putD f d fs))) else .no
   | _=>.no
  | _=>.no
 | .ex x O'=>.ex x O'
 | .no=>.no
theorem HB{W:List Str}{f:Str}{o value:Expr}{pos pos':Pos}{mo J:M D}(hc:∀c∈W,KC X.K X.mg c f)(ho:VE X md P o mo)(hv:VE X md P value J)(hs:swapsWith value (some (.Attribute o f pos')) pos.line X.env=pure false:=by rfl):VS X md P R (.Assign [.Attribute o f pos'] value pos) (kE W f mo J):=(Ru ho hv hs).imp λD σ H q=>by
 obtain⟨ρ,O,F,as,r,s,k⟩:=q;unfold kE at k;split at k
 ·rename_i d Y e1;split at k
  ·rename_i n O2 e2;split at k
   ·rename_i c fs eo;split at k
    ·rename_i E;refine⟨ρ,O,F,as,d,Y,r,s,e1,λy H1 F1 G U Z hy=>?_⟩;refine⟨ρ,Y,F1,G,.ob n,O2,Z,s.step U,e2,λz x B i T I hz=>?_⟩;have g:=U.trans T;obtain⟨a,rfl,l⟩:=Rp.unO hz;obtain⟨C,m,L,h1,h2,h3⟩:=I.ob n a _ l eo;obtain⟨C',h4,h5,h6⟩:=hc c E.1;rw[h1] at h4;cases h4;have j:=zD l
     have hn:x a≠none:=by rw[h2];exact λz=>nomatch z
     have Q:Gr x B i (upd x a (.ins C m (fK f y L))) B i:=⟨λ_ _ _ _ _=>rfl,Same.refl _,⟨[],by simp,λ_ h=>nomatch h⟩,λb u e hb _=>by rw[aP (λz=>hb (by rw[z];exact j))];exact e,λb e=>by
      by_cases h:b=a
      ·subst h;rw[bW] at e;cases e
      ·rwa [aP h] at e,λb o' u e=>by rw[aP (λz=>by rw[z,h2] at e;cases e)];exact e⟩
     refine⟨a,C,m,L,rfl,h2,h5,h6,by rw[h3.length];omega,?_⟩;exact k σ _ B i (g.trans Q).toS (I.set l ⟨C,m,_,h1,bW,h3.put (Rp.gr hy T)⟩) ((s.step g).step Q)
    ·exact False.elim k
   ·exact False.elim k
  ·exact False.elim k
 ·exact False.elim k
 ·exact False.elim k
end
section
variable {Pr:Program}{w:World}{K:Frag}{mg:Str->Option Value}{base:Heap}
theorem HD{x qual:Str}{st:Stmt}{f:Addr}{fd:FuncData}{N ps:List Str}{k:Nat}(Fn:Fun K x qual st f fd)(S:cg N ps (bu st))
  (pm I:List Md) {R:RR}{b:MS} (Y:ir R) (G:∀N H F l,R N H F l .non .non) (B:pm.length=ps.length) (W:(pm++I).length=N.length) (U:∀m∈pm,m≠.o)
  (body:∀(i:Value) (A:Around) (outer:List Env) (s:Shared) (H:Hp) (E:XK),bM k (A.deeper (envOfC qual (bu st) s.heap.objs.size f i))->∀P,VSs ((iZ CX0 Pr w K mg base N qual (bu st) f i A outer s H E).nox) (pm++I) P R (fU st) b):
  fc Pr w K mg base CX0 (k+1) f fd ps (vSp K mg pm R (bZ N.length b)):=by
 refine Fn.ok S (λJ H Q E h=>?_) (λi A outer s H J Q E T h=>?_)
 ·obtain⟨u,O,F,l,d,Z,r,a,_⟩:=h;rw[a.len.1,B]
 ·obtain⟨u,O,F,l,d,Z,r,a,e,q⟩:=h;refine⟨_,body i A outer s H E T (Pt.all H),?_⟩;refine⟨_,O,F,l,r,Hf a W U,?_⟩;unfold bZ at e
  cases eb:b (u.map some++List.replicate (N.length - u.length) none) O with
  |rt d' O2 =>
   rw[eb] at e;cases e
   exact λv y z j g n L=>q v y z j g.gr n (Y _ _ _ _ _ _ _ (λc X=>Classical.not_not.mp X) L)
  |nx ρ O2 =>
   rw[eb] at e;cases e
   exact λσ' y z j g n _=>q _ y z j g.gr n (G _ _ _ _)
  |bk _ _=>rw[eb] at e;cases e
  |ct _ _=>rw[eb] at e;cases e
  |ex _ _=>rw[eb] at e;cases e
  |no=>rw[eb] at e;cases e
def nT(K:Frag)(mg:Str->Option Value)(c m qual:Str)(st:Stmt):Prop:=∃C f fd,mg c=some (.ref C)/\Cls K C/\rz K C m f/\Fun K m qual st f fd
def jy(P:Program)(w:World)(K:Frag)(mg:Str->Option Value)(base:Heap)(c m:Str)(ps:List Str)(k:Nat)(sp:Sp):Prop :=
 ∃C f fd,mg c=some (.ref C)/\Cls K C/\rz K C m f/\Binds K fd ps []/\fc P w K mg base CX0 k f fd ps sp
def yC(P:Program)(w:World)(K:Frag)(mg:Str->Option Value)(base:Heap)(c:Str)(ps:List Str)(k:Nat)(sp:Sp):Prop :=
 ∃C f fd,mg c=some (.ref C)/\Mk K C f/\Binds K fd ps []/\fc P w K mg base CX0 k f fd ps sp
def yD(K:Frag)(mg:Str->Option Value)(c qual:Str)(st:Stmt):Prop:=∃C f fd,mg c=some (.ref C)/\Mk K C f/\Fun K "__init__" qual st f fd
theorem sr{c x qual:Str}{st:Stmt}{N ps:List Str}{k:Nat}(z:nT K mg c x qual st)(S:cg N ps (bu st))
  (hb:∀(kV i pm:Value) (y:Option Addr) (a ct:Value) (us:List Value),us.length=ps.length->bindArgs (PySem.W.fnOf x qual (iK st) (fU st) (bu st) .none kV i pm y a ct) ⟨us,[]⟩=pure (ps.zip us))
  (pm d:List Md) {R:RR}{b:MS} (n:ir R) (h:∀N H F u,R N H F u .non .non) (g:pm.length=ps.length:=by rfl) (l:(pm++d).length=N.length:=by rfl) (j:∀m∈pm,m≠.o:=by decide)
  (body:∀(f:Addr) (a:Value) (A:Around) (outer:List Env) (s:Shared) (H:Hp) (E:XK),bM k (A.deeper (envOfC qual (bu st) s.heap.objs.size f a))->∀P,VSs ((iZ CX0 Pr w K mg base N qual (bu st) f a A outer s H E).nox) (pm++d) P R (fU st) b):
  jy Pr w K mg base c x ps (k+1) (vSp K mg pm R (bZ N.length b)):=by
 obtain⟨C,f,fd,h1,h2,h3,h4⟩:=z;exact⟨C,f,fd,h1,h2,h3,h4.binds hb,HD h4 S pm d n h g l j (body f)⟩
theorem Vs{c qual:Str}{st:Stmt}{N ps:List Str}{k:Nat}(y:yD K mg c qual st)(S:cg N ps (bu st))
  (hb:∀(kV i pm:Value) (x:Option Addr) (a ct:Value) (us:List Value),us.length=ps.length->bindArgs (PySem.W.fnOf "__init__" qual (iK st) (fU st) (bu st) .none kV i pm x a ct) ⟨us,[]⟩=pure (ps.zip us))
  (pm d:List Md) {R:RR}{b:MS} (n:ir R) (h:∀N H F u,R N H F u .non .non) (g:pm.length=ps.length:=by rfl) (l:(pm++d).length=N.length:=by rfl) (j:∀m∈pm,m≠.o:=by decide)
  (body:∀(f:Addr) (a:Value) (A:Around) (outer:List Env) (s:Shared) (H:Hp) (E:XK),bM k (A.deeper (envOfC qual (bu st) s.heap.objs.size f a))->∀P,VSs ((iZ CX0 Pr w K mg base N qual (bu st) f a A outer s H E).nox) (pm++d) P R (fU st) b):
  yC Pr w K mg base c ps (k+1) (vSp K mg pm R (bZ N.length b)):=by
 obtain⟨C,f,fd,h1,h2,h4⟩:=y;exact⟨C,f,fd,h1,h2,h4.binds hb,HD h4 S pm d n h g l j (body f)⟩
end
section
variable {X:Cx}{md:List Md}{P:Pt}{R:RR}{k:Nat}{c m:Str}{ps:List Str}{p pos apos:Pos}{o e:Expr}{es:List Expr}{pm:List Md}{cf:List D->au->Res D}{mo:M D}{ma:M (List D)}
def du(c m:Str)(cf:List D->au->Res D)(mo:M D)(ma:M (List D)):M D:=λρ O=>(mo ρ O).bind λd a=>match d with
 | .ob n=>match a[n]? with
  |some (.ins c' fs)=>if c'=c/\(fs.lookup m).isNone=true then(ma ρ a).bind λb f=>cf (.ob n::b) f else .no
  | _=>.no
 | _=>.no
theorem HF{K:Frag}{mg:Str->Option Value}{C:Addr}(Y:ir R)(Z:mg c=some (.ref C)){E:XK}{σ:St}{H:Hp}{Q:VK}(q:tM K mg md P R (du c m cf mo ma) σ H Q):
  xG C m (vSp K mg (.v::pm) R cf) [] E (tM K mg md P (rV K) mo) (tMA K mg md P pm ma) σ H Q:=by
 obtain⟨ρ,O,F,as,d,O',r,s,e,k⟩:=q;obtain⟨x,I,e1,e⟩:=Res.bind_ok e
 cases x with
 |ob n =>
  dsimp only at e;split at e
  ·rename_i c' fs eo;split at e
   ·rename_i z;obtain⟨B,G,e2,e⟩:=Res.bind_ok e;refine⟨ρ,O,F,as,.ob n,I,r,s,e1,λv H1 F1 j g u y=>?_⟩;obtain⟨a,rfl,W⟩:=Rp.unO y;obtain⟨C',dx,gs,h1,h2,h3⟩:=u.ob n a _ W eo;rw[z.1,Z] at h1;cases h1;refine⟨a,dx,gs,rfl,h2,h3.no (Option.isNone_iff_eq_none.mp z.2),?_⟩;refine⟨ρ,I,F1,j,B,G,u,s.step g,e2,λvs H2 F2 i f L h=>?_⟩;dsimp only;rw[zT];exact⟨.ob n::B,G,F2,i,d,O',L,⟨Rp.gr y f,h⟩,e,λJ H' F' l g' T hw=>k J H' F' l ((g.trans f).trans g') T (Y _ _ _ _ _ _ _ (λb U=>(g.trans f).dm b U) hw)⟩
   ·cases e
  ·cases e
 | _=>cases e
theorem HH{pl:Sem Bool}(j:ir R)(M:jy X.prog X.w X.K X.mg X.base c m ps k (vSp X.K X.mg (.v::pm) R cf))(g:bM k X.A)(h:VE X md P o mo)(i:AE X md P pm (e::es) ma)
  (a:starEach (e::es) X.env=(false,eval e X.env)::starEach es X.env:=by exact cQ rfl) (b:(backTo pos (starEach es X.env)).any (·.1)=false:=by exact fj rfl)
  (d:eval (.Call (.Attribute o m apos) (e::es) [] pos) X.env=(do
   let ov <-eval o X.env
   standAt apos.atName
   let (f,first) <-holding [ov] (getMethod ov m pl)
   callWith pos f first (backTo pos (starEach (e::es) X.env)) (backToKw pos (keywordEach [] X.env))):=by rfl):
  PE X (.Call (.Attribute o m apos) (e::es) [] pos) (tM X.K X.mg md P R (du c m cf mo ma)):=by
 obtain⟨C,f,fd,h1,h2,h3,h4,l⟩:=M
 exact(RD (pl:=pl) (E:=E0) (ds:=[]) (dvs:=[]) h h2 h3 l g h4 .nil uG i a b d).imp λ_ _ _ q=>HF j h1 q
theorem Vt{pl:Sem Bool}(B:ir R)(M:jy X.prog X.w X.K X.mg X.base c m ps k (vSp X.K X.mg [.v] R cf))(y:bM k X.A)(z:VE X md P o mo)
  (x:eval (.Call (.Attribute o m apos) [] [] pos) X.env=(do
   let ov <-eval o X.env
   standAt apos.atName
   let (f,first) <-holding [ov] (getMethod ov m pl)
   callWith pos f first (backTo pos (starEach [] X.env)) (backToKw pos (keywordEach [] X.env))):=by rfl):
  PE X (.Call (.Attribute o m apos) [] [] pos) (tM X.K X.mg md P R (du c m cf mo aq)):=by
 obtain⟨C,f,fd,h1,h2,h3,h4,G⟩:=M
 refine(RG (pl:=pl) (E:=E0) (ds:=[]) (dvs:=[]) z h2 h3 G y h4 .nil uG x).imp λσ H Q q=>?_
 obtain⟨ρ,O,F,W,d,Y,r,s,e,k⟩:=HF (pm:=[]) (E:=E0) B h1 q;refine⟨ρ,O,F,W,d,Y,r,s,e,λv i F' h g l u=>?_⟩;obtain⟨a,U,fs,T,L,J,t⟩:=k v i F' h g l u;refine⟨a,U,fs,T,L,J,?_⟩;obtain⟨ρ1,O1,Z,b,ds1,O2,j,s1,I,n⟩:=t;cases I;exact n [] i Z b Gr.refl j trivial
def jN(c:Str)(cf:List D->au->Res D)(ma:M (List D)):M D:=λρ O=>(ma ρ O).bind λb a=>match cf (.ob a.length::b) (a++[.ins c []]) with
 | .ok .non O2=>.ok (.ob a.length) O2
 | .ok _ _=>.no
 | .ex x O2=>.ex x O2
 | .no=>.no
theorem Vu{K:Frag}{mg:Str->Option Value}{C:Addr}(hC:mg c=some (.ref C)){E:XK}{σ:St}{H:Hp}{Q:VK}(q:tM K mg md P (rV K) (jN c cf ma) σ H Q):
  FT C (vSp K mg (.v::pm) (rV K) cf) [] E (tMA K mg md P pm ma) σ H Q:=by
 obtain⟨ρ,O,F,as,d,O',r,s,e,k⟩:=q;obtain⟨ds,B,e1,e⟩:=Res.bind_ok e;split at e
 ·rename_i O2 ec;cases e;refine⟨ρ,O,F,as,ds,B,r,s,e1,λvs u j f g1 y W=>?_⟩;intro x g T L Y;rw[zT]
  have I:upd u g (.own x) x=none:=by rw[aP Y.symm];exact T
  have gA:Gr u j f (upd u g (.own x)) j f:=Gr.lay L;have gB:Gr (upd u g (.own x)) j f (upd (upd u g (.own x)) x (.ins C g [])) j f:=Gr.lay I;have gC:Gr (upd (upd u g (.own x)) x (.ins C g [])) j f (upd (upd u g (.own x)) x (.ins C g [])) j f:=Gr.refl;have l:=gA.trans gB;have g2:Gr u j f (upd (upd u g (.own x)) x (.ins C g [])) j (f++[x]):=⟨l.fz,l.ff,⟨[x],rfl,λa i=>by rw[zk.mp i];exact T⟩,λa o e i hd=>l.fr a o e i hd,l.dm,l.kz⟩
  have nx:x∉f:=λz=>y.all z T
  have U:=(y.lay (o:=.own x) L).lay (o:=.ins C g []) I
  have at_:∀(n:Nat) (a:Addr),f[n]?=some a->(f++[x])[n]?=some a:=λn a h=>by
   rw[zx (zg.mp h).1];exact h
  have r2:RlO K mg (B++[.ins c []]) (upd (upd u g (.own x)) x (.ins C g [])) j (f++[x]):=by
   refine⟨U.fh,U.fd,?_,by simp[y.len],λa i=>?_,λn a o i G=>?_⟩
   ·rw[jb];refine⟨y.nd,by simp,λa i b hb=>?_⟩;rw[zk.mp hb];intro z;subst z;exact nx i
   ·rcases zz.mp i with z | z
    ·exact y.fa a z
    ·rw[zk.mp z];exact y.frF T
   ·by_cases hn:n<B.length
    ·rw[zx (by rw[y.len];exact hn)] at i;rw[zx hn] at G;exact(U.ob n a o i G).keep rfl (Same.refl _) at_
    ·have hn':n=B.length:=by
      have:=(zg.mp G).1
      simp at this
      omega
     subst hn';rw[zE (zc _),Nat.sub_self] at G;rw[<-y.len,zE (zc _),Nat.sub_self] at i;cases G;cases i;exact⟨C,g,[],hC,bW,⟨rfl,Rps.nil⟩⟩
  have J:Rp K j (f++[x]) (.ref x) (.ob B.length):=Rp.mkO (by rw[<-y.len,zE (zc _),Nat.sub_self];rfl);refine⟨.ob B.length::ds,_,j,f++[x],.non,_,r2,⟨J,W.gr g2⟩,ec,λv H3 F3 Z g3 r3 hv=>?_⟩;exact⟨Rp.unN hv,k _ H3 F3 Z ((g1.trans g2).trans g3) r3 (Rp.gr J g3)⟩
 ·cases e
 ·cases e
 ·cases e
theorem HJ(M:yC X.prog X.w X.K X.mg X.base c ps k (vSp X.K X.mg (.v::pm) (rV X.K) cf))(d:bM (k+1) X.A)(i:AE X md P pm (e::es) ma)(g:Gl X c:=by rfl)(b:(c == ("__debug__":Str))=false:=by decide)
  (h:starEach (e::es) X.env=(false,eval e X.env)::starEach es X.env:=by exact cQ rfl) (a:(backTo pos (starEach es X.env)).any (·.1)=false:=by exact fj rfl):VE X md P (.Call (.Name c p) (e::es) [] pos) (jN c cf ma):=by
 obtain⟨C,f,fd,h1,h3,h4,j⟩:=M
 exact(RK (E:=E0) (ds:=[]) (dvs:=[]) h3 j d g h1 h4 .nil uG i b h a).imp λ_ _ _ q=>Vu h1 q
end
section
variable {X:Cx}{md:List Md}{P:Pt}{R:RR}
def pW:D->Option (List D)
 | .lst ds=>some ds
 | .tup ds=>some ds
 | .str l=>if ascii l=true then some (jx l) else none
 | _=>none
def cA(m:M D):M (List D):=λρ O=>(m ρ O).bind λd b=>match pW d with
 |some a=>.ok a b
 |none=>.no
theorem yE{e:Expr}{m:M D}(h:WE X md P e m):SE X md P e m:=h.imp λσ H Q q=>by
 obtain⟨ρ,O,F,z,d,B,r,s,e,k⟩:=q;refine⟨ρ,O,F,z,d,B,r,s,e,λv E G c g i b=>k v E G c g i ?_⟩
 rcases b with b | ⟨a,f,y,x,u,n,l,I,j⟩
 ·exact .inl b
 ·exact .inr ⟨a,f,y,x,u,n,l,j⟩
theorem pX{g e:Expr}{m:M D}(h:WE X md P e m):VI X md P g e (cA m):=λpins s σ H Q I q=>by
 obtain⟨ρ,O,F,c,j,u,r,sl,e,k⟩:=q;obtain⟨d,n,b,e⟩:=Res.bind_ok e
 cases d with
 |lst f =>
  cases e;exact Vi h pins s σ H Q I ⟨ρ,O,F,c,_,_,r,sl,by unfold uX;rw[b];rfl,k⟩
 |tup f =>
  cases e;exact Hv (dX (yE h)) pins s σ H Q I ⟨ρ,O,F,c,_,_,r,sl,by unfold yu mG;rw[b];rfl,k⟩
 |str l =>
  simp only[pW] at e;split at e
  ·rename_i f a;split at a
   ·rename_i i;cases a;cases e;refine Hw (yE h) pins s σ H Q I ⟨ρ,O,F,c,jx l,_,r,sl,?_,k⟩;unfold yx;rw[b];show(if ascii l=true then _ else _)=_;rw[if_pos i]
   ·cases a
  ·cases e
 | _=>cases e
theorem Vv{G e:Expr}{m:M D}(h:SE X md P e m):VIc X md P G e (uX m):=(Fi h).imp λσ H Q q=>by
 obtain⟨ρ,O,F,W,ds,Z,r,s,e,k⟩:=q;obtain⟨d,O1,U,e⟩:=Res.bind_ok e
 cases d with
 |lst es =>
  cases e;refine⟨ρ,_,F,W,_,_,r,s,U,λv B n l I E z=>?_⟩
  obtain⟨a,c,rfl,h1,h2⟩:∃a c,v=.ref a/\Rps X.K n l c ds/\∀(f j:Hp) (b:List Addr),Gr B n l f j b->(∃O,RlO X.K X.mg O f j b)->RdK X.K f a c:=by
   rcases z with z | ⟨a,c,Y,rfl,e,T,L,J⟩
   ·obtain⟨a,c,rfl,h1,h2⟩:=z.unL;exact⟨a,c,rfl,h2,λf j b g ⟨O,r⟩=>(h1.mono g.ff).mono r.fh⟩
   ·cases e;exact⟨a,c,rfl,J,λf j b g _=>.inl (.inl (g.fr _ _ T L rfl))⟩
  refine⟨a,rfl,⟨c,(h2 B n l Gr.refl ⟨_,E⟩).sq⟩,k _ B n l I E ⟨λi d f j b g r e=>?_,λf j b g r=>⟨c,(h2 f j b g r).sq,by rw[h1.length];exact zc _⟩⟩⟩;obtain⟨x,h3,h4⟩:=h1.get' e;have q:=h2 f j b g r;refine⟨⟨c,x,q.sq,h3⟩,λy H3 u=>?_⟩;obtain⟨rfl,u⟩:=u
  have:=u c q.sq
  rw[h3] at this;cases this;exact⟨j,Gr.refl,λ_ r=>r,h4.gr g⟩
 | _=>cases e
theorem mz{g e:Expr}{m:M D}(h:SE X md P e m):VIc X md P g e (cA m):=λpins s σ H Q I q=>by
 obtain⟨ρ,O,F,c,j,u,r,sl,e,k⟩:=q;obtain⟨d,n,b,e⟩:=Res.bind_ok e
 cases d with
 |lst f =>
  cases e;exact Vv h pins s σ H Q I ⟨ρ,O,F,c,_,_,r,sl,by unfold uX;rw[b];rfl,k⟩
 |tup f =>
  cases e;exact ye (Hv (dX h)) pins s σ H Q I ⟨ρ,O,F,c,_,_,r,sl,by unfold yu mG;rw[b];rfl,k⟩
 |str l =>
  simp only[pW] at e;split at e
  ·rename_i f a;split at a
   ·rename_i i;cases a;cases e;refine ye (Hw h) pins s σ H Q I ⟨ρ,O,F,c,jx l,_,r,sl,?_,k⟩;unfold yx;rw[b];show(if ascii l=true then _ else _)=_;rw[if_pos i]
   ·cases a
  ·cases e
 | _=>cases e
def yF(m:M D):M (List D):=λρ O=>(m ρ O).bind λd a=>match d with
 | .lst ds=>.ok (fX 0 ds) a
 | .str l=>if ascii l=true then .ok (fX 0 (jx l)) a else .no
 | _=>.no
variable {elts:List Expr}{x1:Nat}{tpos:Pos}
theorem Vw{a:Expr}{p pos:Pos}{m:M D}(f:X.mg "enumerate" = none)(h:WE X md P a m)(g:Gl X "enumerate":=by rfl)(c:starEach [a] X.env=[(false,eval a X.env)]:=by exact j7 rfl)(b:starEach [a] X.env=(false,eval a X.env)::starEach [] X.env:=by exact cQ rfl):
  VI X md P (.Tuple elts x1 tpos) (.Call (.Name "enumerate" p) [a] [] pos) (yF m):=λpins s σ H Q I q=>by
 obtain⟨ρ,O,F,j,n,u,r,sl,e,k⟩:=q;obtain⟨d,x,i,e⟩:=Res.bind_ok e
 cases d with
 |lst es =>
  cases e;exact Vk f h g c b pins s σ H Q I ⟨ρ,O,F,j,_,_,r,sl,by unfold pR;rw[i];rfl,k⟩
 |str l=>exact Vl f (yE h) g c b pins s σ H Q I ⟨ρ,O,F,j,n,u,r,sl,by unfold Hx;rw[i];exact e,k⟩
 | _=>cases e
end
theorem Vx{P:Program}{w:World}{K:PySem.W.Frag}{mg mb:Str->Option Value}{CX:CXT}{k:Nat}{fa a:Addr}{fd:FuncData}{x:Str}{sp:Sp}{c:Shared}{vs:List Value}{ns:List Int}
  (KX:K.In c.heap) (B:c.heap.Ns mainGlobals mg) (hb:c.heap.Ns builtinsNs mb) (R:∀x:Str,x≠"__name__"->mb x=bootBuiltins x) (J:c.heap.NoLimit) (hg:c.gens = #[])
  (L:c.heap.get? a=some {cls:=.type "list",data:=.seq vs.toArray}) (hi:IntsAre vs ns) (X:ns.length<=sizeLine) (hr:bM k callerA)
  (F:∀base:Heap,K.In base->base.Ns mainGlobals mg->fc P w K mg base CX k fa fd [x] sp) (j:∀(s:Shared) (u:Value),BindsTo s fd ⟨[u],[]⟩ [(x,u)])
  (Q:∀H:Hp,nC H->RdK K H a (ns.map V.int)->sp [.ref a] H (λv _=>v=.bl true) λ_ _ _=>False)
  (T:∀H e g,CX [] H c (λ_ _ _=>False) e g->False):
  codeAny (model P w) callerA (.call (.ref fa) ⟨[.ref a],[]⟩) (λr g=>r=.ok (.ret (.bool true))/\OldK c.heap g.heap/\g.os=c.os/\AllBare g.gens) c:=by
 have U:=xN hi;have G:=hi.length;have core:∀H:Hp,nC H->RdK K H a (ns.map V.int)->HOk P w H c.heap->(∀b,H b≠none->b=a)->(H a≠none->K.lookup a=none) ->
   codeAny (model P w) callerA (.call (.ref fa) ⟨[.ref a],[]⟩) (λr g=>r=.ok (.ret (.bool true))/\OldK c.heap g.heap/\g.os=c.os/\AllBare g.gens) c:=by
  intro H Y hS hok Z hK
  have f:∀{b:Addr}{o:Obj},c.heap.get? b=some o->H b=none->(gM c.heap H).get? b=some o:=λe n=>Es e n
  have O:∀{b:Addr}{o:Obj}{l:Array DictEntry}{y:Nat},c.heap.get? b=some o->o.data=.dict l y->H b=none:=λ{b o l y} e d=>by
   cases q:H b with
   |none=>rfl
   |some u =>
    have e':b=a:=Z b (by rw[q];simp);subst e';rw[L] at e;cases e;have d':Data.seq vs.toArray _=Data.dict l y:=d;cases d'
  have i:∀{b:Addr}{m:Str->Option Value},c.heap.Ns b m->(gM c.heap H).Ns b m:=λ{b m} ⟨o,l,y,e,d,r⟩=>⟨o,l,y,f e (O e d),d,r⟩
  have E:K.In (gM c.heap H):=λb o e=>f (KX b o e) (by
   cases q:H b with
   |none=>rfl
   |some u =>
    have e':b=a:=Z b (by rw[q];simp);subst e'
    rw[hK (by rw[q];simp)] at e;cases e)
  have hM:Mod K mg (gM c.heap H):=⟨E,i B,⟨mb,i hb,R⟩,let ⟨mc,h1,h2⟩:=J;⟨mc,i h1,h2⟩⟩;have e0:lN P w K mg (gM c.heap H) callerA [] c H:=⟨rfl,hM,λb o e=>Et e,Nat.le_of_eq (Er _ _),trivial,λb hb=>absurd (show b∈([]:List Addr) from hb) (by simp),hok,.of_eq hg⟩
  refine codeAny_mono ((F _ E (i B)).run callerA [] c H ⟨[.ref a],[]⟩ [.ref a] [.ref a] _ _ hr e0 (j c (.ref a)) (.cons rfl .nil) (Q H Y hS)) λr g h=>?_
  cases r with
  |error e=>exact(T H e g h).elim
  |ok fl =>
   cases fl with
   |next=>exact False.elim h
   |brk=>exact False.elim h
   |cont=>exact False.elim h
   |ret u =>
    obtain⟨v,H',os,bare,un,I,r',q⟩:=h;have q':v=.bl true:=q;subst q';obtain rfl:u=Value.bool true:=r';refine⟨rfl,OldK.of_keep λb o e=>?_,os,bare⟩
    cases q:H b with
    |none=>exact un.keep b o e q (by intro z;exact absurd (show b∈([]:List Addr) from z) (by simp)) (by simp)
    |some u =>
     rcases Y b with z | ⟨ob,xs,z⟩
     ·rw[q] at z;cases z
     ·have z2:=un.frzs b ob _ z;obtain⟨e1,_⟩:=hok b _ z;obtain⟨e2,_⟩:=I b _ z2;rw[e] at e1;cases e1;exact e2
 cases hk:K.lookup a with
 |some o =>
  have e:=KX a o hk;rw[L] at e;cases e
  refine core (λ_=>none) (λ_=>.inl rfl) (.inr ⟨vs,_,hk,by rw[G];exact X,U⟩) (λb u z=>by have z':(none:Option HO)=some u:=z;cases z') (λb z=>absurd rfl z) λz=>absurd rfl z
 |none =>
  refine core (λb=>if b=a then some (.frz {cls:=.type "list",data:=.seq vs.toArray} (.lst (ns.map V.int))) else none) (λb=>?_) (.inl (.inr ⟨{cls:=.type "list",data:=.seq vs.toArray},if_pos rfl⟩)) (λb u z=>?_) (λb z=>?_) λ_=>hk
  ·by_cases hb:b=a
   ·exact .inr ⟨_,_,if_pos hb⟩
   ·exact .inl (if_neg hb)
  ·by_cases hb:b=a
   ·have z':=(if_pos hb).symm.trans z;cases z';subst hb;exact⟨L,by rw[zd];exact X,vs,_,U,L⟩
   ·have z':=(if_neg hb).symm.trans z;cases z'
  ·by_cases hb:b=a
   ·exact hb
   ·exact absurd (if_neg hb) z
theorem walk_ofR{l:PySem.W.OpenLaw}{n k:Nat}{q:Program}{loose:List Str}{XP:(Str->Option Value)->Heap->Prop}{YP:World->Heap->Prop}{d:DefRec}{K:Params->PySem.W.Frag}{CX:World->CXT}{sp:World->Sp}{x:Str}
  (hn:l.most=some n) (hn2:n<=sizeLine) (hdf:d.params.defaults=[]) (hr:bM k callerA)
  (hY:∀(w:World) (h:Heap),YP w h->(K w.params).In h)
  (F:∀(w:World) (mg:Str->Option Value) (fa:Addr) (h:Heap),(K w.params).In h->h.Ns mainGlobals mg->mg d.name=some (.ref fa) ->
   ∃fd:FuncData,(∀(s:Shared) (u:Value),BindsTo s fd ⟨[u],[]⟩ [(x,u)]) /\
    ∀base:Heap,(K w.params).In base->base.Ns mainGlobals mg->fc l.prog w (K w.params) mg base (CX w) k fa fd [x] (sp w))
  (hsp:∀(w:World) (H:Hp) (a:Addr) (ns:List Int),ns.length<=n->nC H->RdK (K w.params) H a (ns.map V.int)->sp w [.ref a] H (λv _=>v=.bl true) λ_ _ _=>False)
  (hCX:∀(w:World) (H:Hp) (s:Shared) (e:Value) (s':Shared),CX w [] H s (λ_ _ _=>False) e s'->False):
  PySem.W.WalkO q loose XP YP l.row.toRowW d [] (λf vs=>PySem.call f vs):=by
 refine Att.attach_call hn hdf λw s₀ s₁ mg mb fa o pm cd doc a vs ns G Y ho hd hcd hmg hobj hints hlen hg=>?_
 have KX:=hY w _ Y;obtain⟨fd,hb,hF⟩:=F w mg fa _ KX G.T.g hmg
 exact Vx KX G.T.g G.T.b G.T.builtins G.T.nolimit hg hobj hints (zH hlen hn2) hr hF hb (λH hO hS=>hsp w H a ns hlen hO hS) λH e s'=>hCX w H s₁ e s'
theorem kI{K:Frag}{mg:Str->Option Value}{f:Str}:∀c∈([]:List Str),KC K mg c f:=λ_ h=>nomatch h
theorem kJ{K:Frag}{mg:Str->Option Value}{f c:Str}{d:List Str}(h:KC K mg c f)(g:∀c∈d,KC K mg c f):∀b∈c::d,KC K mg b f:=λb a=>by
 rcases zm.mp a with rfl | a
 ·exact h
 ·exact g b a
def sp_law(K:Frag):Sp:=λvs H Q _=>∃(a:Addr) (ns:List Int),vs=[.ref a]/\RdK K H a (ns.map V.int)/\ns.length<=63/\nC H/\∀b,Q (.bl true) b
theorem Rps.ofInts{K:Frag}{F:Hp}{a:List Addr}:∀ns:List Int,Rps K F a (ns.map V.int) (ns.map D.int)
 | []=>Rps.nil
 |n::ns=>Rps.cons Rp.int (Rps.ofInts ns)
theorem Vy{K:Frag}{mg:Str->Option Value}{c:List D->au->Res D}(h:∀ns:List Int,ns.length<=63->∃d,c [.lst (ns.map D.int)] []=.ok (.bl true) d):∀vs H Q E,sp_law K vs H Q E->vSp K mg [.s] (rV K) c vs H Q E:=by
 rintro vs H Q E ⟨a,ns,rfl,hS,hl,hO,q⟩;obtain⟨d,e⟩:=h ns hl
 have r:RlO K mg [] H H []:=⟨Same.refl H,λb o e=>by
  rcases hO b with z | ⟨m,k,z⟩
  ·rw[e] at z;cases z
  ·rw[e] at z;cases z;rfl,List.nodup_nil,rfl,(λ_ z=>nomatch z),λn b o z=>by cases z⟩
 refine⟨[.lst (ns.map D.int)],[],H,[],.bl true,d,r,⟨.inl (Rp.mkL hS (Rps.ofInts ns)),trivial⟩,e,λv i u j g l f=>?_⟩;rw[Rp.unB f];exact q i
def keyOf:D->Option Key
 | .int i=>some (.inl i)
 | .str l=>some (.inr (S l))
 | _=>none
section
variable {X:Cx}{md:List Md}{P:Pt}
def Prs(K:Frag)(F:Hp)(a:List Addr):List (V×V)->List (D×D)->Prop
 | [],[]=>True
 |p::ps,d::ds=>Rp K F a p.1 d.1/\Rp K F a p.2 d.2/\Prs K F a ps ds
 | _,_=>False
def DPE(X:Cx)(md:List Md)(P:Pt)(pos:Pos)(keys:List (Option Expr))(values:List Expr)(m:M (List (D×D))):Prop:=∃b:List (TE×TE),
 PPs X pos keys values b/\∀σ H Q,(∃ρ O F c h i,RlO X.K X.mg O H F c/\SlO X.K md P ρ σ H F c/\m ρ O=.ok h i/\∀g d f a,Gr H F c d f a->RlO X.K X.mg i d f a->Prs X.K f a g h->Q g d)->xP b σ H Q
def Vz:M (List (D×D)):=λ_ O=>.ok [] O
def VB(mk d:M D)(r:M (List (D×D))):M (List (D×D)):=λρ O=>(mk ρ O).bind λa h=>(d ρ h).bind λb g=>(r ρ g).bind λc f=>.ok ((a,b)::c) f
def keysOf:List (D×D)->Option (List Key)
 | []=>some []
 | (a,_)::r=>(keyOf a).bind λk=>(keysOf r).map (k :: ·)
def VD(m:M (List (D×D))):M D:=λρ O=>(m ρ O).bind λa c=>match keysOf a with
 |some b=>if b.Nodup/\a.length<=15 then .ok (.dic (a.map (·.1)) (a.map (·.2))) c else .no
 |none=>.no
end
section
variable {X:Cx}{md:List Md}{P:Pt}{k:Nat}{c x m:Str}{ps:List Str}{p pos apos:Pos}{o e:Expr}{es:List Expr}{pm:List Md}{cf:List D->au->Res D}{mo:M D}{ma:M (List D)}
theorem cY(C:Can X.prog X.w X.K X.mg X.base x ps k (vSp X.K X.mg pm (rV X.K) cf))(d:bM k X.A)(h:AE X md P pm (e::es) ma)(f:Gl X x:=by rfl)(b:(x == ("__debug__":Str))=false:=by decide)(g:starEach (e::es) X.env=(false,eval e X.env)::starEach es X.env:=by exact cQ rfl)(a:(backTo pos (starEach es X.env)).any (·.1)=false:=by exact fj rfl):
  VE X md P (.Call (.Name x p) (e::es) [] pos) (aM cf ma):=Hg dw C d h f b g a
theorem gW(C:Can X.prog X.w X.K X.mg X.base x ps k (vSp X.K X.mg pm (rO X.K) cf))(d:bM k X.A)(h:AE X md P pm (e::es) ma)(f:Gl X x:=by rfl)(b:(x == ("__debug__":Str))=false:=by decide)(g:starEach (e::es) X.env=(false,eval e X.env)::starEach es X.env:=by exact cQ rfl)(a:(backTo pos (starEach es X.env)).any (·.1)=false:=by exact fj rfl):
  OE X md P (.Call (.Name x p) (e::es) [] pos) (aM cf ma):=Hg fV C d h f b g a
theorem HN{pl:Sem Bool}(M:jy X.prog X.w X.K X.mg X.base c m ps k (vSp X.K X.mg (.v::pm) (rV X.K) cf))(g:bM k X.A)(h:VE X md P o mo)(i:AE X md P pm (e::es) ma)(a:starEach (e::es) X.env=(false,eval e X.env)::starEach es X.env:=by exact cQ rfl)(b:(backTo pos (starEach es X.env)).any (·.1)=false:=by exact fj rfl)
  (d:eval (.Call (.Attribute o m apos) (e::es) [] pos) X.env=(do
   let ov <-eval o X.env
   standAt apos.atName
   let (f,first) <-holding [ov] (getMethod ov m pl)
   callWith pos f first (backTo pos (starEach (e::es) X.env)) (backToKw pos (keywordEach [] X.env))):=by rfl):VE X md P (.Call (.Attribute o m apos) (e::es) [] pos) (du c m cf mo ma):=HH dw M g h i a b d
theorem yG{pl:Sem Bool}(M:jy X.prog X.w X.K X.mg X.base c m ps k (vSp X.K X.mg (.v::pm) (rO X.K) cf))(g:bM k X.A)(h:VE X md P o mo)(i:AE X md P pm (e::es) ma)(a:starEach (e::es) X.env=(false,eval e X.env)::starEach es X.env:=by exact cQ rfl)(b:(backTo pos (starEach es X.env)).any (·.1)=false:=by exact fj rfl)
  (d:eval (.Call (.Attribute o m apos) (e::es) [] pos) X.env=(do
   let ov <-eval o X.env
   standAt apos.atName
   let (f,first) <-holding [ov] (getMethod ov m pl)
   callWith pos f first (backTo pos (starEach (e::es) X.env)) (backToKw pos (keywordEach [] X.env))):=by rfl):OE X md P (.Call (.Attribute o m apos) (e::es) [] pos) (du c m cf mo ma):=HH fV M g h i a b d
theorem HQ{pl:Sem Bool}(M:jy X.prog X.w X.K X.mg X.base c m ps k (vSp X.K X.mg [.v] (rV X.K) cf))(b:bM k X.A)(d:VE X md P o mo)
  (a:eval (.Call (.Attribute o m apos) [] [] pos) X.env=(do
   let ov <-eval o X.env
   standAt apos.atName
   let (f,first) <-holding [ov] (getMethod ov m pl)
   callWith pos f first (backTo pos (starEach [] X.env)) (backToKw pos (keywordEach [] X.env))):=by rfl):VE X md P (.Call (.Attribute o m apos) [] [] pos) (du c m cf mo aq):=Vt dw M b d a
end
def Itz(K:Frag)(d c:Addr):It:=⟨λi H=>∃b a x y,SqL K H d b/\SqL K H c a/\b[i]?=some x/\a[i]?=some y,
 λi H v f=>∃T x y,v=.ref T/\H T=none/\f=upd H T (.tup [x,y])/\(∀b,SqL K H d b->b[i]?=some x)/\∀a,SqL K H c a->a[i]?=some y,
 λi H=>∃b a,SqL K H d b/\SqL K H c a/\(b.length<=i\/a.length<=i)⟩
theorem VF{P:Program}{w:World}{K:Frag}{elts:List Expr}{x1}{pos:Pos}(z TI TO i1 i2 l1 l2:Addr)(D:ZipApart z TI TO i1 i2 l1 l2):Turn P w K (.Tuple elts x1 pos) (Itz K l1 l2) [z,TI,TO,i1,i2] z
  (λi h=>IsZip h z TI TO .none/\IsPair h TI (.ref i1) (.ref i2)/\(∃a b,IsPair h TO a b)/\h.IsListIter i1 l1 i/\h.IsListIter i2 l2 i) where
 mem:=by simp
 obj:=λi h st b hb=>by
  obtain⟨hz,hTI,⟨a,b',hTO⟩,⟨o1,ho1,hc1,hd1⟩,⟨o2,ho2,hc2,hd2⟩⟩:=st;simp only[zm,List.not_mem_nil,or_false] at hb
  rcases hb with rfl | rfl | rfl | rfl | rfl
  ·exact nQ hz rfl
  ·exact⟨_,hTI,λv z=>nomatch z⟩
  ·exact⟨_,hTO,λv z=>nomatch z⟩
  ·exact nQ ho1 hd1
  ·exact nQ ho2 hd2
 keep:=λi h h' st k=>by
  obtain⟨hz,hTI,⟨a,b',hTO⟩,h1,h2⟩:=st;exact⟨k z (by simp) _ hz,k TI (by simp) _ hTI,⟨a,b',k TO (by simp) _ hTO⟩,h1.at λo e=>k i1 (by simp) o e,h2.at λo e=>k i2 (by simp) o e⟩
 item:=by
  intro X hP hw hK hc i pins s σ H E I hf st hg;subst hP hw hK;obtain⟨hz,hTI,⟨a,b',hTO⟩,h1,h2⟩:=st;obtain⟨xs,ys,x,y,hq1,hq2,hx,hy⟩:=hg;obtain⟨its1,rv1,pl1,hz1⟩:=I.list hq1;obtain⟨its2,rv2,pl2,hz2⟩:=I.list hq2;obtain⟨u1,hu1,ru1⟩:=rv1.get hx;obtain⟨u2,hu2,ru2⟩:=rv2.get hy;have hT:H s.heap.objs.size=none:=I.hok.fresh (zc _);have elt:z<s.heap.objs.size:=ze hz
  refine wpAny_pyNext_zip_item D hz hTI hTO h1 h2 pl1.isList pl2.isList (x:=u1) (y:=u2) (by simpa using hu1) (by simpa using hu2) λh' a1 a2 a3 a4 a5 a6 hk=>⟨_,rfl,?_⟩
  refine wpAny_letOwnedTupleGo_zip a1 λh'' hz'' hs''=>⟨.ref s.heap.objs.size,_,?_,rfl,⟨s.heap.objs.size,x,y,rfl,hT,rfl,λys' hy'=>by rw[I.list_inj hy' hq1];exact hx,λys' hy'=>by rw[I.list_inj hy' hq2];exact hy⟩,⟨hz'',hs''.extBut _ _ D.TIz (hk _ _ D.TIz D.TITO D.TIi1 D.TIi2 hTI),⟨_,_,hs''.extBut _ _ D.TOz a2⟩,a3.extBut hs''.extBut D.i1z,a4.extBut hs''.extBut D.i2z⟩,λb hb=>?_⟩
  ·show Inv X pins σ _ {s with heap:=h'',toks:=s.toks};refine I.turnT (ch:=[z,TI,TO,i1,i2]) (us:=[u1,u2]) hf (λb o hb q=>?_) (zc _) ⟨_,hs''.extBut _ _ (Nat.ne_of_gt elt) a5,rfl,_,rfl⟩ (.cons ru1 (.cons ru2 .nil)) (by show 2<=sizeLine;decide)
   have n1:b≠z:=λe=>hb (by simp[e])
   have n2:b≠TO:=λe=>hb (by simp[e])
   have n3:b≠i1:=λe=>hb (by simp[e])
   have n4:b≠i2:=λe=>hb (by simp[e])
   exact hs''.extBut _ _ n1 (hk b o n1 n2 n3 n4 q)
  ·have q:=hf b hb;rw[aP (λe=>?_)]
   ·exact q.1
   ·obtain⟨o,ho⟩:∃o,s.heap.get? b=some o:=by
     obtain⟨o1,ho1,_⟩:=h1;obtain⟨o2,ho2,_⟩:=h2;simp only[zm,List.not_mem_nil,or_false] at hb
     rcases hb with rfl | rfl | rfl | rfl | rfl
     ·exact⟨_,hz⟩
     ·exact⟨_,hTI⟩
     ·exact⟨_,hTO⟩
     ·exact⟨_,ho1⟩
     ·exact⟨_,ho2⟩
    exact absurd (ze ho) (by rw[e];exact zN _)
 done:=by
  intro X hP hw hK hc i pins s σ H E I hf st hg;subst hP hw hK;obtain⟨hz,hTI,⟨a,b',hTO⟩,h1,h2⟩:=st;obtain⟨xs,ys,hq1,hq2,hl⟩:=hg;obtain⟨its1,rv1,pl1,hz1⟩:=I.list hq1;obtain⟨its2,rv2,pl2,hz2⟩:=I.list hq2;have l1:=rv1.length;have l2:=rv2.length
  refine wpAny_pyNext_zip_end (I.ok.hd hc) D hz hTI hTO h1 h2 pl1.isList pl2.isList (by
   rcases hl with hl | hl
   ·left;simp;omega
   ·right;simp;omega) λh' hx=>⟨rfl,?_⟩
  exact I.turnL (t':=s.toks) (ch:=[z,TI,TO,i1,i2]) hf λb o hb q=>hx b o (λe=>hb (by simp[e])) (λe=>hb (by simp[e])) (λe=>hb (by simp[e])) (λe=>hb (by simp[e])) q
 self:=λA i s Q E st h=>wpAny_pyIter_zip st.1 h
section
variable {X:Cx}{md:List Md}{P:Pt}{R:RR}{elts:List Expr}{x1:Nat}{tpos:Pos}
def VH(K:Frag)(h:TA):TI:=λσ H R=>h σ H λg c=>∃a b,g=[.ref a,.ref b]/\(∃f,SqL K c a f)/\(∃d,SqL K c b d)/\R (Itz K a b) c
theorem VJ{a b:Expr}{x:TA}{p pos:Pos}(Q:Gl X "zip")(L:X.mg "zip" = none)(T:PA X [a,b] x)(J:starEach [a,b] X.env=(false,eval a X.env)::starEach [b] X.env:=by exact cQ rfl)(m:(backTo pos (starEach [b] X.env)).any (·.1)=false:=by exact fj rfl):
  PI X (.Tuple elts x1 tpos) (.Call (.Name "zip" p) [a,b] [] pos) (VH X.K x):=by
 intro pins s σ H R I h;refine Call_ (iY I Q L boot_zip (PyProof.Rows.callWith_type1 (thn (T pos pins s σ H _ I h) λus s1 ⟨vs,H1,I1,r1,q1⟩=>?_) J m));obtain⟨z,y,e,⟨xs,l⟩,⟨ys,k⟩,q⟩:=q1;subst e;obtain⟨u1,u2,rfl,j,i⟩:=vals2 r1;cases j;cases i;obtain⟨G,W,d,Z⟩:=I1.list l;obtain⟨F,U,c,Y⟩:=I1.list k
 have a1:z<s1.heap.objs.size:=by obtain⟨_,e,_⟩:=d.isList;exact ze e
 have a2:y<s1.heap.objs.size:=by obtain⟨_,e,_⟩:=c.isList;exact ze e
 refine call_zip_2 d.isList c.isList λh' B u n g f hsz O=>wpAny_pyIter_zip B ?_
 refine⟨s1.heap.objs.size+4,[s1.heap.objs.size+4,s1.heap.objs.size+2,s1.heap.objs.size+3,s1.heap.objs.size,s1.heap.objs.size+1],_,_,H1,rfl,I1.kept (t':=s1.toks) O,VF _ _ _ _ _ z y (zipApart_new a1 a2),⟨B,u,⟨_,_,n⟩,g,f⟩,λb E=>?_,q⟩
 have hb':s1.heap.objs.size<=b:=by
  simp only[zm,List.not_mem_nil,or_false] at E
  rcases E with rfl | rfl | rfl | rfl | rfl
  ·exact zZ _ _
  ·exact zZ _ _
  ·exact zZ _ _
  ·exact zc _
  ·exact zZ _ _
 exact I1.fpOk hb' (I1.hok.fresh hb')
def eO:List D->List D->List D
 |d::ds,e::es=>.tup [d,e]::eO ds es
 | _,_=>[]
theorem HR:∀(ds a:List D) (i:Nat) (x:D),(eO ds a)[i]?=some x->∃d e,ds[i]?=some d/\a[i]?=some e/\x=.tup [d,e]
 | [],a,i,x,h=>by simp[eO] at h
 |d::ds,[],i,x,h=>by simp[eO] at h
 |d::ds,e::a,0,x,h=>by
  simp[eO] at h
  exact⟨d,e,rfl,rfl,h.symm⟩
 |d::ds,e::a,i+1,x,h=>by
  obtain⟨c,b,h1,h2,h3⟩:=HR ds a i x (by simpa [eO] using h);exact⟨c,b,by simpa using h1,by simpa using h2,h3⟩
theorem HS:∀(ds a:List D),ds.length<=(eO ds a).length\/a.length<=(eO ds a).length
 | [],a=>.inl (Nat.zero_le _)
 |d::ds,[]=>.inr (Nat.zero_le _)
 |d::ds,e::a=>by
  rcases HS ds a with h | h
  ·left;simp[eO];exact h
  ·right;simp[eO];exact h
def su(ma mb:M D):M (List D):=λρ O=>(ma ρ O).bind λd b=>(mb ρ b).bind λe a=>match d,e with
 | .lst ds,.lst es=>.ok (eO ds es) a
 | _,_=>.no
theorem VL{a b:Expr}{p pos:Pos}{ma mb:M D}(hm:X.mg "zip" = none)(h:WE X md P a ma)(h':WE X md P b mb)(hg:Gl X "zip":=by rfl)(hs:starEach [a,b] X.env=(false,eval a X.env)::starEach [b] X.env:=by exact cQ rfl)(U:starEach [b] X.env=(false,eval b X.env)::starEach [] X.env:=by exact cQ rfl)(W:(backTo pos (starEach [b] X.env)).any (·.1)=false:=by exact fj rfl):
  VI X md P (.Tuple elts x1 tpos) (.Call (.Name "zip" p) [a,b] [] pos) (su ma mb):=(VJ hg hm (gm h (gm h' iJ U) hs) hs W).imp λσ H Q q=>by
 obtain⟨ρ,O,F,as,ds,O',r,s,e,k⟩:=q;obtain⟨d1,O1,e1,e⟩:=Res.bind_ok e;obtain⟨d2,O2,e2,e⟩:=Res.bind_ok e
 cases d1 with
 |lst ds1 =>
  cases d2 with
  |lst ds2 =>
   cases e;refine⟨ρ,_,F,as,_,_,r,s,e1,λv H1 F1 Y g1 r1 hv=>?_⟩;refine⟨ρ,_,F1,Y,_,_,r1,s.step g1,e2,λu B E l I G hu=>?_⟩;obtain⟨a,m,rfl,h1,h2⟩:=rY (mg:=X.mg) hv;obtain⟨b,n,rfl,h3,h4⟩:=rY (mg:=X.mg) hu
   have h2':∀(f j:Hp) (c:List Addr),GrS P B E l f j c->(∃O,RlO X.K X.mg O f j c)->RdK X.K f a m:=λf j c g r=>h2 f j c (I.toS.trans g) r
   have h1':=h1.gr I;refine⟨a,b,rfl,⟨m,(h2' B E l GrS.refl ⟨_,G⟩).sq⟩,⟨n,(h4 B E l GrS.refl ⟨_,G⟩).sq⟩,k _ B E l (g1.trans I) G ⟨λi d f j c g r e=>?_,λf j c g r=>⟨m,n,(h2' f j c g r).sq,(h4 f j c g r).sq,?_⟩⟩⟩
   ·obtain⟨x',y',q1,q2,rfl⟩:=HR _ _ _ _ e;obtain⟨x,hx,rx⟩:=h1'.get' q1;obtain⟨y,hy,ry⟩:=h3.get' q2;have sx:=(h2' f j c g r).sq;have sy:=(h4 f j c g r).sq;refine⟨⟨m,n,x,y,sx,sy,hx,hy⟩,λz H4 hz=>?_⟩;obtain⟨T,x2,y2,rfl,hT,rfl,L,J⟩:=hz;have t1:=L m sx;have Z:=J n sy;rw[hx] at t1;rw[hy] at Z;cases t1;cases Z;exact pQ r hT (Rps.cons (rx.grS g) (Rps.cons (ry.grS g) Rps.nil))
   ·rw[h1'.length,h3.length];exact HS ds1 ds2
  | _=>cases e
 | _=>cases e
def nU(m:MS):MS:=λρ O=>match m ρ O with
 | .rt d O'=>.rt d O'
 | _=>.no
theorem SlO.toV{K:Frag}{ρ:aA}{σ:St}{H F g:Hp}{I:List Addr}{i:Nat}(s:SlO K md P ρ σ H F I)(L:md[i]?=some .o)(ff:Same F g)
  (f:∀(j:Nat) (ds:List D) (a:Addr),j≠i->md[j]?=some .o->ρ[j]?=some (some (.lst ds))->σ[j]?=some (some (.ref a))->g a=F a)
  (hv:∀d,ρ[i]?=some (some d)->∃v,σ[i]?=some (some v)/\Rp K g I v d):SlO K (md.set i .v) P ρ σ H g I:=by
 have hi:i<md.length:=(zg.mp L).1
 have back:∀(j:Nat),(md.set i Md.v)[j]?=some Md.o->j≠i/\md[j]?=some .o:=λj e=>by
  by_cases b:j=i
  ·subst b;rw[zR hi] at e;cases e
  ·rw[zw (Ne.symm b)] at e;exact⟨b,e⟩
 refine⟨by rw[zU];exact s.len,by rw[zU];exact s.len',s.pd,λj m d c G=>?_,λj k a ds es h1 h2 h3 h4 Z Y=>s.inj j k a ds es (back j h1).2 (back k h2).2 h3 h4 Z Y,λx W=>?_⟩
 ·by_cases b:j=i
  ·subst b;rw[zR hi] at c;cases c;exact hv d G
  ·rw[zw (Ne.symm b)] at c;obtain⟨v,q,t⟩:=s.sl j m d c G;refine⟨v,q,?_⟩
   cases m with
   |v=>exact Rp.mono ff (λ_ _ z=>z) _ t
   |s =>
    rcases t with t | ⟨a,h,ds,Q,O,y,u,n,l⟩
    ·exact .inl (Rp.mono ff (λ_ _ z=>z) _ t)
    ·exact .inr ⟨a,h,ds,Q,O,y,u,n,Rps.mono ff (λ_ _ z=>z) _ l⟩
   |o =>
    rcases t with⟨B,t⟩ | ⟨a,h,ds,rfl,rfl,y,B,u,n,l⟩
    ·exact .inl ⟨B,Rp.mono ff (λ_ _ z=>z) _ t⟩
    ·exact .inr ⟨a,h,ds,rfl,rfl,y,by rw[f j ds a b c G q];exact B,u,n,Rps.mono ff (λ_ _ z=>z) _ l⟩
 ·obtain⟨E,U,T⟩:=s.pin x W
  have J:i≠x.1:=λz=>by rw[<-z,L] at E;cases E
  exact⟨by rw[zw J];exact E,U,T⟩
theorem VM{K:Frag}{mg:Str->Option Value}{i:Nat}{m:MS}(n:md[i]?=some .o){D:Ends}{σ:St}{H:Hp}(q:tMS K mg md P R (nU m) D σ H):tMS K mg (md.set i .v) P R m D σ H:=by
 obtain⟨ρ,O,F,B,r,s,k⟩:=q;unfold nU at k
 cases e:m ρ O with
 |rt d O' =>
  rw[e] at k
  by_cases I:∃x,ρ[i]?=some (some (.lst x))
  ·obtain⟨x,l⟩:=I;obtain⟨a,y,h1,h2,h3,h4,Z,Y⟩:=s.own n l
   have ff:Same F (upd F a (.lst y)):=λb u q=>by rw[aP (cG q h3)];exact q
   have g0:GrS P H F B H (upd F a (.lst y)) B:=⟨λc _ p _ _ _=>aP (λz=>Z (by rw[<-z];exact p)),ff,⟨[],by simp,λ_ h=>nomatch h⟩,λ_ _ _ h _ _=>h,λ_ h=>h,λ_ _ _ h=>h⟩;refine⟨ρ,O,upd F a (.lst y),B,r.frz h2 h3 h4 rfl,s.toV n ff (λj es b W T Q G=>?_) (λJ f=>?_),?_⟩
   ·refine aP λz=>W ?_
    rw[z] at G;exact s.inj j i a es x T n Q l G h1
   ·rw[l] at f;cases f;exact⟨_,h1,Rp.mkL (.inl (.inl bW)) (Rps.mono ff (λ_ _ z=>z) _ Y)⟩
   ·rw[e]
    exact λv H' F' E g L U=>k v H' F' E (g0.trans g) L U
  ·refine⟨ρ,O,F,B,r,s.toV n (Same.refl F) (λ_ _ _ _ _ _ _=>rfl) (λJ f=>?_),by rw[e];exact k⟩;obtain⟨v,h1,h2⟩:=s.sl i .o J n f
   rcases h2 with⟨_,h2⟩ | ⟨a,y,x,_,rfl,_⟩
   ·exact⟨v,h1,h2⟩
   ·exact absurd ⟨x,f⟩ I
 | _=>rw[e] at k;exact False.elim k
theorem HX(i:Nat){st:Stmt}{m:MS}(a:md[i]?=some .o)(h:VS X (md.set i .v) P R st m):VS X md P R st (nU m):=h.imp λ_ _ _=>VM a
theorem VN{st:List Stmt}:VSs X md P R st xY:=λpins s σ H D I q=>by
 obtain⟨ρ,O,F,a,r,s,k⟩:=q;exact False.elim k
end
section
variable {prog:Program}{w:World}{A:Around}{E:Value->Shared->Prop}
end
section
variable {X:Cx}{md:List Md}{P:Pt}{R:RR}
def mMl(m:M D):M D:=λρ O=>(m ρ O).bind λd a=>match d with
 | .lst ds=>.ok (.ob a.length) (a++[.ml ds])
 |d=>.ok d a
theorem yH{b:List Addr}{a:Addr}:∀(n:Nat) (c:Addr),b[n]?=some c->(b++[a])[n]?=some c:=λn c h=>by
 rw[zx (zg.mp h).1];exact h
theorem RlO.snocMl{K:Frag}{mg:Str->Option Value}{O:au}{H F:Hp}{f:List Addr}{a:Addr}{xs:List V}{ds:List D}(r:RlO K mg O H F f)(k:H a=some (.lst xs))(l:F a=none)(j:a∉f)(i:Rps K F f xs ds):RlO K mg (O++[.ml ds]) H F (f++[a]):=by
 refine⟨r.fh,r.fd,jb.mpr ⟨r.nd,by simp,λc b d hd=>by rw[zk.mp hd];exact λz=>j (z ▸ b)⟩,by rw[zh,zh,r.len];rfl,λc b=>?_,λn c o b g=>?_⟩
 ·rcases zz.mp b with b | b
  ·exact r.fa c b
  ·rw[zk.mp b];exact l
 ·by_cases h:n<f.length
  ·rw[zx h] at b;rw[zx (by rw[<-r.len];exact h)] at g;exact(r.ob n c o b g).keep rfl (Same.refl F) yH
  ·have hn':n=f.length:=by
    have:=(zg.mp b).1
    rw[zh,je] at this;omega
   subst hn';rw[zE (zc _),Nat.sub_self] at b;rw[r.len,zE (zc _),Nat.sub_self] at g;cases b;cases g;exact⟨xs,k,Rps.mono (Same.refl F) yH _ i⟩
theorem u6{e:Expr}{m:M D}(h:OE X md P e m):VE X md P e (mMl m):=h.imp λσ H Q q=>by
 obtain⟨ρ,O,F,W,d,O',r,s,e,k⟩:=q;obtain⟨x,Z,T,e⟩:=Res.bind_ok e;refine⟨ρ,_,F,W,_,_,r,s,T,λv u y g b i j=>?_⟩
 rcases j with⟨z,j⟩ | ⟨a,Y,U,rfl,rfl,L,J,I,G,E⟩
 ·cases x with
  |lst U=>cases z
  | _=>cases e;exact k v u y g b i j
 ·cases e;obtain⟨l,B,n⟩:=b.nw;refine k (.ref a) u y (g++[a]) ⟨b.fz,b.ff,⟨l++[a],by rw[B,zP],λc f=>?_⟩,b.fr,b.dm,b.kz⟩ (i.snocMl L J I E) (Rp.mkO ?_)
  ·rcases zz.mp f with f | f
   ·exact n c f
   ·rw[zk.mp f];exact G
  ·rw[<-i.len,zE (zc _),Nat.sub_self];rfl
theorem u9{H F:Hp}{b:List Addr}{a:Addr}{h:HO}(g:a∈b)(d:H a=some h){o:HO}(f:∀o u,h≠.frz o u:=by intro _ _ z;cases z):Gr H F b (upd H a o) F b :=
 ⟨λ_ _ _ _ _=>rfl,Same.refl F,⟨[],by simp,λ_ h=>nomatch h⟩,λc u e hn _=>by rw[aP (λz=>hn (by rw[z];exact g))];exact e,λc e=>by
  by_cases h:c=a
  ·subst h;rw[bW] at e;cases e
  ·rwa [aP h] at e,λc i u e=>by rw[aP (λz=>by rw[z,d] at e;cases e;exact f _ _ rfl)];exact e⟩
theorem RlO.mutO{K:Frag}{mg:Str->Option Value}{O:au}{H F:Hp}{g:List Addr}{n:Nat}{a:Addr}{xs:List V}{ds:List D}(r:RlO K mg O H F g)(d:g[n]?=some a)(x:Rps K F g xs ds):RlO K mg (O.set n (.ml ds)) (upd H a (.lst xs)) F g:=by
 have y:=zD d;refine⟨λc u e=>?_,r.fd,r.nd,by rw[zU];exact r.len,r.fa,λm c o f b=>?_⟩
 ·rw[aP (λz=>by rw[z,r.fa a y] at e;cases e)];exact r.fh c u e
 ·by_cases i:m=n
  ·subst i;rw[d] at f;cases f
   have j:m<O.length:=by rw[<-r.len];exact(zg.mp d).1
   rw[zR j] at b;cases b;exact⟨xs,bW,x⟩
  ·rw[zw (Ne.symm i)] at b
   refine(r.ob m c o f b).keep (aP λz=>i ?_) (Same.refl F) λ_ _ h=>h
   obtain⟨B,k⟩:=zg.mp f;obtain⟨E,l⟩:=zg.mp d;exact(List.getElem_inj r.nd).mp (k.trans (z.trans l.symm))
theorem RlO.ml{K:Frag}{mg:Str->Option Value}{O:au}{H F:Hp}{b:List Addr}{n:Nat}{a:Addr}{ds:List D}(r:RlO K mg O H F b)(c:b[n]?=some a)(d:O[n]?=some (.ml ds)):∃xs,H a=some (.lst xs)/\Rps K F b xs ds:=r.ob n a _ c d
end
theorem cU{α:Type}{p:List α->Prop}(h:p []):∀us:List α,us.length=0->p us:=λus e=>by
 cases us with
 |nil=>exact h
 |cons a b=>cases e
theorem bB{α:Type}{p:List α->Prop}{n:Nat}(h:∀a,∀us:List α,us.length=n->p (a::us)):∀us:List α,us.length=n+1->p us:=λus e=>by
 cases us with
 |nil=>cases e
 |cons a b=>exact h a b (Nat.succ.inj e)
section
variable {prog:Program}{w:World}{κ:Type}[DecidableEq κ]{knd:HeapKind prog w κ}{A:Around}{E:Value->Shared->Prop}{s:Shared}
end
section
variable {X:Cx}{pins:List (Addr×Obj)}{σ:St}{H:Hp}{s:Shared}{a b:Addr}{v:V}{r:Value}{kvs:List (List Key×V)}{k:List Key}{A:Around}{E:Value->Shared->Prop}
end
def vd:List D->Option (List Key)
 | []=>some []
 | .int i::ds=>(vd ds).map (Sum.inl i :: ·)
 | _=>none
def pY:D->Option (List Key)
 | .tup (d::ds)=>vd (d::ds)
 | _=>none
theorem Rps.keys{K:Frag}{F:Hp}{c:List Addr}:∀{ds:List D}{xs:List V}{ks:List Key},Rps K F c xs ds->vd ds=some ks->xs=ks.map kV/\∃is:List Int,ks=is.map Sum.inl
 | [],xs,ks,h,e=>by cases e;exact⟨h.un0,[],rfl⟩
 | .int i::ds,xs,ks,h,e=>by
  obtain⟨x,r,rfl,h1,h2⟩:=h.un;obtain⟨d,b,rfl⟩:=Option.map_eq_some_iff.mp (show(vd ds).map (Sum.inl i :: ·)=some ks from e);obtain⟨a,is,rfl⟩:=Rps.keys h2 b;exact⟨by rw[h1.unI,a];rfl,i::is,rfl⟩
 | .non::ds,xs,ks,h,e=>by cases e
 | .bl _::ds,xs,ks,h,e=>by cases e
 | .str _::ds,xs,ks,h,e=>by cases e
 | .lst _::ds,xs,ks,h,e=>by cases e
 | .tup _::ds,xs,ks,h,e=>by cases e
 | .dic _ _::ds,xs,ks,h,e=>by cases e
 | .ob _::ds,xs,ks,h,e=>by cases e
def sE:List Value->Bool
 | []=>true
 | .int _ _::r=>sE r
 | _=>false
def bY:Frag->Bool
 | []=>true
 |p::r=>(match p.2.data with
  | .seq its _=>its.toList.isEmpty || !sE its.toList
  | _=>true)&&bY r
theorem HY{a:Addr}{o:Obj}{its:Array Value}{n:Nat}:∀{K:Frag},bY K=true->List.lookup a K=some o->o.data=.seq its n->(its.toList.isEmpty || !sE its.toList)=true
 | [],_,h,_=>by cases h
 |p::r,hk,h,hd=>by
  unfold bY at hk;rw[zu] at hk;rw[List.lookup_cons] at h;split at h
  ·cases h
   have:=hk.1
   rw[hd] at this;exact this
  ·exact HY hk.2 h hd
theorem H9:∀{is:List Int}{us:List Value},aX ((is.map (Sum.inl (β:=Str))).map kV) us->sE us=true
 | [],us,h=>by cases h;rfl
 |i::is,us,h=>by
  cases h with
  | @cons _ u _ us' r1 r2 =>
   obtain⟨t,rfl⟩:∃t,u=.int i t:=r1;show sE us'=true;exact H9 (is:=is) r2
theorem Rp.tkey{K:Frag}{F:Hp}{i:List Addr}{v:V}{d:D}{ks:List Key}(g:bY K=true)(h:Rp K F i v d)(e:pY d=some ks):∃b,v=.ref b/\F b=some (.tup (ks.map kV)):=by
 cases d with
 |tup ds =>
  cases ds with
  |nil=>cases e
  |cons d ds =>
   obtain⟨b,k,rfl,h1,h2⟩:=h.unT';obtain⟨ex,l,rfl⟩:=h2.keys e
   rcases h1 with h1 | ⟨o,j,n,f,_,c,_,a⟩
   ·exact⟨b,rfl,by rw[h1,ex]⟩
   ·exfalso
    have q:=HY g f c;rw[ex] at a;rw[H9 a,Bool.not_true,Bool.or_false,List.isEmpty_iff] at q;rw[q,<-ex] at a;obtain⟨x,r,rfl,_,_⟩:=h2.un;cases a
 | _=>cases e
def gY(a:List (List Key×D))(k:List Key):Option D:=(a.find? λp=>decide (p.1=k)).map (·.2)
def nW(a:List (List Key×D))(k:List Key)(d:D):List (List Key×D):=
 if(a.any λp=>decide (p.1=k))=true then a.map (λp=>if p.1=k then(p.1,d) else p) else a++[(k,d)]
def DtR(K:Frag)(F:Hp)(b:List Addr)(xs:List (List Key×V))(a:List (List Key×D)):Prop:=xs.map (·.1)=a.map (·.1)/\Rps K F b (xs.map (·.2)) (a.map (·.2))
section
variable {K:Frag}{mg:Str->Option Value}{O:au}{H F H' F':Hp}{as as':List Addr}
theorem DtR.len{xs:List (List Key×V)}{a:List (List Key×D)}(h:DtR K F as xs a):xs.length=a.length:=by
 have:=congrArg List.length h.1
 simpa using this
theorem DtR.un{xs:List (List Key×V)}{p:List Key×D}{a:List (List Key×D)}(h:DtR K F as xs (p::a)):∃v r,xs=(p.1,v)::r/\Rp K F as v p.2/\DtR K F as r a:=by
 obtain⟨h1,h2⟩:=h
 cases xs with
 |nil=>cases h1
 |cons x r =>
  obtain⟨v,f,e,d,c⟩:=h2.un;cases e;rw[zl,zl] at h1;have b:=(List.cons.inj h1).1;refine⟨x.2,r,?_,d,(List.cons.inj h1).2,c⟩;rw[<-b]
theorem DtR.val{k:List Key}:∀{a:List (List Key×D)}{xs:List (List Key×V)},DtR K F as xs a->(gY a k=none/\ik xs k=none)\/∃d v,gY a k=some d/\ik xs k=some v/\Rp K F as v d
 | [],xs,h=>by
  have:=h.len
  cases xs with
  |nil=>exact .inl ⟨rfl,rfl⟩
  |cons=>cases this
 |p::a,xs,h=>by
  obtain⟨v,r,rfl,h1,h2⟩:=h.un
  by_cases e:p.1=k
  ·exact .inr ⟨p.2,v,by simp[gY,List.find?_cons,e],uI e,h1⟩
  ·rw[show gY (p::a) k=gY a k by simp[gY,List.find?_cons,e],uJ (p:=(p.1,v)) e];exact DtR.val h2
theorem DtR.any{k:List Key}:∀{a:List (List Key×D)}{xs:List (List Key×V)},DtR K F as xs a->(xs.any λp=>decide (p.1=k))=a.any λp=>decide (p.1=k)
 | [],xs,h=>by
  have:=h.len
  cases xs with
  |nil=>rfl
  |cons=>cases this
 |p::a,xs,h=>by
  obtain⟨v,r,rfl,h1,h2⟩:=h.un;rw[List.any_cons,List.any_cons,DtR.any h2]
theorem DtR.repl{k:List Key}{v:V}{d:D}(hv:Rp K F as v d):∀{a:List (List Key×D)}{xs:List (List Key×V)},DtR K F as xs a ->
  DtR K F as (xs.map λp=>if p.1=k then(p.1,v) else p) (a.map λp=>if p.1=k then(p.1,d) else p)
 | [],xs,h=>by
  have:=h.len
  cases xs with
  |nil=>exact⟨rfl,Rps.nil⟩
  |cons=>cases this
 |p::a,xs,h=>by
  obtain⟨u,r,rfl,h1,h2⟩:=h.un;obtain⟨c,b⟩:=DtR.repl (k:=k) hv h2
  by_cases e:p.1=k
  ·rw[zl,zl,if_pos e,if_pos e];exact⟨by rw[zl,zl,c],Rps.cons hv b⟩
  ·rw[zl,zl,if_neg e,if_neg e];exact⟨by rw[zl,zl,c],Rps.cons h1 b⟩
theorem DtR.put{xs:List (List Key×V)}{a:List (List Key×D)}(h:DtR K F as xs a)(k:List Key){v:V}{d:D}(hv:Rp K F as v d):DtR K F as (putK xs k v) (nW a k d):=by
 unfold putK nW;rw[h.any]
 split
 ·exact h.repl hv
 ·exact⟨by rw[zG,zG,h.1];rfl,by rw[zG,zG];exact Rps.snoc h.2 hv⟩
theorem RlO.dt{n:Nat}{a:Addr}{b:List (List Key×D)}(r:RlO K mg O H F as)(c:as[n]?=some a)(d:O[n]?=some (.dt b)):∃xs,H a=some (.dT xs)/\DtR K F as xs b:=let ⟨xs,h1,h2,h3⟩:=r.ob n a _ c d;⟨xs,h1,h2,h3⟩
theorem RlO.snocO{a:Addr}{o:Ob}(r:RlO K mg O H F as)(j:F a=none)(i:a∉as)(h:ObR K mg H F (as++[a]) a o):RlO K mg (O++[o]) H F (as++[a]):=by
 refine⟨r.fh,r.fd,jb.mpr ⟨r.nd,by simp,λc b d hd=>by rw[zk.mp hd];exact λz=>i (z ▸ b)⟩,by rw[zh,zh,r.len];rfl,λc b=>?_,λn c u b f=>?_⟩
 ·rcases zz.mp b with b | b
  ·exact r.fa c b
  ·rw[zk.mp b];exact j
 ·by_cases g:n<as.length
  ·rw[zx g] at b;rw[zx (by rw[<-r.len];exact g)] at f;exact(r.ob n c u b f).keep rfl (Same.refl F) yH
  ·have hn':n=as.length:=by
    have:=(zg.mp b).1
    rw[zh,je] at this;omega
   subst hn';rw[zE (zc _),Nat.sub_self] at b;rw[r.len,zE (zc _),Nat.sub_self] at f;cases b;cases f;exact h
theorem RlO.mutG{n:Nat}{a:Addr}{o:Ob}{h:HO}(r:RlO K mg O H F as)(d:as[n]?=some a)(l:ObR K mg (upd H a h) F as a o):RlO K mg (O.set n o) (upd H a h) F as:=by
 have x:=zD d;refine⟨λc u e=>?_,r.fd,r.nd,by rw[zU];exact r.len,r.fa,λm c u f b=>?_⟩
 ·rw[aP (λz=>by rw[z,r.fa a x] at e;cases e)];exact r.fh c u e
 ·by_cases g:m=n
  ·subst g;rw[d] at f;cases f
   have i:m<O.length:=by rw[<-r.len];exact(zg.mp d).1
   rw[zR i] at b;cases b;exact l
  ·rw[zw (Ne.symm g)] at b
   refine(r.ob m c u f b).keep (aP λz=>g ?_) (Same.refl F) λ_ _ h=>h
   obtain⟨y,j⟩:=zg.mp f;obtain⟨B,k⟩:=zg.mp d;exact(List.getElem_inj r.nd).mp (j.trans (z.trans k.symm))
theorem RlO.unF{p:Addr}(r:RlO K mg O H F as)(a:H p=none):F p=none:=by
 cases e:F p with
 |none=>rfl
 |some o=>rw[r.fh p o e] at a;cases a
theorem Gr.snoc{p:Addr}{o:HO}(b:H p=none):Gr H F as (upd H p o) F (as++[p]):=
 ⟨λ_ _ _ _ _=>rfl,Same.refl F,⟨[p],rfl,λa h=>by rw[zk.mp h];exact b⟩,λa u e _ _=>by rw[aP (cG e b)];exact e,λa e=>by
  by_cases h:a=p
  ·subst h;exact b
  ·rwa [aP h] at e,λa c u e=>by rw[aP (cG e b)];exact e⟩
end
section
variable {X:Cx}{md:List Md}{P:Pt}{R:RR}
def sG:M D:=λ_ O=>.ok (.ob O.length) (O++[.dt []])
theorem Ia{pos:Pos}:VE X md P (.Dict [] [] pos) sG:=Tu.imp λσ H Q q p a=>by
 obtain⟨ρ,O,F,b,d,c,r,s,e,k⟩:=q;cases e;refine k _ _ F (b++[p]) (Gr.snoc a) ((r.lay a).snocO (r.unF a) (λz=>r.all z a) ⟨[],bW,rfl,Rps.nil⟩) (Rp.mkO ?_);rw[<-r.len,zE (zc _),Nat.sub_self];rfl
def iD(mo my a:M D):MS:=λρ O=>match a ρ O with
 | .ok d O1=>match mo ρ O1 with
  | .ok (.ob n) O2=>match my ρ O2 with
   | .ok y O3=>match pY y,O3[n]? with
    |some k,some (.dt kvs)=>if kvs.length<1000000 then .nx ρ (O3.set n (.dt (nW kvs k d))) else .no
    | _,_=>.no
   | _=>.no
  | _=>.no
 | _=>.no
theorem yI{kk:Nat}(hk:bY X.K=true)(hr:bM kk X.A){o i value:Expr}{pos pos':Pos}{mo my L:M D}(ho:VE X md P o mo)(hi:VE X md P i my)(hv:VE X md P value L)
  (hs:swapsWith value (some (.Subscript o i pos')) pos.line X.env=pure false:=by rfl):VS X md P R (.Assign [.Subscript o i pos'] value pos) (iD mo my L):=
 (Tp (uH hr) ho hi hv hs).imp λD σ H q=>by
  obtain⟨ρ,O,F,as,r,s,k⟩:=q;unfold iD at k;split at k
  ·rename_i d O1 e1;split at k
   ·rename_i n O2 e2;split at k
    ·rename_i y O3 e3;split at k
     ·rename_i Q kvs e4 e5;split at k
      ·rename_i hz;refine⟨ρ,O,F,as,_,_,r,s,e1,λv H1 W g m r1 hv=>⟨ρ,O1,W,g,_,_,r1,s.step m,e2,λx H2 F2 E l r2 hx=>⟨ρ,O2,F2,E,_,_,r2,s.step (m.trans l),e3,λu U z f j h hu=>?_⟩⟩⟩;obtain⟨a,rfl,ha⟩:=Rp.unO hx;have c:=j.at_ n a ha;obtain⟨G,J,I⟩:=h.dt c e5;obtain⟨b,rfl,hb⟩:=Rp.tkey hk hu e4;have B:=(show Rp X.K W g v d from hv).gr (l.trans j)
       have hl:G.length<sizeLine:=by rw[I.len];exact zJ hz (by decide)
       have g4:Gr U z f (upd U a (.dT (putK G Q v))) z f:=u9 (zD c) J;have T:=((m.trans l).trans j).trans g4;obtain⟨Z,Y⟩:=I.put Q B;exact⟨a,_,rfl,rJ.t J (h.fh _ _ hb) hl,k σ _ z f T.toS (h.mutG c ⟨_,bW,Z,Y⟩) (s.step T)⟩
      ·exact False.elim k
     ·exact False.elim k
    ·exact False.elim k
   ·exact False.elim k
  ·exact False.elim k
end
section
variable {X:Cx}
end
section
variable {X:Cx}{md:List Md}{P:Pt}{R:RR}
def mD(mo mi m:M D):MS:=λρ O=>match m ρ O with
 | .ok d O1=>match mo ρ O1 with
  | .ok (.ob n) O2=>match mi ρ O2 with
   | .ok (.int j) O3=>match O3[n]? with
    |some (.ml ds)=>match ixN ds.length j with
     |some q=>.nx ρ (O3.set n (.ml (ds.set q d)))
     |none=>.no
    | _=>.no
   | _=>.no
  | _=>.no
 | _=>.no
theorem VP{pos apos:Pos}{o b e:Expr}{mo mi m:M D}(h:VE X md P e m)(ho:VE X md P o mo)(hi:VE X md P b mi)
  (i:∀v,assign (.Subscript o b apos) X.env v=(do
   let ov <-holding [v] (eval o X.env)
   let iv <-holding [v,ov] (eval b X.env)
   standAt apos
   holding [v,ov,iv] (setItem ov iv v)
   release [v,ov,iv] []):=by intro _;rfl)
  (hs:swapsWithSole [.Subscript o b apos] e pos.line X.env=pure false:=by rfl) (hw:swappedStores [.Subscript o b apos] e X.env=pure none:=by rfl)
  (h1:(assignEach [.Subscript o b apos] X.env).map (·.2)=[assign (.Subscript o b apos) X.env]:=by rfl):
  VS X md P R (.Assign [.Subscript o b apos] e pos) (mD mo mi m):=
 (Fe h (Qp ho hi set_list i) hs hw h1).imp λD σ H q=>by
  obtain⟨ρ,O,F,as,r,s,k⟩:=q;unfold mD at k;split at k
  ·rename_i d U e1;split at k
   ·rename_i n T e2;split at k
    ·rename_i j O3 e3;split at k
     ·rename_i ds e4;split at k
      ·rename_i q e5;refine⟨ρ,O,F,as,d,U,r,s,e1,λy H1 Y g B r1 hy=>⟨ρ,U,Y,g,_,T,r1,s.step B,e2,λx H2 F2 I u Z hx=>⟨ρ,T,F2,I,_,O3,Z,s.step (B.trans u),e3,λz W E f l L hz=>?_⟩⟩⟩;obtain⟨a,rfl,i⟩:=Rp.unO hx;have c:=l.at_ n a i;obtain⟨J,y1,y2⟩:=L.ml c e4;have G:=(show Rp X.K Y g y d from hy).gr (u.trans l);have g4:Gr W E f (upd W a (.lst (J.set q y))) E f:=u9 (zD c) y1;have Q:=((B.trans u).trans l).trans g4;exact⟨a,J,j,q,rfl,Rp.unI hz,y1,by rw[y2.length];exact e5,k σ _ E f Q.toS (L.mutO c (y2.set q G)) (s.step Q)⟩
      ·exact False.elim k
     ·exact False.elim k
    ·exact False.elim k
   ·exact False.elim k
  ·exact False.elim k
end
def cu(O:au):Nat->D->D
 | 0,d=>d
 |n+1,.ob i=>match O[i]? with
  |some (.ml ds)=>.lst (ds.map (cu O n))
  | _=>.ob i
 |n+1,.lst ds=>.lst (ds.map (cu O n))
 |n+1,.tup ds=>.tup (ds.map (cu O n))
 | _+1,d=>d
section
variable {K:Frag}{mg:Str->Option Value}{O:au}{H F:Hp}{as:List Addr}
theorem sH{n:Nat}(a:∀(d:D) (v:V),Rp K F as v d->eX (cu O n d)=true->Rep K H v (toP (cu O n d))):∀(ds:List D) (xs:List V),Rps K F as xs ds->kh (ds.map (cu O n))=true->cZ K H xs (jM (ds.map (cu O n)))
 | [],xs,h,_=>by rw[h.un0];exact cZ.nil
 |d::ds,xs,h,hp=>by
  obtain⟨x,r,rfl,h1,h2⟩:=h.un;rw[zl,kh,zu] at hp;rw[zl,jM];exact cZ.cons (a d x h1 hp.1) (sH a ds r h2 hp.2)
theorem sJ(r:RlO K mg O H F as):∀(n:Nat) (d:D) (v:V),Rp K F as v d->eX (cu O n d)=true->Rep K H v (toP (cu O n d))
 | 0,d,v,h,hp=>Lk.rep (Or.inl h) r.fh hp
 |n+1,.ob i,v,h,hp=>by
  unfold cu at hp ⊢;split at hp
  ·rename_i c e;obtain⟨a,rfl,f⟩:=h.unO;obtain⟨b,h1,h2⟩:=r.ml f e;rw[eX] at hp;rw[toP,Rep];exact⟨a,b,rfl,.inl (.inl h1),sH (sJ r n) c b h2 hp⟩
  ·cases hp
 |n+1,.lst c,v,h,hp=>by
  unfold cu at hp ⊢;obtain⟨a,b,rfl,h1,h2⟩:=h.unL;rw[eX] at hp;rw[toP,Rep];exact⟨a,b,rfl,(h1.mono r.fh).sq,sH (sJ r n) c b h2 hp⟩
 |n+1,.tup c,v,h,hp=>by
  unfold cu at hp ⊢;obtain⟨a,b,rfl,h1,h2⟩:=h.unT;rw[eX] at hp;rw[toP,Rep];exact⟨a,b,rfl,Same.seqT r.fh h1,sH (sJ r n) c b h2 hp⟩
 |n+1,.non,v,h,hp=>Lk.rep (Or.inl h) r.fh hp
 |n+1,.bl _,v,h,hp=>Lk.rep (Or.inl h) r.fh hp
 |n+1,.int _,v,h,hp=>Lk.rep (Or.inl h) r.fh hp
 |n+1,.str _,v,h,hp=>Lk.rep (Or.inl h) r.fh hp
 |n+1,.dic _ _,v,h,hp=>Lk.rep (Or.inl h) r.fh hp
theorem Ib(r:RlO K mg O H F as){n:Nat}{d:D}{v:V}(h:Sv K H F as v d)(b:eX (cu O n d)=true):Rep K H v (toP (cu O n d)):=by
 rcases h with h | ⟨a,c,i,rfl,rfl,g,j,f⟩
 ·exact sJ r n d v h b
 ·cases n with
  |zero=>exact Lk.rep (Or.inr ⟨a,c,i,rfl,rfl,g,f⟩) r.fh b
  |succ n =>
   unfold cu at b ⊢;rw[eX] at b;rw[toP,Rep];exact⟨a,c,rfl,.inl (.inl g),sH (sJ r n) i c f b⟩
end
section
variable {X:Cx}{md:List Md}{P:Pt}{R:RR}
def iU(a:Bool)(n:Nat)(ma mb:M D):M D:=λρ O=>(ma ρ O).bind λx b=>(mb ρ b).bind λy O2 =>
 if(okE (cu O2 n x)&&okE (cu O2 n y))=true then .ok (.bl (if a then !gh (cu O2 n x) (cu O2 n y) else gh (cu O2 n x) (cu O2 n y))) O2 else .no
theorem VR{K:Frag}{mg:Str->Option Value}{a:Bool}{n:Nat}{ma mb:M D}{σ:St}{H:Hp}{Q:VK}(h:tM K mg md P (rO K) (iU a n ma mb) σ H Q):tOp (xT K a) (tM K mg md P (rS K) ma) (tM K mg md P (rS K) mb) σ H Q:=by
 obtain⟨ρ,O,F,J,d,Z,r,sl,e,k⟩:=h;obtain⟨x,Y,I,e⟩:=Res.bind_ok e;obtain⟨y,W,G,e⟩:=Res.bind_ok e;split at e
 ·rename_i j;cases e;rw[zu] at j;obtain⟨c,b⟩:=j;unfold okE at c b;rw[zu] at c b;refine⟨ρ,_,F,J,_,_,r,sl,I,λv H1 U i m z B=>?_⟩;refine⟨ρ,_,U,i,_,_,z,sl.step m,G,λu L T g l f E=>?_⟩;exact⟨_,_,Ib f (Sv.gr B l) c.1,Ib f E b.1,c.2,b.2,k _ L T g (m.trans l) f (.inl ⟨rfl,Rp.bl⟩)⟩
 ·cases e
theorem Ie(n:Nat){k:Nat}(c:bM k X.A){b a:Expr}{pos:Pos}{ma mb:M D}(d:SE X md P b ma)(hb:SE X md P a mb):TsE X md P (.Compare b [.NotEq] [a] pos) (aH (iU true n ma mb)):=
 (Fx (GF c) d hb (bG _)).imp λσ H Q h=>by
  have q:=rN h;exact VR q
end
section
variable {X:Cx}{md:List Md}{P:Pt}{R:RR}
def jz(n:Nat)(all:List D)(g:MG)(b:MS):List D->MS
 | [],ρ,O=>match O[n]? with
  |some (.ml es)=>if es.length=all.length then .nx ρ O else .no
  | _=>.no
 |d::ds,ρ,O=>match O[n]? with
  |some (.ml es)=>match es[all.length - (ds.length+1)]? with
   |some c=>match g (.tup [.int ((all.length - (ds.length+1):Nat):Int),c]) ρ with
    |none=>.no
    |some a=>match b a O with
     | .nx ρ2 O2=>jz n all g b ds ρ2 O2
     | .ct ρ2 O2=>jz n all g b ds ρ2 O2
     | .bk ρ2 O2=>.nx ρ2 O2
     |r=>r
   |none=>.no
  | _=>.no
def vf(m:M D)(g:MG)(b:MS):MS:=λρ O=>match m ρ O with
 | .ok (.ob n) O'=>match O'[n]? with
  |some (.ml ds)=>jz n ds g b ds ρ O'
  | _=>.no
 | _=>.no
theorem V0{K:Frag}{mg:Str->Option Value}{m:M D}{g:MG}{b:MS}{n:Nat}{ds:List D}{D:Ends}{σ:St}{H F:Hp}{as:List Addr}{ρ:aA}{O O1:au}(r:RlO K mg O H F as)(s:SlO K md P ρ σ H F as)(e:m ρ O=.ok (.ob n) O1)(e2:O1[n]?=some (.ml ds))
  (k:iM K mg md P R D H F as (jz n ds g b ds ρ O1)):xq (uY K (uD (tM K mg md P (rW K P) m) rG)) (tMG K mg md P g) (tMS K mg md P R b) D σ H:=by
 refine⟨ρ,O,F,as,_,_,r,s,e,λv H1 F1 G g1 r1 hv=>?_⟩
 have hv':Rp K F1 G v (.ob n):=by
  rcases hv with hv | ⟨a,xs,ds',_,z,_⟩
  ·exact hv
  ·cases z
 obtain⟨a,rfl,ha⟩:=Rp.unO hv';obtain⟨xs0,x1,x2⟩:=r1.ml ha e2;have k1:=iu (R:=R) g1.toS k;refine⟨a,rfl,⟨xs0,.inl (.inl x1)⟩,λi m Y W=>m=ds.length - i/\i<=ds.length/\∃E U F' f,GrS P H1 F1 G W F' f/\RlO K mg U W F' f/\SlO K md P E Y W F' f/\iM K mg md P R D W F' f (jz n ds g b (ds.drop i) E U),⟨ds.length,by simp,Nat.zero_le _,ρ,O1,F1,G,GrS.refl,r1,s.step g1,by rw[List.drop_zero];exact k1⟩,?_⟩;rintro i t Y W ⟨rfl,hi,E,U,F',f,g',r',s',k'⟩;have ha':=g'.at_ n a ha
 by_cases hlt:i<ds.length
 ·rw[List.drop_eq_getElem_cons hlt] at k';unfold jz at k';split at k'
  ·rename_i es ee;obtain⟨xs,y1,y2⟩:=r'.ml ha' ee
   have hidx:ds.length - ((ds.drop (i+1)).length+1)=i:=by rw[List.length_drop];omega
   rw[hidx] at k';split at k'
   ·rename_i d' ed;obtain⟨x,hx,rx⟩:=y2.get' ed;have hsq:SqL K W a xs:=.inl (.inl y1);refine .inr ⟨⟨xs,x,hsq,hx⟩,λj u=>∃h I l c,GrS P H1 F1 G u l c/\RlO K mg I u l c/\SlO K md P h j u l c/\iM K mg md P R D u l c (jz n ds g b (ds.drop (i+1)) h I),λj u h2=>⟨ds.length - (i+1),by omega,rfl,hlt,h2⟩,λz3 H3 y=>?_⟩;obtain⟨T,x2,rfl,hT,rfl,hy⟩:=y;have hxx:=hy xs hsq;rw[hx] at hxx;cases hxx;split at k'
    ·exact False.elim k'
    ·rename_i Z eg;obtain⟨F3,Q,r3,rp3⟩:=pQ ⟨_,r'⟩ hT (Rps.cons (Rp.int (i:=(i:Int))) (Rps.cons rx Rps.nil));have r3':=r3 U r';refine⟨E,U,F3,f,_,Z,r3',s'.step Q,rp3,eg,λσ4 s4=>?_⟩;refine⟨Z,U,F3,f,r3',s4,?_⟩
     cases eb:b Z U with
     |nx h I =>
      rw[eb] at k'
      exact λj u l c B L J=>⟨h,I,l,c,g'.trans (Q.toS.trans B),L,J,iu (Q.toS.trans B) k'⟩
     |ct h I =>
      rw[eb] at k'
      exact λj u l c B L J=>⟨h,I,l,c,g'.trans (Q.toS.trans B),L,J,iu (Q.toS.trans B) k'⟩
     |bk h I =>
      rw[eb] at k'
      exact λj u l c B L J=>k' j u l c (Q.toS.trans B) L J
     |rt d I =>
      rw[eb] at k'
      exact λv u l c B L J=>k' v u l c (Q.toS.trans B) L J
     |ex _ _=>rw[eb] at k';exact False.elim k'
     |no=>rw[eb] at k';exact False.elim k'
   ·exact False.elim k'
  ·exact False.elim k'
 ·have hi':i=ds.length:=by omega
  subst hi';rw[List.drop_length] at k';unfold jz at k';split at k'
  ·rename_i es ee;split at k'
   ·rename_i hl;obtain⟨xs,y1,y2⟩:=r'.ml ha' ee;exact .inl ⟨⟨xs,.inl (.inl y1),by rw[y2.length,hl];exact zc _⟩,k' Y W F' f GrS.refl r' s'⟩
   ·exact False.elim k'
  ·exact False.elim k'
theorem V2{elts:List Expr}{h:Nat}{c:Pos}{a:Expr}{p pos pos':Pos}{body:List Stmt}{m:M D}{g:MG}{b:MS}(y:X.calm=true)(l:X.mg "enumerate" = none)(hi:WE X md P a m)(u:VG X md P (.Tuple elts h c) g)(hb:VSs X md P R body b)
  (z:Gl X "enumerate":=by rfl) (f:starEach [a] X.env=[(false,eval a X.env)]:=by exact j7 rfl) (d:starEach [a] X.env=(false,eval a X.env)::starEach [] X.env:=by exact cQ rfl)
  (j:PassesOwn (model X.prog X.w) X.A X.env X.xe:=by exact PassesOwn.never)
  (i:∀x,foldedSetIterable (.Call (.Name "enumerate" p) [a] [] pos) X.env x=pure x:=by intro _;rfl):VS X md P R (.For (.Tuple elts h c) (.Call (.Name "enumerate" p) [a] [] pos) body [] pos') (vf m g b):=λpins s σ H D I q=>by
 obtain⟨ρ,O,F,J,r,sl,k⟩:=q;unfold vf at k;split at k
 ·rename_i n L E;split at k
  ·rename_i G B;exact Fj j y (yw z l (gm hi iJ d) f) u hb i pins s σ H D I (V0 r sl E B k)
  ·exact False.elim k
 ·exact False.elim k
end
end L2
namespace L2
open PySem PySem.Spec PyProof.Rows PySem.W PySem.Calls
section
variable {prog:Program}{w:World}{A:Around}{E:Value->Shared->Prop}{s:Shared}{a:Addr}{vs out:List Value}{p:Array Nat}
def Keeps(s:Shared)(a:Addr)(h':Heap):Prop:=∀b o,b≠a->s.heap.get? b=some o->h'.get? b=some o
def Ig(prog:Program)(w:World)(A:Around)(s:Shared)(vs:List Value)(p:Array Nat)(h':Heap):Prop :=
 ∃κ,(∀(Q:SortKind->Shared->Prop) (E:Value->Shared->Prop),Q κ {s with heap:=h'}->wpAny (model prog w) A (keyKind' vs.toArray) Q E {s with heap:=h'}) /\
  (∀G:Array Nat->Shared->Prop,G p {s with heap:=h'}->(kas_sort vs.length).kasWp (kas_ask prog w A κ vs) G {s with heap:=h'})
theorem V3{n:Nat}{P:PySem.Fin->Shared->Prop}(H:s.heap.get? a=some (seqObj "list" vs.toArray n))(T:vs.length<64)
  (Z:2<=vs.length->∀h',Keeps s a h'->Ig prog w A s vs p h') (h1:vs.length<2->out=vs) (h2:2<=vs.length->out=p.toList.map λi=>vs.getD i Value.none)
  (h:∀h' c,Keeps s a h'->out.length=vs.length->h'.get? a=some (seqObj "list" out.toArray c)->P (.done (.ret .none)) {s with heap:=h'}):
  wpAny (model prog w) A (Builtin.«list.sort» ⟨[.ref a],[]⟩) P E s:=by
 have ha:a<s.heap.objs.size:=ze H;obtain⟨L,B⟩:∃L,(s.heap.update a (Obj.mapSeq λ_=>(#[]:Array Value))).get? a=some (seqObj "list" #[] L):=⟨_,get?_update_seq H λ_=>#[]⟩
 have J:Keeps s a (((s.heap.update a (Obj.mapSeq λ_=>(#[]:Array Value))).push (seqObj "tuple" vs.toArray 0)).push (seqObj "list" #[] 0)):=λb o I e =>
  zt _ (zt _ (by rw[Heap.get?_update_ne _ _ _ _ I];exact e))
 have f:(((s.heap.update a (Obj.mapSeq λ_=>(#[]:Array Value))).push (seqObj "tuple" vs.toArray 0)).push (seqObj "list" #[] 0)).get? a=some (seqObj "list" #[] L):=zt _ (zt _ B)
 have j:∀l:List Value,∃y,((((s.heap.update a (Obj.mapSeq λ_=>(#[]:Array Value))).push (seqObj "tuple" vs.toArray 0)).push (seqObj "list" #[] 0)).update a (Obj.mapSeq λ_=>l.toArray)).get? a=some (seqObj "list" l.toArray y):=λl=>⟨_,get?_update_seq f λ_=>l.toArray⟩
 have g:∀l:List Value,Keeps s a ((((s.heap.update a (Obj.mapSeq λ_=>(#[]:Array Value))).push (seqObj "tuple" vs.toArray 0)).push (seqObj "list" #[] 0)).update a (Obj.mapSeq λ_=>l.toArray)):=λl b o I e=>by
  rw[Heap.get?_update_ne _ _ _ _ I];exact J b o I e
 rw[list_sort_plain];refine za (listItems_at H rfl ?_);refine za (listUpdate_at H rfl ?_ (by rw[zr,sizeLine_eq];omega) (Nat.zero_le _));refine za (seqEpoch_at B rfl ?_);refine za (wpAny_newTuple ?_ (by show vs.length<=_;rw[sizeLine_eq];omega));refine za (wpAny_newList ?_ (Nat.zero_le _));refine zO ?_;show wpAny (model prog w) A _ P E {s with heap:=((s.heap.update a (Obj.mapSeq λ_=>(#[]:Array Value))).push (seqObj "tuple" vs.toArray 0)).push (seqObj "list" #[] 0)};dsimp only
 generalize hh3:((s.heap.update a (Obj.mapSeq λ_=>(#[]:Array Value))).push (seqObj "tuple" vs.toArray 0)).push (seqObj "list" #[] 0)=h3 at J f j g
 by_cases d:vs.toArray.size<2
 ·rw[if_pos d,if_pos d];refine za (zb ?_);rw[StateT.run_pure];refine za (zb ?_);dsimp only;refine za (seqEpoch_at f rfl ?_)
  have hlen:vs.length<2:=by rw[zr] at d;exact d
  have em:(vs.toArray.zip vs.toArray).map (·.2)=out.toArray:=by
   rw[h1 hlen]
   apply Array.toList_inj.mp
   simp
   exact List.map_snd_zip (zc _)
  refine za (listUpdate_at f rfl ?_ (Nat.zero_le _) (by rw[Array.size_map];show(pairsOf vs).size<=_;rw[pairsOf_size,sizeLine_eq];omega));simp only[bne_self_eq_false,Bool.false_eq_true,if_false];obtain⟨y,u⟩:=j out;refine zb ?_;have F:=h _ y (g out) (by rw[h1 hlen]) u;rw[<-em] at F;exact F
 ·rw[if_neg d,if_neg d]
  have h2':2<=vs.length:=by rw[zr] at d;omega
  obtain⟨κ,X,W⟩:=Z h2' h3 J;refine za (X _ _ ?_)
  refine za (zS (kat_run (Q:=λk x=>arrOf k=p.map (kas_item (vs.toArray.zip vs.toArray))/\failedOf k=none/\p.size=vs.length/\x = {s with heap:=h3})
   (G:=λU x=>U=p/\x = {s with heap:=h3}) rfl h2' T (λU k x a1 a2 a3 O=>⟨by rw[<-O.1];exact a2,a3,by rw[<-O.1];exact a1,O.2⟩) (W _ ⟨rfl,rfl⟩)) ?_ λ_ _ e=>e)
  rintro⟨⟨⟩,k⟩ x ⟨R,hf,Y,rfl⟩;dsimp only;have m:=kat_snds (ks:=vs) (vs:=vs) rfl R;rw[<-h2 h2'] at m
  have z:out.length=vs.length:=by rw[h2 h2',zd,Array.length_toList,Y]
  rw[m];refine za (seqEpoch_at f rfl ?_);refine za (listUpdate_at f rfl ?_ (Nat.zero_le _) (by rw[zr,z,sizeLine_eq];omega));rw[hf];simp only[bne_self_eq_false,Bool.false_eq_true,if_false];obtain⟨y,u⟩:=j out;exact zb (h _ y (g out) z u)
theorem V4{l:Addr}{Q:Value->Shared->Prop}(n:s.heap.IsList l vs.toArray)(j:vs.length<64)
  (u:2<=vs.length->∀h',(∀b o,s.heap.get? b=some o->h'.get? b=some o)->Ig prog w A.in1.in1 s vs p h') (h1:vs.length<2->out=vs) (h2:2<=vs.length->out=p.toList.map λi=>vs.getD i Value.none)
  (h:∀D h' c,s.heap.objs.size<=D->(∀b o,s.heap.get? b=some o->h'.get? b=some o)->out.length=vs.length->h'.get? D=some (seqObj "list" out.toArray c)->Q (.ref D) {s with heap:=h'}):
  wpAny (model prog w) A (call (.builtin "sorted") [.ref l]) Q E s:=by
 refine Calls.call_function_entry kind_sorted plain_sorted entry_sorted (args_sorted1 _) ?_;unfold Builtin.«sorted»;refine za (m:=checkCount "sorted" 1 1 _) (zb ?_);refine za (collect_list n ?_ (by rw[sizeLine_eq];omega));refine za (wpAny_newList ?_ (by rw[sizeLine_eq];omega))
 have d:((s.heap.push (seqObj "list" #[] 0)).update s.heap.objs.size (Obj.mapSeq (· ++ vs.toArray))).objs.size=s.heap.objs.size+1:=by
  rw[Heap.size_update,size_push']
 have g:(((s.heap.push (seqObj "list" #[] 0)).update s.heap.objs.size (Obj.mapSeq (· ++ vs.toArray))).push (seqObj "list" vs.toArray 0)).get? (s.heap.objs.size+1)=some (seqObj "list" vs.toArray 0):=by
  rw[<-d];exact zF _ rfl
 have keep:∀b o,s.heap.get? b=some o->(((s.heap.push (seqObj "list" #[] 0)).update s.heap.objs.size (Obj.mapSeq (· ++ vs.toArray))).push (seqObj "list" vs.toArray 0)).get? b=some o:=λb o q=>by
  have f:b<s.heap.objs.size:=ze q;rw[Heap.get?_push_ne _ _ _ (by rw[d];exact zB (jf f)),Heap.get?_update_ne _ _ _ _ (zB f),Heap.get?_push_ne _ _ _ (zB f)];exact q
 show wpAny _ _ _ _ _ {s with heap:=((s.heap.push (seqObj "list" #[] 0)).update s.heap.objs.size (Obj.mapSeq (· ++ vs.toArray))).push (seqObj "list" vs.toArray 0)};rw[d]
 have kp:∀h',Keeps {s with heap:=((s.heap.push (seqObj "list" #[] 0)).update s.heap.objs.size (Obj.mapSeq (· ++ vs.toArray))).push (seqObj "list" vs.toArray 0)} (s.heap.objs.size+1) h'->∀b o,s.heap.get? b=some o->h'.get? b=some o:=λh' k b o e =>
  k b o (zB (jf (ze e))) (keep b o e)
 refine za (zO (wpAny_call_entry slot_list_sort ⟨_,g,rfl⟩ entry_list_sort ?body (args_list_sort _)))
 case body =>
  refine V3 (s:={s with heap:=((s.heap.push (seqObj "list" #[] 0)).update s.heap.objs.size (Obj.mapSeq (· ++ vs.toArray))).push (seqObj "list" vs.toArray 0)}) g j (λh2 h' k=>u h2 h' (kp h' k)) h1 h2 λh' c k x e=>?_
  exact⟨_,rfl,zb ⟨_,rfl,h _ h' c (Nat.le_succ _) (kp h' k) x e⟩⟩
def LtV:List V->List V->Bool->Prop
 | .int i::xs,.int j::ys,b=>(i=j/\LtV xs ys b)\/(i≠j/\b=decide (i<j))
 | _,_,_=>False
theorem Ih{y b:Bool}{Q:Bool->Shared->Prop}(g:Q b s):∀(xs d:List V) (us f:List Value) (i:Nat),aX xs us->aX d f->LtV xs d b->KatLex prog w A true y Q (us.zip f) i s
 | .int m::xs,.int n::d,us,f,i,h1,h2,h=>by
  obtain⟨u,c,rfl,B,x⟩:∃u c,us=u::c/\RelV (.int m) u/\aX xs c:=by
   cases h1 with
   |cons a b=>exact⟨_,_,rfl,a,b⟩
  obtain⟨v,j,rfl,z,l⟩:∃u c,f=u::c/\RelV (.int n) u/\aX d c:=by
   cases h2 with
   |cons a b=>exact⟨_,_,rfl,a,b⟩
  obtain⟨G,rfl⟩:=B;obtain⟨F,rfl⟩:=z;rw[List.zip_cons_cons];refine kat_cons (wpAny_eqBool_int ?_)
  rcases h with⟨rfl,h⟩ | ⟨k,rfl⟩
  ·rw[show(m == m)=true from beq_self_eq_true m];exact kat_yes (Ih g xs d c j (i+1) x l h)
  ·rw[show(m == n)=false from beq_eq_false_iff_ne.mpr k];refine kat_no ?_
   cases i with
   |zero=>exact oneLt_int g
   |succ i=>exact kat_one _ _ (lt_int g)
 | [],_,_,_,_,_,_,h=>h.elim
 | .int _::_,[],_,_,_,_,_,h=>h.elim
end
def nY{α:Type}(cmp:Nat->Nat->Bool->Prop):KasT α->α->Prop
 | .ret a,r=>r=a
 | .ask i j k,r=>∃b,cmp i j b/\nY cmp (k b) r
theorem nY.wp{α:Type}{cmp:Nat->Nat->Bool->Prop}{ask:Nat->Nat->(Bool->Shared->Prop)->Shared->Prop}{s:Shared}(d:∀i j b,cmp i j b->∀C:Bool->Shared->Prop,C b s->ask i j C s){G:α->Shared->Prop}{r:α}(c:G r s):∀t:KasT α,nY cmp t r->t.kasWp ask G s
 | .ret a,h=>by
  cases(show r=a from h);exact c
 | .ask i j k,h=>by
  obtain⟨b,h1,h2⟩:=h;exact d i j b h1 _ (nY.wp d c (k b) h2)
def Ii(K:Frag)(H:Hp)(c:List V)(i j:Nat)(b:Bool):Prop:=∃x y d a,c[i]?=some (.ref x)/\c[j]?=some (.ref y)/\SqT K H x d/\SqT K H y a/\LtV d a b
def V5(K:Frag)(H:Hp)(a out:List V):Prop:=a.length<64/\∃p:Array Nat,(a.length<2->out=a)/\(2<=a.length->(∀y∈a,∃b i c,y=.ref b/\SqT K H b (.int i::c))/\nY (Ii K H a) (kas_sort a.length) p/\out=p.toList.map λi=>a.getD i V.non)
section
variable {X:Cx}
theorem V6{a:List V}{us:List Value}(h:aX a us)(i:Nat):RelV (a.getD i V.non) (us.getD i Value.none):=by
 rw[zK,zK]
 cases e:a[i]? with
 |none=>rw[h.none_of e];rfl
 |some y =>
  obtain⟨u,b,r⟩:=h.get e;rw[b];exact r
theorem Ij{a:List V}{us:List Value}(h:aX a us):∀l:List Nat,aX (l.map λi=>a.getD i V.non) (l.map λi=>us.getD i Value.none)
 | []=>.nil
 |i::l=>.cons (V6 h i) (Ij h l)
theorem Ik:iH X (.builtin "sorted") (λxs H Q=>∃a g out,xs=[.ref a]/\SqL X.K H a g/\V5 X.K H g out/\∀l,H l=none->Q (.ref l) (upd H l (.lst out))):=by
 intro pins s σ H xs E Q I r h;obtain⟨a,g,out,rfl,hq,⟨h64,p,ha,hb⟩,q⟩:=h;obtain⟨u,rfl,rx⟩:=vals1 r;cases rx;obtain⟨d,F,pl,hz⟩:=I.list hq;have hlen:=F.length
 obtain⟨outs,ro,o1,o2⟩:∃outs:List Value,aX out outs/\(d.length<2->outs=d)/\(2<=d.length->outs=p.toList.map λi=>d.getD i Value.none):=by
  by_cases h2:g.length<2
  ·exact⟨d,by rw[ha h2];exact F,λ_=>rfl,λz=>by omega⟩
  ·exact⟨_,by rw[(hb (by omega)).2.2];exact Ij F p.toList,λz=>by omega,λ_=>rfl⟩
 refine V4 (p:=p) (out:=outs) pl.isList (by omega) (λh2 J kp=>?_) o1 o2 λD J c hD kp el e=>?_
 ·obtain⟨b1,b2,_⟩:=hb (by omega)
  have tup:∀b B,SqT X.K H b B->∃(o:Obj) (k:List Value) (n:Nat),aX B k/\J.get? b=some o/\o.cls=.type "tuple"/\o.data=.seq k.toArray n:=λb B U=>by
   obtain⟨k,rw',pl',_⟩:=I.tuple U;obtain⟨o,ho,W,n,hd⟩:=pl';exact⟨o,k,n,rw',kp b o ho,W,hd⟩
  refine⟨tuples' true,λQ' E' hq'=>?_,λG hG=>?_⟩
  ·have kt:∀(g:List V) (E:List Value),aX g E->(∀y∈g,∃b i B,y=.ref b/\SqT X.K H b (.int i::B))->∃fs:List Value,fs.length=E.length/\(∀f∈fs,∃i t,f=Value.int i t)/\KatTups J E fs:=λg=>by
    induction g with
    |nil=>intro E R _;cases R;exact⟨[],rfl,(λf m=>nomatch m),KatTups.nil⟩
    |cons y g ih =>
     intro E R hy
     cases R with
     |cons hv1 hv2 =>
      obtain⟨b,i,B,rfl,U⟩:=hy y zo;cases(show _=Value.ref b from hv1)
      obtain⟨fs,f1,Z,Y⟩:=ih _ hv2 λz hz=>hy z (zv _ hz)
      obtain⟨o,k,n,P,O,w3,L⟩:=tup b _ U
      cases P with
      |cons c1 c2 =>
       obtain⟨t,rfl⟩:=c1;refine⟨Value.int i t::fs,by rw[zC,zC,f1],λf m=>?_,KatTups.cons O w3 L rfl Y⟩
       rcases zm.mp m with rfl | m
       ·exact⟨_,_,rfl⟩
       ·exact Z f m
   obtain⟨fs,f1,Z,Y⟩:=kt g d F b1;refine kat_kind (T:=.type "int") Y (by omega) (λf m=>?_) rfl hq';obtain⟨i,t,rfl⟩:=Z f m;exact .now
  ·rw[show d.length=g.length from hlen.symm];refine nY.wp (cmp:=Ii X.K H g) (λi j b W C hC=>?_) hG _ b2;obtain⟨x,y,xs',zs',e1,e2,t1,t2,l⟩:=W;obtain⟨ux,g1,g2⟩:=F.get e1;obtain⟨uy,g3,g4⟩:=F.get e2;cases(show ux=Value.ref x from g2);cases(show uy=Value.ref y from g4);obtain⟨o,k,n,P,O,w3,L⟩:=tup x _ t1;obtain⟨o',ws',n',w1',w2',w3',w4'⟩:=tup y _ t2;unfold kas_ask;rw[zK,zK,g1,g3];exact kat_lt O L w2' w4' (Ih hC xs' zs' k ws' 0 P w1' l)
 ·have hol:out.length<=sizeLine:=by
   have:=ro.length
   omega
  exact⟨.ref D,_,I.laid (t':=s.toks) kp hD (show cW X.prog X.w _ J _ (.lst out) from⟨hol,outs,c,ro,e⟩),rfl,q _ (I.hok.fresh hD)⟩
def ltD:List D->List D->Option Bool
 | .int i::xs,.int j::ys=>if i=j then ltD xs ys else some (decide (i<j))
 | _,_=>none
def pZ{α:Type}(cmp:Nat->Nat->Option Bool):KasT α->Option α
 | .ret a=>some a
 | .ask i j k=>match cmp i j with
  |some b=>pZ cmp (k b)
  |none=>none
def vg(ds:List D)(i j:Nat):Option Bool:=match ds[i]?,ds[j]? with
 |some (.tup xs),some (.tup ys)=>ltD xs ys
 | _,_=>none
def Il:D->Bool
 | .tup (.int _::_)=>true
 | _=>false
def nZ:List D->Option D
 | [.lst ds]=>if ds.length<2 then some (.lst ds) else
  if ds.length<64/\ds.all Il=true then(pZ (vg ds) (kas_sort ds.length)).map λp=>.lst (p.toList.map λi=>ds.getD i .non) else none
 | _=>none
theorem Im{α:Type}{cmp:Nat->Nat->Option Bool}{R:Nat->Nat->Bool->Prop}(c:∀i j b,cmp i j=some b->R i j b){r:α}:∀t:KasT α,pZ cmp t=some r->nY R t r
 | .ret a,h=>(zA h).symm
 | .ask i j k,h=>by
  unfold pZ at h;split at h
  ·rename_i b e;exact⟨b,c i j b e,Im c (k b) h⟩
  ·cases h
theorem Rps.ltV{K:Frag}{F:Hp}{g:List Addr}{b:Bool}:∀{ds f:List D}{xs a:List V},Rps K F g xs ds->Rps K F g a f->ltD ds f=some b->LtV xs a b
 | [],_,_,_,_,_,h=>by cases h
 |d::ds,[],_,_,_,_,h=>by unfold ltD at h;cases d<;>cases h
 |d::ds,e::f,xs,a,h1,h2,h=>by
  obtain⟨x,n,rfl,h3,h4⟩:=h1.un;obtain⟨y,m,rfl,l,k⟩:=h2.un
  cases d with
  |int i =>
   cases e with
   |int j =>
    rw[h3.unI,l.unI];unfold ltD at h;split at h
    ·rename_i c;exact .inl ⟨c,Rps.ltV h4 k h⟩
    ·rename_i c;cases h;exact .inr ⟨c,rfl⟩
   | _=>cases h
  | _=>cases h
theorem Rps.getD{K:Frag}{F:Hp}{a:List Addr}{ds:List D}{xs:List V}(h:Rps K F a xs ds)(i:Nat):Rp K F a (xs.getD i V.non) (ds.getD i .non):=by
 rw[zK,zK]
 cases e:ds[i]? with
 |none =>
  have:xs[i]?=none:=by
   rw[List.getElem?_eq_none_iff] at e ⊢;rw[h.length];exact e
  rw[this];exact Rp.non
 |some d =>
  obtain⟨v,b,r⟩:=h.get' e;rw[b];exact r
theorem Rps.mapD{K:Frag}{F:Hp}{a:List Addr}{ds:List D}{xs:List V}(h:Rps K F a xs ds):∀l:List Nat,Rps K F a (l.map λi=>xs.getD i V.non) (l.map λi=>ds.getD i .non)
 | []=>Rps.nil
 |i::l=>Rps.cons (h.getD i) (Rps.mapD h l)
theorem V7:lZ X (.builtin "sorted") nZ:=by
 intro pins s σ H a us Q I rs h;obtain⟨O,F,as,ds,d,r,Y,e,k⟩:=h;unfold nZ at e;split at e
 ·rename_i g;obtain⟨v,rfl,hv⟩:=Y.one;obtain⟨p,a,rfl,h1,h2⟩:=hv.list r.fh;have f:=h2.length
  have tup:∀(i:Nat) (u:List D),g[i]?=some (D.tup u)->∃(b:Addr) (c:List V),a[i]?=some (V.ref b)/\SqT X.K H b c/\Rps X.K F as c u:=λi u hz=>by
   obtain⟨v,Z,rv⟩:=h2.get' hz;obtain⟨b,c,rfl,q1,q2⟩:=rv.unT;exact⟨b,c,Z,Same.seqT r.fh q1,q2⟩
  split at e
  ·rename_i hlt;cases e;exact Ik pins s σ H _ us Q I rs ⟨p,a,a,rfl,h1.sq,⟨by omega,#[],λ_=>rfl,λz=>by omega⟩,λl f=>nJ r k f h2⟩
  ·rename_i hlt;split at e
   ·rename_i hc
    cases q:pZ (vg g) (kas_sort g.length) with
    |none=>rw[q] at e;cases e
    |some pp =>
     rw[q] at e;cases e;refine Ik pins s σ H _ us Q I rs ⟨p,a,_,rfl,h1.sq,⟨by omega,pp,λz=>by omega,λ_=>⟨λy hy=>?_,?_,rfl⟩⟩,λl f=>nJ r k f (h2.mapD pp.toList)⟩
     ·obtain⟨i,hi⟩:=List.mem_iff_getElem?.mp hy
      have m:i<g.length:=by have:=(zg.mp hi).1;omega
      have G:=jo.mp hc.2 _ (zW m);have he:=zj m
      generalize g[i]=d at G he
      unfold Il at G;split at G
      ·rename_i n u;obtain⟨b,c,E,B,L⟩:=tup i _ he;rw[hi] at E;cases E;obtain⟨x,xr,rfl,h3,h4⟩:=L.un;rw[h3.unI] at B;exact⟨b,n,xr,rfl,B⟩
      ·cases G
     ·rw[f];refine Im (λi j b J=>?_) _ q;unfold vg at J;split at J
      ·rename_i x y e1 e2;obtain⟨b1,R,E,B,L⟩:=tup i _ e1;obtain⟨b2,P,W,U,T⟩:=tup j _ e2;exact⟨b1,b2,R,P,E,W,B,U,Rps.ltV L T J⟩
      ·cases J
   ·cases e
 ·cases e
end
theorem V8:bootBuiltins "sorted" = some (.builtin "sorted"):=by decide +kernel
structure Io(mg:Str->Option Value):Prop extends Blt mg where
 sorted_:mg "sorted" = none
end L2
namespace L2
open PySem PySem.Spec PyProof.Rows
abbrev jA(h:Heap)(z TI TO T:Addr)(b:Bool):Prop :=
 h.get? z=some {cls:=.type "zip",dict:=none,data:=.fields #[rawInt T,.bool b,.bool false,.ref TI,.ref TO],slots:=#[]}
section
variable {prog:Program}{w:World}{A:Around}{E:Value->Shared->Prop}{s:Shared}
theorem V9{a:Addr}{o:Obj}{Q:Option Obj->Shared->Prop}(h:s.heap.get? a=some o)(b:Q (some o) s):wpAny (model prog w) A (loadIfAlive a) Q E s:=by
 have:wpAny (model prog w) A (loadIfAlive a) Q E s↔wpAny (model prog w) A (pure (s.heap.get? a)) Q E s:=by
  unfold loadIfAlive wpAny;simp[Sem.wp_loadIfAlive]
 rw[this,h];exact zb b
theorem Ip{z TI TO T:Addr}{b:Bool}{o:Obj}{Q:Bool->Shared->Prop}(hz:jA s.heap z TI TO T b)(hT:s.heap.get? T=some o)
  (d:∀h',jA h' z TI TO T true->Heap.SameBut z s.heap h'->Q false {s with heap:=h'}):wpAny (model prog w) A (Builtin.SmallTypes.ownedTupleIsFree (.ref z)) Q E s:=by
 unfold Builtin.SmallTypes.ownedTupleIsFree;refine za (wpAny_field hz rfl (x:=rawInt T) rfl ?_);show wpAny _ _ (loadIfAlive ((T:Int).toNat) >>= _) _ _ _;rw[Int.toNat_natCast];refine za (V9 hT ?_);show wpAny _ _ (field (.ref z) 1 >>= _) _ _ _;refine za (wpAny_field hz rfl (x:=.bool b) rfl ?_)
 cases b with
 |true =>
  exact zb (d s.heap hz (Heap.SameBut.refl _ _))
 |false =>
  exact za (wpAny_setField_rec hz (by simp) λh1 a c=>zb (d h1 a c))
theorem Wa{z TI TO T u n F B:Addr}{o:Obj}{b:Bool}{H G:Nat}{xs O:Array Value}{x y:Value}{Q:Value->Shared->Prop}(D:ZipApart z TI TO u n F B)
  (hz:jA s.heap z TI TO T b) (hT:s.heap.get? T=some o) (L:IsPair s.heap TI (.ref u) (.ref n))
  (h1:s.heap.IsListIter u F H) (h2:s.heap.IsListIter n B G) (J:s.heap.IsList F xs) (I:s.heap.IsList B O) (X:xs[H]?=some x) (W:O[G]?=some y)
  (Y:∀h',jA h' z TI TO T true->h'.IsListIter u F (H+1)->h'.IsListIter n B (G+1)->IsPair h' s.heap.objs.size x y->h'.objs.size=s.heap.objs.size+1 ->
   (∀c o,c≠z->c≠u->c≠n->s.heap.get? c=some o->h'.get? c=some o)->Q (.ref s.heap.objs.size) {s with heap:=h'}):
  wpAny (model prog w) A (Builtin.«zip.__next__» ⟨[.ref z],[]⟩) (λi U=>∃v,i=.done (.ret v)/\Q v U) E s:=by
 show wpAny _ _ (field (.ref z) 2 >>= _) _ _ _;refine za (wpAny_field hz rfl (x:=.bool false) rfl ?_);show wpAny _ _ (field (.ref z) 3 >>= _) _ _ _;refine za (wpAny_field hz rfl (x:=.ref TI) rfl ?_);refine za (wpAny_seqItems L rfl ?_);show wpAny _ _ (Builtin.SmallTypes.ownedTupleIsFree (.ref z) >>= _) _ _ _;refine za (Ip hz hT λR k a=>?_);simp only[Bool.false_eq_true,if_false];refine za ?_;simp only[<-Array.forIn_toList,List.forIn_cons,List.forIn_nil];refine za (za (zO ?_));show wpAny _ _ (Builtin.SmallTypes.nextOf (.ref u) >>= _) _ _ _;refine za (wpAny_nextOf_list_item (h1.extBut a.extBut D.i1z) (J.extBut a.extBut D.l1z) X λP m d=>zb (zb ?_))
 dsimp only;refine za (za (zO ?_));show wpAny _ _ (Builtin.SmallTypes.nextOf (.ref n) >>= _) _ _ _;refine za (wpAny_nextOf_list_item ((h2.extBut a.extBut D.i2z).extBut d.extBut D.i12.symm) ((I.extBut a.extBut D.l2z).extBut d.extBut D.l2i1) W λg l f=>zb (zb ?_));dsimp only;refine zb ?_;refine za (wpAny_newTuple ?_ (by show 2<=sizeLine;decide))
 have h:g.objs.size=s.heap.objs.size:=by rw[f.1,d.1,a.1]
 have j:jA g z TI TO T true:=f.extBut _ _ D.i2z.symm (d.extBut _ _ D.i1z.symm k);refine zb ⟨_,rfl,?_⟩;show Q (.ref g.objs.size) _;rw[h];have i:=Y (g.push {cls:=.type "tuple",data:=.seq #[x,y]}) (zt _ j) ((m.extBut f.extBut D.i12).at λo e=>zt _ e) (l.at λo e=>zt _ e)
  (by rw[<-h];exact zF _ rfl) (by rw[Heap.size_push,h]) λc o c1 c2 Z e=>zt _ (f.extBut _ _ Z (d.extBut _ _ c2 (a.extBut _ _ c1 e)))
 exact i
theorem Wb{z TI TO T j i y u:Addr}{o:Obj}{b:Bool}{F B:Nat}{xs n:Array Value}{Q:PySem.Fin->Shared->Prop}(R:A.handled=none)(D:ZipApart z TI TO j i y u)
  (hz:jA s.heap z TI TO T b) (hT:s.heap.get? T=some o) (L:IsPair s.heap TI (.ref j) (.ref i))
  (h1:s.heap.IsListIter j y F) (h2:s.heap.IsListIter i u B) (k:s.heap.IsList y xs) (J:s.heap.IsList u n) (m:xs[F]?=none\/n[B]?=none)
  (U:∀h' e,(∀c o,c≠z->c≠j->c≠i->s.heap.get? c=some o->h'.get? c=some o)->(∃o,h'.get? e=some o/\o.cls=.type "StopIteration")->E (.ref e) {s with heap:=h'}):
  wpAny (model prog w) A (Builtin.«zip.__next__» ⟨[.ref z],[]⟩) Q E s:=by
 show wpAny _ _ (field (.ref z) 2 >>= _) _ _ _;refine za (wpAny_field hz rfl (x:=.bool false) rfl ?_);show wpAny _ _ (field (.ref z) 3 >>= _) _ _ _;refine za (wpAny_field hz rfl (x:=.ref TI) rfl ?_);refine za (wpAny_seqItems L rfl ?_);show wpAny _ _ (Builtin.SmallTypes.ownedTupleIsFree (.ref z) >>= _) _ _ _;refine za (Ip hz hT λX O a=>?_);simp only[Bool.false_eq_true,if_false];refine za ?_;simp only[<-Array.forIn_toList,List.forIn_cons,List.forIn_nil];refine za (za (zO ?_));show wpAny _ _ (Builtin.SmallTypes.nextOf (.ref j) >>= _) _ _ _
 cases hx:xs[F]? with
 |none =>
  refine za (wpAny_nextOf_list_end R (h1.extBut a.extBut D.i1z) (k.extBut a.extBut D.l1z) hx λf e d G=>?_);exact U f e (λc o I H W x=>d _ _ H (a.extBut _ _ I x)) G
 |some x =>
  have Y:n[B]?=none:=by rcases m with h | h;rw[hx] at h;cases h;exact h
  refine za (wpAny_nextOf_list_item (h1.extBut a.extBut D.i1z) (k.extBut a.extBut D.l1z) hx λf P d=>zb (zb ?_));dsimp only;refine za (za (zO ?_));show wpAny _ _ (Builtin.SmallTypes.nextOf (.ref i) >>= _) _ _ _;refine za (wpAny_nextOf_list_end R ((h2.extBut a.extBut D.i2z).extBut d.extBut D.i12.symm) ((J.extBut a.extBut D.l2z).extBut d.extBut D.l2i1) Y λl e g G=>?_);exact U l e (λc o I H W x=>g _ _ W (d.extBut _ _ H (a.extBut _ _ I x))) G
theorem Wc{z TI TO T d a h g:Addr}{o:Obj}{b:Bool}{j i:Nat}{xs n:Array Value}{x y:Value}{Q:Option Value->Shared->Prop}(D:ZipApart z TI TO d a h g)
  (hz:jA s.heap z TI TO T b) (hT:s.heap.get? T=some o) (m:IsPair s.heap TI (.ref d) (.ref a))
  (h1:s.heap.IsListIter d h j) (h2:s.heap.IsListIter a g i) (l:s.heap.IsList h xs) (k:s.heap.IsList g n) (B:xs[j]?=some x) (u:n[i]?=some y)
  (G:∀h',jA h' z TI TO T true->h'.IsListIter d h (j+1)->h'.IsListIter a g (i+1)->IsPair h' s.heap.objs.size x y->h'.objs.size=s.heap.objs.size+1 ->
   (∀c o,c≠z->c≠d->c≠a->s.heap.get? c=some o->h'.get? c=some o)->Q (some (.ref s.heap.objs.size)) {s with heap:=h'}):
  wpAny (model prog w) A (pyNext (.ref z)) Q E s:=by
 have f:s.TypeIs (.ref z) "zip":=⟨_,hz,rfl⟩;unfold pyNext
 exact za (wpAny_attempt (wpAny_callSpecial?_slot (name:=Str.ofString "__next__") f F.slot_zip_next
  (wpAny_call_entry F.slot_zip_next f F.entry_zip_next
   (Wa D hz hT m h1 h2 l k B u λh' a1 O L J I H=>zb (G h' a1 O L J I H)) (F.args_zip_next_1 _))))
theorem Wd{z TI TO T g f i h:Addr}{o:Obj}{b:Bool}{x u:Nat}{xs n:Array Value}{Q:Option Value->Shared->Prop}(G:A.handled=none)(D:ZipApart z TI TO g f i h)
  (hz:jA s.heap z TI TO T b) (hT:s.heap.get? T=some o) (m:IsPair s.heap TI (.ref g) (.ref f))
  (h1:s.heap.IsListIter g i x) (h2:s.heap.IsListIter f h u) (l:s.heap.IsList i xs) (k:s.heap.IsList h n) (d:xs[x]?=none\/n[u]?=none)
  (J:∀h',(∀c o,c≠z->c≠g->c≠f->s.heap.get? c=some o->h'.get? c=some o)->Q none {s with heap:=h'}):wpAny (model prog w) A (pyNext (.ref z)) Q E s:=by
 have a:s.TypeIs (.ref z) "zip":=⟨_,hz,rfl⟩;unfold pyNext
 refine za (wpAny_attempt (wpAny_callSpecial?_slot (name:=Str.ofString "__next__") a F.slot_zip_next
  (wpAny_call_entry F.slot_zip_next a F.entry_zip_next (Wb G D hz hT m h1 h2 l k d λh' e B H=>?_) (F.args_zip_next_1 _))))
 obtain⟨y,j,I⟩:=H;refine za (wpAny_isInstance (T:="StopIteration") (b:=true) ⟨y,j,I⟩ isSubtype_stop ?_);exact zb (J _ B)
structure ZS(base:Nat)(h:Heap)(z TI TO i1 i2 l1 l2 S:Addr)(xs ys acc:Array Value)(c i:Nat):Prop where
 zi:(IsZip h z TI TO .none/\∃a b,IsPair h TO a b)\/∃T b o,jA h z TI TO T b/\h.get? T=some o/\T∉[z,TO,i1,i2,S]
 ti:IsPair h TI (.ref i1) (.ref i2)
 it1:h.IsListIter i1 l1 i
 it2:h.IsListIter i2 l2 i
 a1:h.IsList l1 xs
 a2:h.IsList l2 ys
 ls:h.get? S=some {cls:=.type "list",dict:=none,data:=.seq acc c,slots:=#[]}
 sz:acc.size=i
 tl:TO<h.objs.size
 nd:acc.toList.Nodup
 ts:∀(j:Nat) (v:Value),acc[j]?=some v->∃(T:Addr) (x y:Value),v=Value.ref T/\xs[j]?=some x/\ys[j]?=some y/\IsPair h T x y/\T∉[z,TO,i1,i2,S]/\base<=T
variable {R:PySem.Result->Shared->Prop}
theorem We{z TI TO l h P O S:Addr}{xs B:Array Value}{n base:Nat}(hh:A.handled=none)(D:ZipApart z TI TO l h P O)(hS:S∉[z,TI,TO,l,h,P,O])(res:Value)(hn:n<=sizeLine)(hn1:n<=xs.size)(hn2:n<=B.size)(hne:n=xs.size\/n=B.size):
  ∀(k i:Nat) (s:Shared) (acc:Array Value) (c:Nat),n - i=k->i<=n->ZS base s.heap z TI TO l h P O S xs B acc c i->base<=s.heap.objs.size ->
  (∀(h':Heap) (g:Array Value) (c':Nat),(∀b o,b∉[z,TO,l,h,S]->s.heap.get? b=some o->h'.get? b=some o)->h'.get? S=some {cls:=.type "list",dict:=none,data:=.seq g c',slots:=#[]}->g.size=n->g.toList.Nodup ->
   (∀(j:Nat) (v:Value),g[j]?=some v->∃(T:Addr) (x y:Value),v=Value.ref T/\xs[j]?=some x/\B[j]?=some y/\IsPair h' T x y/\T∉[z,TO,l,h,S]/\base<=T)->R (.ok (.ret res)) {s with heap:=h'}) ->
  codeAny (model prog w) A (.builtin "list.extend.loop" ⟨[.ref S,.ref z,res],[]⟩) R s:=by
 simp only[zm,List.not_mem_nil,or_false,not_or] at hS;obtain⟨S1,S2,S3,S4,S5,S6,S7⟩:=hS
 have m:∀b:Addr,b∉[z,TO,l,h,S]↔b≠z/\b≠TO/\b≠l/\b≠h/\b≠S:=λb=>by simp only[zm,List.not_mem_nil,or_false,not_or]
 intro k
 induction k with
 |zero =>
  intro i s acc c hk hi d hb hR
  have hin:i=n:=by omega
  subst hin;refine codeAny_builtin F.entry_extend_loop ?_;rw[Around.under_plainId F.plain_extend_loop _];show wpAny _ A.in1 (pyNext (.ref z) >>= _) _ _ s
  have I:xs[i]?=none\/B[i]?=none:=by
   rcases hne with e | e
   ·left;rw[Array.getElem?_eq_none_iff];omega
   ·right;rw[Array.getElem?_eq_none_iff];omega
  have fin:∀h',(∀b o,b≠z->b≠TO->b≠l->b≠h->s.heap.get? b=some o->h'.get? b=some o)->R (.ok (.ret res)) {s with heap:=h'}:=λh' kp =>
   hR h' acc c (λb o hb e=>by obtain⟨Z,b2,Y,X,b5⟩:=(m b).mp hb;exact kp b o Z b2 Y X e) (kp S _ S1 S3 S4 S5 d.ls) d.sz d.nd λj v G=>by
    obtain⟨T,x,y,e1,e2,e3,e4,e5,e6⟩:=d.ts j v G;obtain⟨Z,b2,Y,X,b5⟩:=(m T).mp e5;exact⟨T,x,y,e1,e2,e3,kp T _ Z b2 Y X e4,e5,e6⟩
  rcases d.zi with⟨u,a,b,L⟩ | ⟨T,b,o,u,hT,_⟩
  ·exact za (wpAny_pyNext_zip_end hh D u d.ti L d.it1 d.it2 d.a1 d.a2 I λh' kp=>zb (fin h' kp))
  ·exact za (Wd hh D u hT d.ti d.it1 d.it2 d.a1 d.a2 I λh' kp=>zb (fin h' λb o Z b2 Y X e=>kp b o Z Y X e))
 |succ k ih =>
  intro i s acc c hk hi d hb hR
  have hlt:i<n:=by omega
  have hx:xs[i]?=some (xs[i]'(by omega)):=Array.getElem?_eq_getElem _;have hy:B[i]?=some (B[i]'(by omega)):=Array.getElem?_eq_getElem _
  generalize xs[i]'(by omega)=x at hx
  generalize B[i]'(by omega)=y at hy
  refine codeAny_builtin F.entry_extend_loop ?_;rw[Around.under_plainId F.plain_extend_loop _];show wpAny _ A.in1 (pyNext (.ref z) >>= _) _ _ s
  have ltz:z<s.heap.objs.size:=by rcases d.zi with⟨u,_⟩ | ⟨T,b,o,u,_⟩<;>exact ze u
  have ltS:S<s.heap.objs.size:=ze d.ls
  have lt1:l<s.heap.objs.size:=by obtain⟨_,e,_⟩:=d.it1;exact ze e
  have lt2:h<s.heap.objs.size:=by obtain⟨_,e,_⟩:=d.it2;exact ze e
  have nxt:wpAny (model prog w) A.in1 (pyNext (.ref z)) (λr s1=>∃h',r=some (.ref s.heap.objs.size)/\s1 = {s with heap:=h'}/\(∃T b o,jA h' z TI TO T b/\h'.get? T=some o/\(T=s.heap.objs.size\/T∉[z,TO,l,h,S]))/\h'.IsListIter l P (i+1)/\h'.IsListIter h O (i+1)/\IsPair h' s.heap.objs.size x y/\h'.objs.size=s.heap.objs.size+1 /\
    ∀c o,c≠z->c≠TO->c≠l->c≠h->s.heap.get? c=some o->h'.get? c=some o) (λ_ _=>False) s:=by
   rcases d.zi with⟨u,a,b,L⟩ | ⟨T,b,o,u,hT,hTn⟩
   ·exact wpAny_pyNext_zip_item D u d.ti L d.it1 d.it2 d.a1 d.a2 hx hy λh' q1 q2 q3 q4 q5 q6 q7=>⟨h',rfl,rfl,⟨_,false,_,q1,q5,.inl rfl⟩,q3,q4,q5,q6,q7⟩
   ·obtain⟨W,n2,U,Q,n5⟩:=(m T).mp hTn
    exact Wc D u hT d.ti d.it1 d.it2 d.a1 d.a2 hx hy λh' q1 q3 q4 q5 q6 q7=>⟨h',rfl,rfl,⟨T,true,o,q1,q7 T o W U Q hT,.inr hTn⟩,q3,q4,q5,q6,λc o c1 c2 c3 c4 e=>q7 c o c1 c3 c4 e⟩
  have ltO:TO≠s.heap.objs.size:=zB d.tl;have H:s.heap.objs.size∉[z,TO,l,h,S]:=(m _).mpr ⟨Nat.ne_of_gt ltz,ltO.symm,Nat.ne_of_gt lt1,Nat.ne_of_gt lt2,Nat.ne_of_gt ltS⟩;refine za (zS nxt ?_ λ_ _ x=>x.elim);rintro r s1 ⟨h',rfl,rfl,⟨T,b,o,hz',hT',hTn'⟩,j1,j2,hp,hsz,kp⟩;have hS':=kp S _ S1 S3 S4 S5 d.ls
  have f:∀c o,c≠S->h'.get? c=some o->(h'.update S (Obj.mapSeq (·.push (Value.ref s.heap.objs.size)))).get? c=some o:=λc o hc e=>(jd _ _ (Ne.symm hc)).trans e
  have J:T∉[z,TO,l,h,S]:=by
   rcases hTn' with e | e
   ·rw[e];exact H
   ·exact e
  have hnd:(acc.push (Value.ref s.heap.objs.size)).toList.Nodup:=by
   rw[Array.toList_push,jb];refine⟨d.nd,by simp,λv G w hw=>?_⟩;rw[zk.mp hw];rintro rfl;obtain⟨j,hj⟩:=List.mem_iff_getElem?.mp G;obtain⟨T2,x2,y2,f1,_,_,f4,_⟩:=d.ts j _ (by simpa using hj);cases f1;exact zN _ (ze f4)
  show wpAny _ A.in1 (updateSeq S (·.push (.ref s.heap.objs.size)) >>= _) _ _ _;refine za ?_
  refine jj hS' rfl (zb ⟨plainId_quiet F.plain_extend_loop _,ih (i+1) _ (acc.push (.ref s.heap.objs.size)) _ (by omega) hlt ⟨.inr ⟨T,b,o,f z _ (Ne.symm S1) hz',f T _ ((m T).mp J).2.2.2.2 hT',J⟩,
   f TI _ (Ne.symm S2) (kp TI _ D.TIz D.TITO D.TIi1 D.TIi2 d.ti),j1.at λo e=>f l o (Ne.symm S4) e,j2.at λo e=>f h o (Ne.symm S5) e,
   d.a1.at λo e=>f P o (Ne.symm S6) (kp P o D.l1z D.l1TO D.l1i1 D.l1i2 e),d.a2.at λo e=>f O o (Ne.symm S7) (kp O o D.l2z D.l2TO D.l2i1 D.l2i2 e),Heap.get?_update_self _ hS' rfl,by rw[Array.size_push,d.sz],by rw[Heap.size_update,hsz];exact jf d.tl,hnd,λj v G=>?_⟩ ?_ λh2 g c' kp2 e1 e2 en e3=>?_⟩)
   (by rw[d.sz];omega) (by show(acc.push _).size<=sizeLine+1;rw[Array.size_push,d.sz];omega)
  ·rw[Array.getElem?_push] at G;split at G
   ·rename_i e;rw[d.sz] at e;cases G;subst e;exact⟨_,x,y,rfl,hx,hy,f _ _ (Nat.ne_of_gt ltS) hp,H,hb⟩
   ·obtain⟨T2,x2,y2,f1,f2,f3,f4,f5,f6⟩:=d.ts j v G;obtain⟨W,n2,U,Q,n5⟩:=(m T2).mp f5;exact⟨T2,x2,y2,f1,f2,f3,f T2 _ n5 (kp T2 _ W n2 U Q f4),f5,f6⟩
  ·rw[Heap.size_update,hsz];omega
  ·refine hR h2 g c' (λb o hb' e=>kp2 b o hb' ?_) e1 e2 en e3;obtain⟨W,n2,U,Q,n5⟩:=(m b).mp hb';exact f b o n5 (kp b o W n2 U Q e)
theorem Wg:typeLookup (.type "zip") "__len__" = pure none:=by rw[typeLookup_type,builtinLookup_eq_fast];kernel_rfl
theorem Wh:typeLookup (.type "zip") "__length_hint__" = pure none:=by rw[typeLookup_type,builtinLookup_eq_fast];kernel_rfl
theorem Wi{z TI TO l k L J S:Addr}{xs H:Array Value}{n base:Nat}(hh:A.handled=none)(D:ZipApart z TI TO l k L J)(B:S∉[z,TI,TO,l,k,L,J])(res:Value)(hn:n<=sizeLine)(U:n<=xs.size)(Q:n<=H.size)(P:n=xs.size\/n=H.size)(G:Nat)(hb:base<=s.heap.objs.size)
  (hz:IsZip s.heap z TI TO .none) (st:ZS base s.heap z TI TO l k L J S xs H #[] G 0)
  (hR:∀(h':Heap) (c:Array Value) (m:Nat),(∀b o,b∉[z,TO,l,k,S]->s.heap.get? b=some o->h'.get? b=some o)->h'.get? S=some {cls:=.type "list",dict:=none,data:=.seq c m,slots:=#[]}->c.size=n->c.toList.Nodup ->
   (∀(j:Nat) (v:Value),c[j]?=some v->∃(T:Addr) (x y:Value),v=Value.ref T/\xs[j]?=some x/\H[j]?=some y/\IsPair h' T x y/\T∉[z,TO,l,k,S]/\base<=T)->R (.ok (.ret res)) {s with heap:=h'}):
  wpAny (model prog w) A.in1 (Builtin.List.listExtendWith (.ref S) (.ref z) res)
   (λX I=>match X with | .done f=>R (.ok f) I | .again m=>m.quiet=true/\codeAny (model prog w) A m R I) (λe I=>R (.error e) I) s:=by
 have hSn':=B;simp only[zm,List.not_mem_nil,or_false,not_or] at hSn';obtain⟨Z,S2,S3,S4,S5,S6,S7⟩:=hSn';have h:s.TypeIs (.ref z) "zip":=⟨_,hz,rfl⟩;unfold Builtin.List.listExtendWith;refine za (wpAny_typeOf h ?_)
 have h1:Builtin.List.listSameRef (.ref S) (.ref z)=false:=by simp[Builtin.List.listSameRef,Z]
 have h2:(Value.type "zip" == Value.type "list")=false:=by decide
 have h3:(Value.type "zip" == Value.type "tuple")=false:=by decide
 simp only[h1,h2,h3,Bool.or_false,Bool.false_eq_true,if_false];refine za (wpAny_pyIter_zip hz ?_);refine za (zO ?_);unfold Builtin.List.listLengthHint;refine za (wpAny_specialOf h Wg ?_);show wpAny _ A.in1 (specialOf (Value.ref z) (Str.ofString "__length_hint__") >>= _) _ _ _;refine za (wpAny_specialOf h Wh ?_);refine zb ?_
 show wpAny _ A.in1 (rule "list.extend.makes-room" >>= λ_=>Builtin.List.listTouch (.ref S) >>= λ_ =>
  again (.builtin "list.extend.loop" ⟨[.ref S,.ref z,res],[]⟩)) _ _ _
 refine za (wpAny_rule ?_);refine za ?_;show wpAny _ A.in1 (updateSeq S (·.push .none) >>= λ_=>updateSeq S (·.pop)) _ _ _;have Y:=st.ls;refine za (jj Y rfl ?_);have g:=Heap.get?_update_self (Obj.mapSeq (·.push Value.none)) Y rfl;refine jj (hz:=by seq_fits) g rfl ?_;have i:=Heap.get?_update_self (Obj.mapSeq (·.pop)) g rfl;have d:∀b o,b≠S->s.heap.get? b=some o->((s.heap.update S (Obj.mapSeq (·.push Value.none))).update S (Obj.mapSeq (·.pop))).get? b=some o :=
  λb o hb e=>(jd _ _ (Ne.symm hb)).trans ((jd _ _ (Ne.symm hb)).trans e)
 obtain⟨a,b',W⟩:∃a b,IsPair s.heap TO a b:=by
  rcases st.zi with⟨_,x⟩ | ⟨T,b,o,O,_⟩
  ·exact x
  ·have q:=Eq.trans (Eq.symm hz) O;simp[rawInt] at q
 refine zb ⟨plainId_quiet F.plain_extend_loop _,We (base:=base) hh D B res hn U Q P n 0 _ _ _ rfl (Nat.zero_le _) ⟨.inl ⟨d z _ (Ne.symm Z) hz,a,b',d TO _ (Ne.symm S3) W⟩,d TI _ (Ne.symm S2) st.ti,st.it1.at λo e=>d l o (Ne.symm S4) e,st.it2.at λo e=>d k o (Ne.symm S5) e,
  st.a1.at λo e=>d L o (Ne.symm S6) e,st.a2.at λo e=>d J o (Ne.symm S7) e,i,rfl,by rw[Heap.size_update,Heap.size_update];exact st.tl,List.nodup_nil,λj v hv=>by simp at hv⟩ (by rw[Heap.size_update,Heap.size_update];exact hb) λh' c m kp e1 e2 en e3=>?_⟩
 exact hR h' c m (λb o u e=>kp b o u (d b o (λz=>u (by simp[z])) e)) e1 e2 en e3
theorem Wj{z TI TO k i P O:Addr}{xs L:Array Value}{n:Nat}{Q:Value->Shared->Prop}(hh:A.handled=none)(D:ZipApart z TI TO k i P O)(hn:n<=sizeLine)(hn1:n<=xs.size)(hn2:n<=L.size)(hne:n=xs.size\/n=L.size)
  (hz:IsZip s.heap z TI TO .none) (I:IsPair s.heap TI (.ref k) (.ref i)) {a b:Value} (H:IsPair s.heap TO a b) (h1:s.heap.IsListIter k P 0) (h2:s.heap.IsListIter i O 0) (G:s.heap.IsList P xs) (B:s.heap.IsList O L)
  (hQ:∀(h':Heap) (c:Array Value) (X:Nat),(∀b o,b∉[z,TO,k,i]->s.heap.get? b=some o->h'.get? b=some o)->h'.get? s.heap.objs.size=some {cls:=.type "list",dict:=none,data:=.seq c X,slots:=#[]}->c.size=n->c.toList.Nodup ->
   (∀(j:Nat) (v:Value),c[j]?=some v->∃(T:Addr) (x y:Value),v=Value.ref T/\xs[j]?=some x/\L[j]?=some y/\IsPair h' T x y/\T≠s.heap.objs.size/\s.heap.objs.size<=T)->Q (.ref s.heap.objs.size) {s with heap:=h'}):
  wpAny (model prog w) A (call (.type "list") [.ref z]) Q E s:=by
 have Y:z<s.heap.objs.size:=ze hz;have Z:TI<s.heap.objs.size:=ze I;have m:TO<s.heap.objs.size:=ze H
 have lt1:k<s.heap.objs.size:=by obtain⟨_,e,_⟩:=h1;exact ze e
 have lt2:i<s.heap.objs.size:=by obtain⟨_,e,_⟩:=h2;exact ze e
 have la1:P<s.heap.objs.size:=by obtain⟨_,e,_⟩:=G;exact ze e
 have la2:O<s.heap.objs.size:=by obtain⟨_,e,_⟩:=B;exact ze e
 refine callType_codes (Q₁:=λobj g=>obj=.ref s.heap.objs.size/\g = {s with heap:=s.heap.push {cls:=.type "list",data:=.seq #[]}}) F.called_list (F.typeCall_list_1 _) F.entry_list_init
  (code_list_new _ ⟨rfl,rfl⟩) λobj g J=>?_
 obtain⟨rfl,rfl⟩:=J;have U:(s.heap.push {cls:=.type "list",data:=.seq #[]}).get? s.heap.objs.size=some {cls:=.type "list",data:=.seq #[]}:=zF _ rfl;refine⟨⟨_,U,rfl⟩,F.args_list_init_2 _ _,?_⟩;show wpAny _ _ (do let old <-Builtin.List.listItems (.ref s.heap.objs.size);Builtin.List.listUpdate (.ref s.heap.objs.size) (λ_=>#[]);letGo old.toList.reverse;Builtin.List.listExtendWith (.ref s.heap.objs.size) (.ref z) .none) _ _ _;refine za ?_;unfold Builtin.List.listItems;refine za (wpAny_seqItems U rfl (zb ?_));show wpAny _ _ (updateSeq s.heap.objs.size (λ_=>#[]) >>= λ_=>letGo (#[]:Array Value).toList.reverse >>= λ_=>Builtin.List.listExtendWith (.ref s.heap.objs.size) (.ref z) .none) _ _ _
 refine za (jj U rfl ?_);have h:=Heap.get?_update_self (Obj.mapSeq (λ_=>(#[]:Array Value))) U rfl;refine za (jk ?_);have d:∀b o,s.heap.get? b=some o->((s.heap.push {cls:=.type "list",data:=.seq #[]}).update s.heap.objs.size (Obj.mapSeq (λ_=>(#[]:Array Value)))).get? b=some o :=
  λb o e=>(jd _ _ (Nat.ne_of_gt (ze e))).trans (zt _ e)
 have u:((s.heap.push {cls:=.type "list",data:=.seq #[]}).update s.heap.objs.size (Obj.mapSeq (λ_=>(#[]:Array Value)))).objs.size=s.heap.objs.size+1:=by rw[Heap.size_update,Heap.size_push]
 refine Wi (base:=s.heap.objs.size) (by exact hh) D (by simp only[zm,List.not_mem_nil,or_false,not_or];exact⟨Nat.ne_of_gt Y,Nat.ne_of_gt Z,Nat.ne_of_gt m,Nat.ne_of_gt lt1,Nat.ne_of_gt lt2,Nat.ne_of_gt la1,Nat.ne_of_gt la2⟩) .none hn hn1 hn2 hne _ (by show _<=((s.heap.push _).update _ _).objs.size;rw[u];exact Nat.le_succ _) (d _ _ hz)
  ⟨.inl ⟨d _ _ hz,a,b,d _ _ H⟩,d _ _ I,h1.at λo e=>d _ o e,h2.at λo e=>d _ o e,G.at λo e=>d _ o e,B.at λo e=>d _ o e,h,rfl,by show _<((s.heap.push _).update _ _).objs.size;rw[u];exact jf m,List.nodup_nil,λj v W=>by simp at W⟩ λh' c X kp e1 e2 en e3=>?_
 refine⟨rfl,hQ h' c X (λb o l e=>kp b o (λf=>?_) (d b o e)) e1 e2 en λj v W=>?_⟩
 ·simp only[zm,List.not_mem_nil,or_false,not_or] at l f
  have:=ze e
  rcases f with f | f | f | f | f
  ·exact l.1 f
  ·exact l.2.1 f
  ·exact l.2.2.1 f
  ·exact l.2.2.2 f
  ·exact absurd this (by rw[f];exact zN _)
 ·obtain⟨T,x,y,f1,f2,f3,f4,f5,f6⟩:=e3 j v W;exact⟨T,x,y,f1,f2,f3,f4,λe=>f5 (by simp[e]),f6⟩
end
theorem Un.more{fs ex:List Addr}{H H1:Hp}{h h':Heap}{a:Addr}{o:HO}(u:Un fs ex H H1 h h')(hp:h.objs.size<=a)(hn:H1 a=none):Un fs ex H (upd H1 a o) h h' where
 keep:=u.keep
 slot:=u.slot
 free:=λb ob q n hx=>by rw[aP (zB (zJ (ze q) hp))];exact u.free b ob q n hx
 there:=u.there
 tups:=λb xs q=>by have z:=u.tups b xs q;rw[aP (cG z hn)];exact z
 frzs:=λb ob v q=>by have z:=u.frzs b ob v q;rw[aP (cG z hn)];exact z
 tbls:=λb ps q=>by obtain⟨m,z⟩:=u.tbls b ps q;exact⟨m,by rw[aP (cG z hn)];exact z⟩
theorem HOk.more{P:Program}{w:World}{H:Hp}{h:Heap}{a:Addr}{o:HO}(x:HOk P w H h)(f:H a=none)(d:cW P w (upd H a o) h a o):HOk P w (upd H a o) h:=λb u e=>by
 by_cases g:b=a
 ·subst g;rw[bW] at e;cases e;exact d
 ·rw[aP g] at e
  exact(x b u e).stay (λc v _ q=>q) (λc q=>by rw[aP (cG q f)];exact q) λc i q=>by rw[aP (cG q f)];exact q
def vh:Hp->List (V×V)->List V->Hp->Prop
 |H,[],ts,H2=>ts=[]/\H2=H
 |H,p::r,ts,H2=>∃T a,ts=.ref T::a/\H T=none/\vh (upd H T (.tup [p.1,p.2])) r a H2
theorem Ir{P:Program}{w:World}{fs:List Addr}{k:Hp}{h h':Heap}:∀(ps:List (V×V)) (vs:List Value) (c:Hp),Un fs [] k c h h'->HOk P w c h'->vs.Nodup ->
  Paired (λ(p:V×V) (v:Value)=>∃T x y,v=Value.ref T/\RelV p.1 x/\RelV p.2 y/\IsPair h' T x y/\h.objs.size<=T/\c T=none) ps vs ->
  ∃ts f,vh c ps ts f/\aX ts vs/\Un fs [] k f h h'/\HOk P w f h'/\∀b,Value.ref b∉vs->f b=c b
 | [],vs,c,u,x,_,hp=>by
  cases hp;exact⟨[],c,⟨rfl,rfl⟩,.nil,u,x,λ_ _=>rfl⟩
 |p::ps,vs,c,u,x,hnd,hp=>by
  cases hp with
  |cons h1 h2 =>
   obtain⟨T,u1,u2,rfl,B,n,hT,l,i⟩:=h1;rw[List.nodup_cons] at hnd;have u':Un fs [] k (upd c T (.tup [p.1,p.2])) h h':=u.more l i;have x':HOk P w (upd c T (.tup [p.1,p.2])) h':=x.more i ⟨by show 2<=sizeLine;decide,[u1,u2],.cons B (.cons n .nil),⟨_,hT,rfl,_,rfl⟩⟩;have go:∀(ps:List (V×V)) (g:List Value),Value.ref T∉g->Paired (λ(p:V×V) (v:Value)=>∃T x y,v=Value.ref T/\RelV p.1 x/\RelV p.2 y/\IsPair h' T x y/\h.objs.size<=T/\c T=none) ps g ->
     Paired (λ(q:V×V) (v:Value)=>∃d x y,v=Value.ref d/\RelV q.1 x/\RelV q.2 y/\IsPair h' d x y/\h.objs.size<=d/\upd c T (.tup [p.1,p.2]) d=none) ps g:=λps g hw E=>by
    induction E with
    |nil=>exact .nil
    |cons a b ih =>
     rw[zm,not_or] at hw;obtain⟨d,x,y,m,U,R,Q,O,L⟩:=a;refine .cons ⟨d,x,y,m,U,R,Q,O,?_⟩ (ih hw.2);rw[aP (λz=>hw.1 (by rw[m,z]))];exact L
   obtain⟨ts,f,J,I,H,G,F⟩:=Ir ps _ _ u' x' hnd.2 (go _ _ hnd.1 h2);refine⟨.ref T::ts,f,⟨T,ts,rfl,i,J⟩,.cons rfl I,H,G,λb j=>?_⟩;rw[zm,not_or] at j;rw[F b j.2,aP (λz=>j.1 (by rw[z]))]
theorem Iu{α β:Type}{R:α->β->Prop}:∀(ps:List α) (vs:List β),ps.length=vs.length->(∀(j:Nat) p v,ps[j]?=some p->vs[j]?=some v->R p v)->Paired R ps vs
 | [],[],_,_=>.nil
 | [],_::_,h,_=>by cases h
 | _::_,[],h,_=>by cases h
 |p::ps,v::vs,h,f=>.cons (f 0 p v rfl rfl) (Iu ps vs (Nat.succ.inj h) λj p v a b=>f (j+1) p v a b)
section
variable {X:Cx}
def tLZ(K:Frag)(i:TA):TE:=λσ H Q=>i σ H λh d=>∃a b g f,h=[.ref a,.ref b]/\SqL K d a g/\SqL K d b f/\∀ts c,vh d (g.zip f) ts c->∀l,c l=none->Q (.ref l) (upd c l (.lst ts))
theorem Wk{a b:Expr}{ta:TA}{p O pos pos':Pos}(hc:X.calm=true)(hgl:Gl X "list")(hml:X.mg "list" = none)(hgz:Gl X "zip")(hmz:X.mg "zip" = none)(ha:PA X [a,b] ta)
  (hs:starEach [a,b] X.env=(false,eval a X.env)::starEach [b] X.env:=by exact cQ rfl) (hpl:(backTo pos' (starEach [b] X.env)).any (·.1)=false:=by exact fj rfl)
  (he:starEach [.Call (.Name "zip" O) [a,b] [] pos'] X.env=(false,eval (.Call (.Name "zip" O) [a,b] [] pos') X.env)::starEach [] X.env:=by exact cQ rfl):
  PE X (.Call (.Name "list" p) [.Call (.Name "zip" O) [a,b] [] pos'] [] pos) (tLZ X.K ta):=by
 intro pins s σ H Q I h;refine Call_ (iY I hgl hml mq (PyProof.Rows.callWith_type1 ?_ he rfl));rw[he];show wpAny _ _ (spliced ((false,eval (.Call (.Name "zip" O) [a,b] [] pos') X.env)::backTo pos (starEach [] X.env))) _ _ s;refine Calls.spliced_cons ?_;refine Call_ (iY I hgz hmz boot_zip (PyProof.Rows.callWith_type1 (thn (ha pos' pins s σ H _ I h) λus s1 ⟨vs,H1,I1,r1,q1⟩=>?_) hs hpl));obtain⟨l1,l2,W,U,e,hq1,hq2,q⟩:=q1;subst e;obtain⟨u1,u2,rfl,ru1,ru2⟩:=vals2 r1;cases ru1;cases ru2;obtain⟨g,F,l,hz1⟩:=I1.list hq1;obtain⟨f,E,i,hz2⟩:=I1.list hq2
 have a1:l1<s1.heap.objs.size:=by obtain⟨_,e,_⟩:=l.isList;exact ze e
 have a2:l2<s1.heap.objs.size:=by obtain⟨_,e,_⟩:=i.isList;exact ze e
 have len1:=F.length;have len2:=E.length
 refine call_zip_2 l.isList i.isList λZ hz hTI hTO L J hsz Y=>?_
 refine Calls.spliced_nil ?_;refine Wj (s:={s1 with heap:=Z}) (n:=min g.length f.length) (I.ok.hd hc) (zipApart_new a1 a2) (by omega) (by rw[zr];omega) (by rw[zr];omega) (by rw[zr,zr];omega) hz hTI hTO L J
  (l.isList.at λo e=>Y l1 o e) (i.isList.at λo e=>Y l2 o e) λh2 d c kp e1 e2 en e3=>?_
 have k:∀b o,s1.heap.get? b=some o->h2.get? b=some o:=λb o e=>kp b o (λR=>by
  have:=ze e
  simp only[zm,List.not_mem_nil,or_false] at R
  rcases R with rfl | rfl | rfl | rfl
  ·exact Nat.not_lt.mpr (zZ _ _) this
  ·exact Nat.not_lt.mpr (zZ _ _) this
  ·exact zN _ this
  ·exact Nat.not_lt.mpr (zZ _ _) this) (Y b o e)
 have hlen:d.toList.length=(W.zip U).length:=by rw[Array.length_toList,e2,List.length_zip];omega
 have hsz':({s1 with heap:=Z}:Shared).heap.objs.size=s1.heap.objs.size+5:=hsz
 have hp:Paired (λ(p:V×V) (v:Value)=>∃T x y,v=Value.ref T/\RelV p.1 x/\RelV p.2 y/\IsPair h2 T x y/\s1.heap.objs.size<=T/\H1 T=none) (W.zip U) d.toList:=Iu _ _ hlen.symm λj p v m hvj=>by
  obtain⟨T,x,y,f1,f2,f3,f4,f5,f6⟩:=e3 j v (by simpa using hvj);rw[List.getElem?_zip_eq_some] at m;obtain⟨w1,B,w2⟩:=F.get m.1;obtain⟨w3,z,w4⟩:=E.get m.2
  have f2':g[j]?=some x:=by simpa using f2
  have f3':f[j]?=some y:=by simpa using f3
  rw[f2'] at B;rw[f3'] at z;cases B;cases z
  have G:s1.heap.objs.size<=T:=by omega
  exact⟨T,x,y,f1,w2,w4,f4,G,I1.hok.fresh G⟩
 obtain⟨ts,H2,g1,g2,g3,g4,g5⟩:=Ir (P:=X.prog) (w:=X.w) (fs:=X.fs) (h:=s1.heap) (W.zip U) d.toList H1 (Un.kept k) (I1.hok.kept k) en hp
 have u:H2 ({s1 with heap:=Z}:Shared).heap.objs.size=none:=by
  rw[g5 _ λR=>?_]
  ·exact I1.hok.fresh (by omega)
  ·obtain⟨j,hj⟩:=List.mem_iff_getElem?.mp R;obtain⟨T,x,y,f1,_,_,_,f5,_⟩:=e3 j _ (by simpa using hj);cases f1;exact f5 rfl
 have hts:ts.length<=sizeLine:=by
  have q1:=g2.length;have q2:d.toList.length=d.size:=Array.length_toList;omega
 have hok:=g4.more (o:=.lst ts) u ⟨hts,d.toList,c,g2,by rw[Array.toArray_toList];exact e1⟩;exact⟨.ref _,upd H2 _ (.lst ts),I1.un (t':=s1.toks) (g3.more (o:=.lst ts) (by omega) u) hok,rfl,q ts H2 g1 _ u⟩
end
theorem Iv{K:Frag}{mg:Str->Option Value}{O:au}{a:List Addr}:∀(ds i:List D) (xs f:List V) (H F:Hp) (ts:List V) (c:Hp),RlO K mg O H F a->Rps K F a xs ds->Rps K F a f i->vh H (xs.zip f) ts c->∃j,Gr H F a c j a/\RlO K mg O c j a/\Rps K j a ts (eO ds i)
 | [],i,xs,f,H,F,ts,c,r,h1,h2,g=>by
  rw[h1.un0] at g;obtain⟨rfl,rfl⟩:=g;exact⟨F,Gr.refl,r,Rps.nil⟩
 |d::ds,[],xs,f,H,F,ts,c,r,h1,h2,g=>by
  rw[h2.un0,List.zip_nil_right] at g;obtain⟨rfl,rfl⟩:=g;exact⟨F,Gr.refl,r,Rps.nil⟩
 |d::ds,e::i,xs,f,H,F,ts,c,r,h1,h2,g=>by
  obtain⟨x,E,rfl,h3,h4⟩:=h1.un;obtain⟨y,B,rfl,R,Q⟩:=h2.un;rw[List.zip_cons_cons] at g;obtain⟨T,m,rfl,h,g⟩:=g;have k:=r.frF h
  have ff:Same F (upd F T (.tup [x,y])):=λb u q=>by rw[aP (cG q k)];exact q
  have P:Rps K F a [x,y] [d,e]:=Rps.cons h3 (Rps.cons R Rps.nil);have l:Gr H F a (upd H T (.tup [x,y])) (upd F T (.tup [x,y])) a:=(Gr.lay h).frz h k;have J:RlO K mg O (upd H T (.tup [x,y])) (upd F T (.tup [x,y])) a:=(r.lay h).frz bW k (λz=>r.all z h) rfl;have G:Rp K (upd F T (.tup [x,y])) a (.ref T) (.tup [d,e]):=Rp.mkT (.inl bW) (Rps.mono ff (λ_ _ z=>z) _ P);obtain⟨j,n,I,L⟩:=Iv ds i E B _ _ m c J (h4.gr l) (Q.gr l) g;exact⟨j,l.trans n,I,Rps.cons (G.gr n) L⟩
def gLZ:List D->Option D
 | [.lst ds,.lst es]=>some (.lst (eO ds es))
 | _=>none
section
variable {X:Cx}{md:List Md}{P:Pt}
theorem Wl{a b:Expr}{ms:List Md}{ma:M (List D)}{p h pos pos':Pos}(hc:X.calm=true)(y:X.mg "list" = none)(x:X.mg "zip" = none)(ha:AE X md P ms [a,b] ma)(E:Gl X "list":=by rfl)(B:Gl X "zip":=by rfl)
  (hs:starEach [a,b] X.env=(false,eval a X.env)::starEach [b] X.env:=by exact cQ rfl) (n:(backTo pos' (starEach [b] X.env)).any (·.1)=false:=by exact fj rfl)
  (he:starEach [.Call (.Name "zip" h) [a,b] [] pos'] X.env=(false,eval (.Call (.Name "zip" h) [a,b] [] pos') X.env)::starEach [] X.env:=by exact cQ rfl):
  OE X md P (.Call (.Name "list" p) [.Call (.Name "zip" h) [a,b] [] pos'] [] pos) (aL gLZ ma):=(Wk hc E y B x ha hs n he).imp λσ H Q q=>by
 have q':tCB (rC X.K X.mg gLZ) (tMA X.K X.mg md P ms ma) σ H Q:=uU q;obtain⟨ρ,O,F,as,ds,O',r,s,e1,k⟩:=q';refine⟨ρ,O,F,as,ds,O',r,s,e1,λW L F1 G g1 Y hv=>?_⟩;obtain⟨O2,F2,as2,es,d,g,i,e,k2⟩:=k W L F1 G g1 Y hv;unfold gLZ at e;split at e
 ·rename_i U T;cases e;obtain⟨v,u,rfl,m,j⟩:=i.two;obtain⟨a1,J,rfl,q1,q2⟩:=m.list g.fh;obtain⟨a2,I,rfl,q3,Z⟩:=j.list g.fh;refine⟨a1,a2,J,I,rfl,q1.sq,q3.sq,λts H2 gr l c=>?_⟩;obtain⟨F3,R,f,p3⟩:=Iv U T J I L F2 ts H2 g q2 Z gr;exact k2 _ _ F3 (R.trans (Gr.lay c)) (f.lay c) (.inr ⟨l,ts,_,rfl,rfl,bW,f.frF c,λz=>f.all z c,R.dm l c,p3⟩)
 ·cases e
end
section
end
end L2
namespace L2
open PySem PySem.Spec PyProof.Rows PySem.W
section
variable {X:Cx}{md:List Md}{P:Pt}
end
end L2
namespace L2
open PySem PySem.Spec PyProof.Rows
section
variable {X:Cx}{md:List Md}{P:Pt}{R:RR}
def jB(n:Nat)(all:List D)(g:MG)(t:M Bool)(m:M D):List D->aA->au->List D->Res (List D)
 | [],ρ,O,acc=>match O[n]? with
  |some (.ml es)=>if es.length=all.length then .ok acc O else .no
  | _=>.no
 |d::ds,ρ,O,acc=>match O[n]? with
  |some (.ml es)=>match es[all.length - (ds.length+1)]? with
   |some b=>match g (.tup [.int ((all.length - (ds.length+1):Nat):Int),b]) ρ with
    |none=>.no
    |some a=>match t a O with
     | .ok true O1=>match m a O1 with
      | .ok y O2=>jB n all g t m ds a O2 (acc++[y])
      | .ex x O'=>.ex x O'
      | .no=>.no
     | .ok false O1=>jB n all g t m ds a O1 acc
     | .ex x O'=>.ex x O'
     | .no=>.no
   |none=>.no
  | _=>.no
def mF(m:M D)(own:Nat)(cap:List Nat)(g:MG)(t:M Bool)(e:M D):M D:=λρ O=>match m ρ O with
 | .ok (.ob n) O1=>match O1[n]? with
  |some (.ml ds)=>if ds.length<=1000000 then(jB n ds g t e ds (ju own cap ρ) O1 []).bind λa b=>.ok (.lst a) b else .no
  | _=>.no
 | _=>dB (pR m) own cap g t e ρ O
theorem Wm{K:Frag}{mg:Str->Option Value}{m:M D}{σ:St}{H:Hp}{Q:It->Hp->Prop}(q:yc K mg md P (pR m) σ H Q):uY K (uD (tM K mg md P (rW K P) m) rG) σ H Q:=by
 obtain⟨ρ,O,F,U,Y,O',r,s,e,k⟩:=q;obtain⟨d,Z,L,e⟩:=Res.bind_ok e
 cases d with
 |lst es =>
  cases e;refine⟨ρ,_,F,U,_,_,r,s,L,λv B E c J n I=>?_⟩;obtain⟨a,f,rfl,h1,h2⟩:=rY (mg:=mg) I;refine⟨a,rfl,⟨f,(h2 B E c GrS.refl ⟨_,n⟩).sq⟩,k _ B E c J n (lX.e (P:=P) ⟨λi d h j b g r e=>?_,λh j b g r=>⟨f,(h2 h j b g r).sq,by rw[pP,h1.length];exact zc _⟩⟩)⟩;rw[rZ] at e
  cases q:es[i]? with
  |none=>rw[q] at e;cases e
  |some y =>
   rw[q] at e;cases e;obtain⟨x,h3,h4⟩:=h1.get' q;have u:=h2 h j b g r;refine⟨⟨f,x,u.sq,h3⟩,λz H3 G=>?_⟩;obtain⟨T,W,rfl,hT,rfl,l⟩:=G
   have:=l f u.sq
   rw[h3] at this;cases this;rw[zy];exact pQ r hT (Rps.cons Rp.int (Rps.cons (h4.grS g) Rps.nil))
 | _=>cases e
theorem Wn{K:Frag}{mg:Str->Option Value}{m:M D}{own:List Str}{cap:List Nat}{g:MG}{t:M Bool}{e:M D}(I:∀j∈cap,j<md.length){σ:St}{H:Hp}{Q:VK}(q:tM K mg md P (rO K) (mF m own.length cap g t e) σ H Q):
  uN (uY K (uD (tM K mg md P (rW K P) m) rG)) own cap (xMG K mg (cMd own.length cap md) g) (xMT K mg (cMd own.length cap md) t) (xM K mg (cMd own.length cap md) (rV K) e) σ H Q:=by
 obtain⟨ρ,O,F,as,d,OZ,r,s,eq,k⟩:=q;unfold mF at eq;split at eq
 ·rename_i n O1 e1;split at eq
  ·rename_i h e2;split at eq
   ·rename_i hz;obtain⟨yf,O2,e3,eq⟩:=Res.bind_ok eq;cases eq;refine⟨ρ,_,F,as,_,_,r,s,e1,λv H1 F1 E g1 r1 hv=>?_⟩
    have hv':Rp K F1 E v (.ob n):=by
     rcases hv with hv | ⟨a,U,ds',_,z,_⟩
     ·exact hv
     ·cases z
    obtain⟨a,rfl,ha⟩:=Rp.unO hv';obtain⟨xs0,x1,x2⟩:=r1.ml ha e2;have sb:=Hd (own:=own) (s.step g1) I
    refine⟨a,rfl,⟨xs0,.inl (.inl x1)⟩,λi n' Y σ' Z=>n'=h.length - i/\i<=h.length/\∃l L G b f,Gr H1 F1 E Z G b/\RlO K mg L Z G b/\SlO K (cMd own.length cap md) (Pt.all H1) l σ' Z G b/\Rps K G b Y f/\f.length<=i /\
     jB n h g t e (h.drop i) l L f=.ok yf OZ,⟨h.length,by simp,Nat.zero_le _,ju own.length cap ρ,O1,F1,E,[],Gr.refl,r1,sb,Rps.nil,zc _,by rw[List.drop_zero];exact e3⟩,?_⟩
    rintro i n' Y σ' Z ⟨rfl,hi,l,L,G,b,f,g',r',s',hy,hl,ec⟩;have ha':=g'.at_ n a ha
    by_cases hlt:i<h.length
    ·rw[List.drop_eq_getElem_cons hlt] at ec;unfold jB at ec;split at ec
     ·rename_i es ee;obtain⟨U,y1,y2⟩:=r'.ml ha' ee
      have hidx:h.length - ((h.drop (i+1)).length+1)=i:=by rw[List.length_drop];omega
      rw[hidx] at ec;split at ec
      ·rename_i d' ed;obtain⟨x,hx,rx⟩:=y2.get' ed;have hsq:SqL K Z a U:=.inl (.inl y1)
       refine .inr ⟨⟨U,x,hsq,hx⟩,?_,λY σ2 H2=>∃ρ2 O3 F2 B u,Gr H1 F1 E H2 F2 B/\RlO K mg O3 H2 F2 B/\SlO K (cMd own.length cap md) (Pt.all H1) ρ2 σ2 H2 F2 B/\Rps K F2 B Y u/\u.length<=i+1 /\
        jB n h g t e (h.drop (i+1)) ρ2 O3 u=.ok yf OZ,λys2 σ2 H2 h2=>⟨h.length - (i+1),by omega,rfl,hlt,h2⟩,λz3 H3 y=>?_⟩
       ·rw[hy.length]
        have:=gn hz
        omega
       obtain⟨T,x2',rfl,hT,rfl,hyy⟩:=y;have hxx:=hyy U hsq;rw[hx] at hxx;cases hxx;obtain⟨F3,g3,r3,rp3⟩:=pQ ⟨_,r'⟩ hT (Rps.cons (Rp.int (i:=(i:Int))) (Rps.cons rx Rps.nil));have r3':=r3 L r';have g13:=g'.trans g3
       cases eg:g (.tup [.int (i:Int),d']) l with
       |none=>rw[eg] at ec;cases ec
       |some ρ1 =>
        rw[eg] at ec;dsimp only at ec;refine⟨_,l,L,F3,b,_,ρ1,r3',s'.step g3,rp3,eg,λσ4 s4=>?_⟩
        cases et:t ρ1 L with
        |ex _ _=>rw[et] at ec;cases ec
        |no=>rw[et] at ec;cases ec
        |ok c O4 =>
         rw[et] at ec;refine⟨_,ρ1,L,F3,b,c,O4,r3',s4,et,λH5 F5 as5 J r5=>?_⟩
         cases c with
         |false =>
          rw[if_neg zp];exact⟨ρ1,O4,F5,as5,f,g13.trans J,r5,s4.step J,(hy.gr g3).gr J,by omega,ec⟩
         |true =>
          rw[if_pos rfl];dsimp only at ec
          cases em:e ρ1 O4 with
          |ex _ _=>rw[em] at ec;cases ec
          |no=>rw[em] at ec;cases ec
          |ok yd O6 =>
           rw[em] at ec;refine⟨_,ρ1,O4,F5,as5,yd,O6,r5,s4.step J,em,λvy H7 F7 as7 g7 r7 hvy=>?_⟩;exact⟨ρ1,O6,F7,as7,f++[yd],(g13.trans J).trans g7,r7,(s4.step J).step g7,(((hy.gr g3).gr J).gr g7).snoc hvy,by rw[zh];show f.length+1<=i+1;omega,ec⟩
      ·cases ec
     ·cases ec
    ·have hi':i=h.length:=by omega
     subst hi';rw[List.drop_length] at ec;unfold jB at ec;split at ec
     ·rename_i es ee;split at ec
      ·rename_i hle;cases ec;obtain⟨U,y1,y2⟩:=r'.ml ha' ee;refine .inl ⟨⟨U,.inl (.inl y1),by rw[y2.length,hle];exact zc _⟩,?_,λp W=>?_⟩
       ·rw[hy.length];exact zH hl (gn hz)
       ·have hF:G p=none:=by
         cases q:G p with
         |none=>rfl
         |some o=>rw[r'.fh p o q] at W;cases W
        exact k _ _ G b ((g1.trans g').trans (Gr.lay W)) (r'.lay W) (.inr ⟨p,Y,yf,rfl,rfl,bW,hF,λz=>r'.all z W,(g1.trans g').dm p W,hy⟩)
      ·cases ec
     ·cases ec
   ·cases eq
  ·cases eq
 ·exact Wm (yh I ⟨ρ,O,F,as,d,OZ,r,s,eq,k⟩)
variable {elts:List Expr}{x1:Nat}{tpos:Pos}{a elt:Expr}{ifs:List Expr}{scope:Scope}{p pos pe:Pos}{m:M D}{g:MG}{t:M Bool}{e:M D}
theorem Wo{i:Nat}{x:Str}{pos' c:Pos}(f:Scope)(h own:List Str)(cap:List Nat)(hN:X.N.Nodup)(hx:X.N[i]?=some x)(hl:Loc X.env.scope x)(hc:X.calm=true)(T:X.mg "enumerate" = none)(hi:WE X md P a m)
  (hg:∀C s H ex P,VG (cP X scope C (bQ h own cap) s H ex) (cMd own.length cap md) P (.Tuple elts x1 tpos) g) (ht:∀C s H ex P,VIf (cP X scope C (bQ h own cap) s H ex) (cMd own.length cap md) P ifs t)
  (he:∀C s H ex P,VE (cP X scope C (bQ h own cap) s H ex) (cMd own.length cap md) P elt e)
  (hm:md[i]?=some .v:=by rfl) (n:∀j∈cap,j<md.length:=by decide) (G:swapsWith (.ListComp elt [⟨.Tuple elts x1 tpos,.Call (.Name "enumerate" p) [a] [] pe,ifs,0⟩] scope pos) (some (.Name x pos')) c.line X.env=pure true:=by rfl)
  (hf:X.fn x=true\/X.env.scope.names.lookup x=some .local:=by first | exact .inl rfl | exact .inr rfl | assumption)
  (hG:Gl X "enumerate":=by rfl) (L:starEach [a] X.env=[(false,eval a X.env)]:=by exact j7 rfl) (J:starEach [a] X.env=(false,eval a X.env)::starEach [] X.env:=by exact cQ rfl)
  (I:X.env.scope=f:=by rfl) (U:X.N=h:=by rfl) (ok:nF f h scope own cap=true:=by decide +kernel) (hs:∀x,foldedSetIterable (.Call (.Name "enumerate" p) [a] [] pe) X.env x=pure x:=by intro _;rfl):
  VS X md P R (.Assign [.Name x pos'] (.ListComp elt [⟨.Tuple elts x1 tpos,.Call (.Name "enumerate" p) [a] [] pe,ifs,0⟩] scope pos) c) (aF i (mF m own.length cap g t e)):=
 (GD (i:=i) f h own cap hN hx hl hc (yw hG T (gm hi iJ J) L) (λC s H ex=>xmg (hg C s H ex)) (λC s H ex=>xmt (ht C s H ex)) (λC s H ex=>xm (he C s H ex)) G hf I U ok hs).imp λD σ H q =>
  xZ hm (λσ H Q z=>Wn n (by
   obtain⟨ρ,O,F,as,d,O',r,s,e,k⟩:=z;refine⟨ρ,_,F,as,_,_,r,s,e,λv Z y l g Y B=>?_⟩
   rcases B with⟨_,B⟩ | ⟨a,W,ds,rfl,rfl,e3,E,e5,e6,e7⟩
   ·exact k v Z y l g Y B
   ·have ff:Same y (upd y a (.lst W)):=λb u q=>by rw[aP (cG q E)];exact q
    exact k _ Z (upd y a (.lst W)) l (g.frz e6 E) (Y.frz e3 E e5 rfl) (Rp.mkL (.inl (.inl bW)) (Rps.mono ff (λ_ _ z=>z) _ e7)))) q
end
section
variable {X:Cx}{md:List Md}{P:Pt}{R:RR}{tg:Expr}
end
structure cN(mg:Str->Option Value):Prop extends Io mg where
 reversed_:mg "reversed" = none
end L2
namespace L2
open PySem PySem.Spec PyProof.Rows PySem.W
def mdI:Option Int->List Int->Option Int
 |b,[]=>b
 |none,n::r=>mdI (some n) r
 |some m,n::r=>mdI (some (if n<m then n else m)) r
def MdV(d v:Value):Option Int->Prop
 |none=>v=d
 |some m=>∃t,v=.int m t
def MdB(bs:Array Value):Option Int->Prop
 |none=>bs = #[]
 |some m=>∃t,bs = #[.int m t,.int m t]
section
variable {prog:Program}{w:World}{A:Around}{E:Value->Shared->Prop}
theorem Wq{a:String}{b:Builtin}{h:List Value}{g:List (Str×Value)}{s:Shared}{Q:Value->Shared->Prop}(m:builtinKind a=none)(l:plainId a=true)(n:entryFor table a=some b)(k:argsOk a ⟨h,g⟩)
  (j:wpAny (model prog w) A.in1 (b ⟨h,g⟩) (λi d=>match i with
   | .done f=>(match(Except.ok f:Result) with | .ok (.ret v)=>Q v d | .ok _=>False | .error e=>E e d)
   | .again c=>c.quiet=true/\codeAny (model prog w) A c (λr d=>match r with | .ok (.ret v)=>Q v d | .ok _=>False | .error e=>E e d) d) E s):
  wpAny (model prog w) A (call (.builtin a) h g) Q E s:=by
 refine wpAny_call (codeAny_call_builtin l n ?_);simp only[checkBuiltinCall,m]
 cases g0:Manifest.signature? a with
 |none=>exact zb j
 |some sg =>
  simp only[argsOk,g0] at k;have z:Bind.checkArgs a sg ⟨h,g⟩=pure ():=k;show wpAny _ A.in1 (Bind.checkArgs a sg ⟨h,g⟩) _ _ s;rw[z];exact zb j
theorem Ws{n m:Int}{t u:Tok}{s:Shared}{Q:Value->Shared->Prop}(q:Q (.bool (decide (n<m))) s):wpAny (model prog w) A (richCompare .Lt (.int n t) (.int m u)) Q E s :=
 CmpOf.ints_lt (A:=A) (P:=λi v=>∃t,v=.int (if i=0 then n else m) t) (λi=>if i=0 then n else m) (λ_ _ z=>z) 0 1 _ _ s Q E ⟨t,rfl⟩ ⟨u,rfl⟩ q
theorem Wt{R:Result->Shared->Prop}{l i0 S:Addr}{its:List Value}{d:Value}(hh:A.in1.handled=none)(n1:l≠i0)(n2:S≠i0)(n3:S≠l):
  ∀(us:List Value) (ns:List Int) (pre:List Value) (b:Option Int) (bs:Array Value) (s:Shared) (c:Nat),its=pre++us->aX (ns.map V.int) us->s.heap.IsListIter i0 l pre.length->s.heap.IsList l its.toArray->MdB bs b ->
   s.heap.get? S=some {cls:=.type "list",dict:=none,data:=.seq bs c,slots:=#[]} ->
   (∀v h' tk,MdV d v (mdI b ns)->(∀x o,x≠i0->x≠S->s.heap.get? x=some o->h'.get? x=some o)->R (.ok (.ret v)) {s with heap:=h',toks:=tk}) ->
   codeAny (model prog w) A (.builtin "min.loop" ⟨[.ref i0,.none,.ref S],[("default",d)]⟩) R s:=by
 have W:=Walks.list (prog:=prog) (w:=w) hh i0 l n1 its.toArray
 have nm:(toString "min" ++ toString ".loop":String) = "min.loop":=by decide
 have nS:S∉[i0]:=λz=>n2 (zk.mp z)
 have X:∀x:Addr,x≠i0->x∉[i0]:=λx z y=>z (zk.mp y)
 intro us
 induction us with
 |nil =>
  intro ns pre b bs s c e Q it Y I J T
  have ens:ns=[]:=by
   cases ns with
   |nil=>rfl
   |cons=>cases Q
  subst ens
  have Z:pre.length=its.toArray.size:=by rw[e];simp
  rw[Z] at it;refine codeAny_builtin PySem.F.entry_min_loop ?_;rw[Around.under_plainId PySem.F.plain_min_loop _];show wpAny _ A.in1 (seqItems? (.ref S) >>= _) _ _ s;refine za (wpAny_seqItems J rfl ?_);show wpAny _ A.in1 (tryCatch (pyNext (.ref i0)) _ >>= _) _ _ s;refine za (wpAny_tryCatch (W.done s _ _ ⟨it,Y⟩ λh1 tk kp=>?_));have h:=kp S _ nS J
  cases b with
  |none =>
   have g:bs = #[]:=I;subst g;show wpAny _ A.in1 (rule _ >>= _) _ _ _;refine za (wpAny_rule ?_);exact zb (T d h1 tk rfl λx o G P q=>kp x o (X x G) q)
  |some m =>
   obtain⟨t,g⟩:=I;subst g;show wpAny _ A.in1 (updateSeq S (λ_=>#[]) >>= _) _ _ _;refine za ?_;refine jj h rfl (za (jk (zb ?_)))
   exact T (.int m t) _ tk ⟨t,rfl⟩ λx o G P q=>(jd _ _ (Ne.symm P)).trans (kp x o (X x G) q)
 |cons u us ih =>
  intro ns pre b bs s c e Q it Y I J T
  cases ns with
  |nil=>cases Q
  |cons n ns =>
   have rv':aX (V.int n::ns.map V.int) (u::us):=Q
   obtain⟨ru,rus⟩:RelV (.int n) u/\aX (ns.map V.int) us:=by
    cases rv' with
    |cons a b=>exact⟨a,b⟩
   obtain⟨i,rfl⟩:=ru
   have Z:pre.length<its.toArray.size:=by rw[e];simp
   have e':its=(pre++[Value.int n i])++us:=by rw[e];simp
   have eg:its.toArray[pre.length]?=some (Value.int n i):=by rw[e];simp
   refine codeAny_builtin PySem.F.entry_min_loop ?_;rw[Around.under_plainId PySem.F.plain_min_loop _];show wpAny _ A.in1 (seqItems? (.ref S) >>= _) _ _ s;refine za (wpAny_seqItems J rfl ?_);show wpAny _ A.in1 (tryCatch (pyNext (.ref i0)) _ >>= _) _ _ s;refine za (wpAny_tryCatch (W.item pre.length s _ _ Z ⟨it,Y⟩ λv h1 tk hv st kp=>?_));rw[eg] at hv;cases hv;have h:=kp S _ nS J
   have B:∀(h2:Heap) (y:Addr) (o:Obj),y≠S->h2.get? y=some o->∀f,(h2.update S f).get? y=some o:=λh2 y o z q f=>(jd _ _ (Ne.symm z)).trans q
   have go:∀(U:Option Int) (k:Array Value) (h2:Heap) (L:Nat) (c2:Nat),MdB k U->mdI U ns=mdI b (n::ns)->h2.get? S=some {cls:=.type "list",dict:=none,data:=.seq k c2,slots:=#[]} ->
     (∀x o,x≠S->h1.get? x=some o->h2.get? x=some o)->codeAny (model prog w) A (.builtin "min.loop" ⟨[.ref i0,.none,.ref S],[("default",d)]⟩) R {s with heap:=h2,toks:=L}:=λU k h2 L c2 q1 q2 q3 q4=>by
    have O:=W.frame _ h1 h2 st λx H o q=>q4 x o (λz=>by
     rcases zm.mp H with rfl | H
     ·exact n2 z.symm
     ·rcases zm.mp H with rfl | H
      ·exact n3 z.symm
      ·cases H) q
    refine ih ns (pre++[Value.int n i]) U k _ c2 e' rus (by rw[zh];exact O.1) O.2 q1 q3 λv h3 tk3 G P=>?_
    exact T v h3 tk3 (q2 ▸ G) λx o y1 y2 q=>P x o y1 y2 (q4 x o y2 (kp x o (X x y1) q))
   cases b with
   |none =>
    have g:bs = #[]:=I;subst g;show wpAny _ A.in1 (updateSeq S (λ_=>#[Value.int n i,Value.int n i]) >>= _) _ _ _;refine za ?_;refine jj h rfl ?_;rw[nm];exact zb ⟨plainId_quiet PySem.F.plain_min_loop _,go (some n) _ _ _ _ ⟨i,rfl⟩ rfl (Heap.get?_update_self _ h rfl) λx o z q=>B _ x o z q _⟩
   |some m =>
    obtain⟨t,g⟩:=I;subst g;show wpAny _ A.in1 (tryCatch (holding [Value.int n i,Value.int n i] (richCompare .Lt (.int n i) (.int m t) >>= _)) _ >>= _) _ _ _;refine za (wpAny_tryCatch (zO (za (Ws ?_))));refine za (zO (wpAny_truthy_bool ?_));refine za (jk (zb ?_))
    by_cases j:n<m
    ·rw[zn j];simp only[if_true];refine za ?_;refine jj h rfl (za (jk ?_));rw[nm];exact zb ⟨plainId_quiet PySem.F.plain_min_loop _,go (some n) _ _ _ _ ⟨i,rfl⟩ (by show _=mdI (some (if n<m then n else m)) ns;rw[if_pos j]) (Heap.get?_update_self _ h rfl) λx o z q=>B _ x o z q _⟩
    ·rw[zf j];simp only[Bool.false_eq_true,if_false];refine za (jk ?_);rw[nm];exact zb ⟨plainId_quiet PySem.F.plain_min_loop _,go (some m) _ _ _ _ ⟨t,rfl⟩ (by show _=mdI (some (if n<m then n else m)) ns;rw[if_neg j]) h λx o z q=>q⟩
end
section
variable {X:Cx}{md:List Md}{P:Pt}{R:RR}
def tsF(n:Nat)(y:D)(O:au):Res D:=match pY y,O[n]? with
 |some k,some (.dt kvs)=>match gY kvs k with
  |some d=>.ok d O
  |none=>.no
 | _,_=>.no
def Iw(mo my:M D):M D:=λρ O=>(mo ρ O).bind λx b=>match x with
 | .ob n=>(my ρ b).bind λy a=>tsF n y a
 | _=>.no
theorem Wu{T:Nat}(hk:bY X.K=true)(Z:bM T X.A){o i:Expr}{pos:Pos}{mo my:M D}(ho:VE X md P o mo)(hi:VE X md P i my)(Y:uF i:=by intro _ _;rfl):VE X md P (.Subscript o i pos) (Iw mo my):=
 (Gw (uH Z) ho hi Y).imp λσ H Q q=>by
  obtain⟨ρ,O,F,as,d,O',r,s,e,k⟩:=q;obtain⟨x,O1,e1,e⟩:=Res.bind_ok e
  cases x with
  |ob n =>
   obtain⟨y,O2,e2,e⟩:=Res.bind_ok e;unfold tsF at e;split at e
   ·rename_i L kvs e3 e4;split at e
    ·rename_i d' c;cases e;refine⟨ρ,_,F,as,_,_,r,s,e1,λx H1 F1 j z J U=>⟨ρ,_,F1,j,_,_,J,s.step z,e2,λu H2 F2 h m g W=>?_⟩⟩;obtain⟨a,rfl,ha⟩:=Rp.unO U;obtain⟨xs,G,E⟩:=g.dt (m.at_ n a ha) e4;obtain⟨b,rfl,hb⟩:=Rp.tkey hk W e3
     rcases E.val (k:=L) with⟨f,l⟩ | ⟨d2,I,f,l,B⟩
     ·rw[f] at c;cases c
     ·rw[f] at c;cases c;refine⟨a,I,rfl,?_,k _ H2 F2 h (z.trans m) g B⟩;rw[<-l];exact j4.t G (g.fh _ _ hb)
    ·cases e
   ·cases e
  | _=>cases e
def vm:List D->Option D
 | [.lst ds]=>(iz ds).map λns=>match mdI none ns with
  |some m=>.int m
  |none=>.non
 | _=>none
theorem Wv(a d:Value):argsOk "min" ⟨[a],[("default",d)]⟩:=by unfold argsOk;kernel_rfl
theorem Ww(k:X.calm=true){pins:List (Addr×Obj)}{s:Shared}{σ:St}{H:Hp}{a:Addr}{ns:List Int}{Q:VK}(I:Inv X pins σ H s)(j:SqL X.K H a (ns.map V.int))(q:Q (match mdI none ns with | some m=>.int m | none=>.non) H):
  wpAny (model X.prog X.w) X.A (call (.builtin "min") [.ref a] [("default",.none)]) (EP X pins σ Q) X.xe s:=by
 obtain⟨its,g,h,_⟩:=I.list j;have f:=h.isList
 have la:a<s.heap.objs.size:=by obtain⟨_,z,_⟩:=f;exact ze z
 refine Wq PySem.F.kind_min PySem.F.plain_min PySem.F.entry_min (Wv _ _) ?_;show wpAny _ X.A.in1 (Builtin.Builtins.bindParams "min" ["key","default"] 0 ⟨[],[("default",.none)]⟩ >>= _) _ _ s;refine za (wpAny_of_eq (show _=pure [none,some Value.none] from rfl) ?_);refine za (zb ?_);refine za (wpAny_pyIter_list f ?_);refine za (wpAny_newObj_type ?_);rw[show(toString "min" ++ toString ".loop":String) = "min.loop" by decide];have sz:(s.heap.push {cls:=.type "list_iterator",data:=.fields #[.ref a,.int 0 0]}).objs.size=s.heap.objs.size+1:=Heap.size_push ..
 refine zb ⟨plainId_quiet PySem.F.plain_min_loop _,Wt (its:=its) (l:=a) (i0:=s.heap.objs.size) (d:=.none) (I.ok.hd k) (zB la) (Nat.ne_of_gt (by rw[sz];exact ja _)) (Nat.ne_of_gt (by rw[sz];exact jf la)) its ns [] none #[] _ 0 rfl g
  ⟨_,zt _ (zF _ rfl),rfl,rfl⟩ ((f.push _).push _) rfl (zF _ rfl) λv h1 tk c kp=>?_⟩
 have i:∀b o,s.heap.get? b=some o->h1.get? b=some o:=λb o z=>kp b o (zB (ze z)) (zB (by rw[sz];exact jf (ze z))) (zt _ (zt _ z))
 refine⟨_,H,I.kept (t':=tk) i,?_,q⟩
 cases e:mdI none ns with
 |none =>
  rw[e] at c;exact c
 |some m =>
  rw[e] at c;exact c
theorem Wx{p pos h g:Pos}{j:Nat}{e:Expr}{m:M D}(B:X.calm=true)(x:X.mg "min" = none)(E:SE X md P e m)(y:Gl X "min":=by rfl)(n:starEach [e] X.env=(false,eval e X.env)::starEach [] X.env:=by exact cQ rfl)(c:(backTo pos (starEach [e] X.env)).any (·.1)=false:=by exact fj rfl)
  (z:backTo pos (starEach [e] X.env)=(false,eval e X.env)::backTo pos (starEach [] X.env):=by rfl):
  OE X md P (.Call (.Name "min" p) [e] [⟨some "default",.Constant .none j h,g⟩] pos) (aL vm (aj m aq)):=by
 intro pins s σ H Q I q;refine wpAny_Call_Name_kw (iY I y x boot_min ?_ (by decide) (by decide));have q':=uU (ms:=[.s]) q;refine callWith_kw (thn ((aG E aC n) pos pins s σ H _ I q') λus s1 ⟨vs,H1,I1,r1,q1⟩=>?_) z c;refine kws_cons (Constant_none (kws_nil ?_));obtain⟨O,F,T,L,d,r,b,e,k⟩:=q1;unfold vm at e;split at e
 ·rename_i G;obtain⟨v,rfl,l⟩:=b.one;obtain⟨a,J,rfl,h1,h2⟩:=l.list r.fh;obtain⟨u,rfl,f⟩:=vals1 r1;cases f
  cases hi:iz G with
  |none=>rw[hi] at e;cases e
  |some ns =>
   rw[hi] at e;cases e;have i:=h2.ints hi;refine Ww B I1 (ns:=ns) (by rw[<-i];exact h1.sq) ?_
   cases em:mdI none ns with
   |none =>
    dsimp only at k;rw[em] at k;exact di r k rfl Rp.non
   |some m =>
    dsimp only at k;rw[em] at k;exact di r k rfl Rp.int
 ·cases e
end
def Itd(lo:Int)(n:Nat):It:=⟨λi _=>i<n,λi H x a=>a=H/\x=.int (lo - i),λi _=>n<=i⟩
def jC(lo:Int)(n:Nat):List D:=(List.range n).map λi:Nat=>.int (lo - i)
theorem Wz{P:Program}{w:World}{K:PySem.W.Frag}{tg:Expr}(it:Addr)(lo:Int)(n:Nat):Turn P w K tg (Itd lo n) [it] it (λi h=>IsRangeIter h it (lo+(i:Nat) * (-1)) ((n:Int) - (i:Nat)) (-1)) where
 mem:=by simp
 obj:=λi h st b hb=>by
  have e:b=it:=by simpa using hb
  subst e
  exact⟨_,st,λv z=>by
   have z':Data.fields _=Data.cell v:=z
   cases z'⟩
 keep:=λi h h' st k=>k it (by simp) _ st
 item:=by
  intro X hP hw hK hc i pins s σ H E I hf st hg;subst hP hw hK;obtain⟨f0,f1,f2,f3,f4,f5⟩:=hf it (by simp);have W:=Walks.range (prog:=X.prog) (w:=X.w) (I.ok.hd hc) it lo (-1) n
  refine W.item i s _ _ hg st λv h' tk hv st' kk=>?_
  obtain⟨t,rfl⟩:=hv;have I1:Inv X pins σ H {s with heap:=h',toks:=tk}:=I.turned (λb o hb e=>kk b o (by simpa using hb) e) f0 f1 f3 f4 f5;refine⟨_,rfl,ph (s:={s with heap:=h',toks:=tk}) (n:="range_iterator") st' rfl rfl (by decide) ⟨.int (lo - i),H,I1,⟨t,?_⟩,⟨rfl,rfl⟩,st',λb hb=>(hf b hb).1⟩⟩;rw[show lo+(i:Int) * (-1)=lo - i by omega]
 done:=by
  intro X hP hw hK hc i pins s σ H E I hf st hg;subst hP hw hK;obtain⟨f0,f1,f2,f3,f4,f5⟩:=hf it (by simp)
  exact wpAny_pyNext_range_end (I.ok.hd hc) st (by have:n<=i:=hg;omega) λh' eb=>⟨rfl,I.turned (t':=s.toks) (λb o hb e=>eb b o hb e) f0 f1 f3 f4 f5⟩
 self:=λ_ _ _ _ _ st h=>wpAny_pyIter_rangeiter st h
section
variable {X:Cx}{tg:Expr}{md:List Md}{P:Pt}
theorem Iz(a b:Int):Builtin.Range.rangeSize a b (-1)=if a>b then a - b else 0:=by
 unfold Builtin.Range.rangeSize;rw[if_neg (by decide)]
 split
 ·rw[show(-(-1:Int))=1 by decide,Int.ediv_one];omega
 ·rfl
theorem small_down{a b:Int}(f:-(2 ^ 62)<=a)(d:a<2 ^ 62)(hb:-(2 ^ 62)<=b)(c:b<2 ^ 62):Builtin.Range.small a b (-1)=true:=by
 unfold Builtin.Range.small;rw[Iz];simp only[Builtin.Range.rangeFitsLong,zu,Bool.or_eq_true,decide_eq_true_eq,beq_iff_eq,show ¬((-1:Int)>0) by decide,if_false]
 split<;>omega
def WD(b:TA):TI:=λσ H R=>b σ H λa c=>∃i j:Int,a=[.int i,.int j,.int (-1)]/\(-(2 ^ 62)<=i/\i<2 ^ 62/\-(2 ^ 62)<=j/\j<2 ^ 62)/\R (Itd i (i - j).toNat) c
theorem WK{a b c:Expr}{f:TA}{p pos:Pos}(j:Gl X "range")(i:X.mg "range" = none)(l:PA X [a,b,c] f)(g:starEach [a,b,c] X.env=[(false,eval a X.env),(false,eval b X.env),(false,eval c X.env)]:=by rfl)(d:starEach [b,c] X.env=[(false,eval b X.env),(false,eval c X.env)]:=by rfl):
  PI X tg (.Call (.Name "range" p) [a,b,c] [] pos) (WD f):=by
 intro pins s σ H R I h;refine Call_ (iY I j i boot_range (PyProof.Rows.callWith_type1 (thn (l pos pins s σ H _ I h) λus s1 ⟨vs,H1,I1,r1,q1⟩=>?_) (by rw[g,d]) (by rw[d];rfl)));obtain⟨lo,hi,e,⟨h1,h2,h3,h4⟩,q⟩:=q1;subst e
 cases r1 with
 |cons r rr =>
  cases rr with
  |cons r' rr =>
   cases rr with
   |cons r'' rr =>
    cases rr;obtain⟨t,rfl⟩:=r;obtain⟨u,rfl⟩:=r';obtain⟨v,rfl⟩:=r'';refine call_range_3 (by decide) ?_ (Or.inl (PyProof.noPylong_small (by omega)));refine wpAny_pyIter_range (IsRange.new ..) (small_down h1 h2 h3 h4) ?_
    have J:Inv X pins σ H1 {s1 with heap:=s1.heap.push {cls:=.type "range",data:=.fields #[.int lo t,.int hi u,.int (-1) v]},toks:=s1.toks}:=I1.kept λb o e=>zt _ e
    refine⟨(s1.heap.push {cls:=.type "range",data:=.fields #[.int lo t,.int hi u,.int (-1) v]}).objs.size,[(s1.heap.push {cls:=.type "range",data:=.fields #[.int lo t,.int hi u,.int (-1) v]}).objs.size],_,_,H1,rfl,
     J.kept (t':=s1.toks) λb o e=>zt _ e,Wz _ lo (lo - hi).toNat,?_,λb k=>?_,q⟩
    ·have n:lo+((0:Nat):Int) * (-1)=lo:=by simp
     have m:(((lo - hi).toNat:Nat):Int) - ((0:Nat):Int)=Builtin.Range.rangeSize lo hi (-1):=by rw[Iz];split<;>omega
     show IsRangeIter _ _ (lo+((0:Nat):Int) * (-1)) ((((lo - hi).toNat:Nat):Int) - ((0:Nat):Int)) (-1);rw[n,m];exact zF _ rfl
    ·have e:b=(s1.heap.push {cls:=.type "range",data:=.fields #[.int lo t,.int hi u,.int (-1) v]}).objs.size:=by simpa using k
     subst e;exact J.fpOk (zc _) (J.hok.fresh (zc _))
theorem WL{K:Frag}{mg:Str->Option Value}{lo:Int}{n:Nat}{H F:Hp}{b:List Addr}:lX K mg P (Itd lo n) (jC lo n) H F b:=yz (λi d c e=>by
 unfold jC at e;rw[zq] at e
 by_cases hi:i<n
 ·rw[List.getElem?_range hi] at e;cases e;refine⟨hi,λx f y=>?_⟩;obtain⟨a,rfl⟩:=y;exact⟨a,λ_ _ _=>Rp.int⟩
 ·rw[zV (by simpa using hi)] at e
  cases e) λc=>by simp[jC,Itd]
def vo(m:M (List D)):M (List D):=λρ O=>(m ρ O).bind λa b=>match a with
 | [.int i,.int j,.int c]=>if c = -1/\i<=1000000000/\-1000000000<=i/\j<=1000000000/\-1000000000<=j then .ok (jC i (i - j).toNat) b else .no
 | _=>.no
theorem dI.three{K:Frag}{H F:Hp}{a:List Addr}{g c b:Md}{vs:List V}{d e f:D}(h:dI K H F a [g,c,b] vs [d,e,f]):∃v u z,vs=[v,u,z]/\rA K g (λ_=>True) H F a v d/\rA K c (λ_=>True) H F a u e/\rA K b (λ_=>True) H F a z f:=by
 cases vs with
 |nil=>exact h.elim
 |cons v vs =>
  obtain⟨h1,h2⟩:=h;obtain⟨u,z,rfl,h3,h4⟩:=dI.two h2;exact⟨v,u,z,rfl,h1,h3,h4⟩
theorem WM{a b c:Expr}{p pos:Pos}{m:M (List D)}(E:X.mg "range" = none)(I:AE X md P [.s,.s,.s] [a,b,c] m)(G:Gl X "range":=by rfl)(B:starEach [a,b,c] X.env=[(false,eval a X.env),(false,eval b X.env),(false,eval c X.env)]:=by rfl)(f:starEach [b,c] X.env=[(false,eval b X.env),(false,eval c X.env)]:=by rfl):
  VI X md P tg (.Call (.Name "range" p) [a,b,c] [] pos) (vo m):=(WK G E I B f).imp λσ H Q q=>by
 obtain⟨ρ,O,F,W,ds,O',r,s,e,k⟩:=q;obtain⟨es,O1,U,e⟩:=Res.bind_ok e;split at e
 ·rename_i i j c;split at e
  ·rename_i h;cases e;obtain⟨rfl,h⟩:=h;refine⟨ρ,_,F,W,_,_,r,s,U,λvs Y Z g J l x=>?_⟩;obtain⟨v,u,z,rfl,d,y,n⟩:=x.three;have T:=(Sv.rp d rfl).unI;have R:=(Sv.rp y rfl).unI;have L:=(Sv.rp n rfl).unI;subst T R L;exact⟨i,j,rfl,⟨by omega,by omega,by omega,by omega⟩,k _ Y Z g J l WL⟩
  ·cases e
 ·cases e
end
section
variable {X:Cx}{pins:List (Addr×Obj)}{σ:List (Option V)}{H:Hp}{s:Shared}{a:Addr}{xs:List (List Key×V)}{o:Obj}
theorem Inv.reword{u:HO}(I:Inv X pins σ H s)(ha:H a≠none)(hn:∀ys,H a≠some (.tup ys))(ho:∀y,H a≠some (.own y))(hb:∀ps,H a≠some (.tbl ps))(hf:∀o u,X.H₀ a≠some (.frz o u))(new:cW X.prog X.w (upd H a u) s.heap a u):Inv X pins σ (upd H a u) s where
 ok:=I.ok
 os:=I.os
 bare:=I.bare
 base:={
  keep:=I.base.keep
  slot:=I.base.slot
  free:=λb o' q n hx=>by
   have z:=I.base.free b o' q n hx;rw[aP (by intro e;have w:=z;rw[e] at w;exact ha w)];exact z
  there:=I.base.there
  tups:=λb ys q=>by
   have z:=I.base.tups b ys q;rw[aP (by intro e;have w:=z;rw[e] at w;exact hn ys w)];exact z
  frzs:=λb o' u' q=>by
   have z:=I.base.frzs b o' u' q;rw[aP (by intro e;have w:=q;rw[e] at w;exact hf o' u' w)];exact z
  tbls:=λb ps q=>by
   obtain⟨m,z⟩:=I.base.tbls b ps q
   exact⟨m,by rw[aP (by intro e;have w:=z;rw[e] at w;exact hb _ w)];exact z⟩}
 loc:=I.loc
 cell:=I.cell
 free:=by rw[aP (by intro e;have w:=I.free;rw[e] at w;exact ha w)];exact I.free
 freeC:=λx c q=>by rw[aP (by intro e;have w:=I.freeC x c q;rw[e] at w;exact ha w)];exact I.freeC x c q
 pin:=λp hp=>by
  obtain⟨h1,h2,h3,h4,h5⟩:=I.pin p hp;exact⟨h1,by rw[aP (by intro e;have w:=h2;rw[e] at w;exact ha w)];exact h2,h3,h4,h5⟩
 hok:=λb u' q=>by
  by_cases e:b=a
  ·subst e;rw[bW] at q;cases q;exact new
  ·rw[aP e] at q
   exact(I.hok b u' q).stay (λ_ _ _ z=>z) (λc z=>by rw[aP (by intro e;have w:=z;rw[e] at w;exact ho b w)];exact z) λc ys z=>by rw[aP (by intro e;have w:=z;rw[e] at w;exact hn ys w)];exact z
 len:=I.len
theorem Inv.base0(I:Inv X pins σ H s)(e:H a=some (.dT xs)):∀o u,X.H₀ a≠some (.frz o u):=λo u z=>by
 have:=I.base.frzs a o u z
 rw[e] at this;cases this
theorem Inv.freeze(I:Inv X pins σ H s)(e:H a=some (.dT xs)):∃o,s.heap.get? a=some o/\Inv X pins σ (upd H a (.frz o (.dT xs))) s:=by
 have b:=I.hok a _ e
 obtain⟨o,d⟩:∃u,s.heap.get? a=some u:=by
  obtain⟨_,_,_,_,_,_,_,z,_⟩:=b;exact⟨_,z⟩
 refine⟨o,d,I.reword (by rw[e];exact λz=>nomatch z) (by rw[e];exact λ_ z=>nomatch z) (by rw[e];exact λ_ z=>nomatch z) (by rw[e];exact λ_ z=>nomatch z) (I.base0 e) ⟨d,?_⟩⟩
 exact cW.stay b (λ_ _ _ z=>z) (λc z=>by rw[aP (λq=>by rw[q,e] at z;cases z)];exact z) λc f z=>by rw[aP (λq=>by rw[q,e] at z;cases z)];exact z
theorem Inv.thaw(I:Inv X pins σ H s)(e:H a=some (.frz o (.dT xs)))(d:∀o u,X.H₀ a≠some (.frz o u)):Inv X pins σ (upd H a (.dT xs)) s:=by
 obtain⟨g,b⟩:=(show cW X.prog X.w H s.heap a (.frz o (.dT xs)) from I.hok a _ e);refine I.reword (by rw[e];exact λz=>nomatch z) (by rw[e];exact λ_ z=>nomatch z) (by rw[e];exact λ_ z=>nomatch z) (by rw[e];exact λ_ z=>nomatch z) d ?_
 exact cW.stay b (λ_ _ _ z=>z) (λc z=>by rw[aP (λq=>by rw[q,e] at z;cases z)];exact z) λc f z=>by rw[aP (λq=>by rw[q,e] at z;cases z)];exact z
end
section
variable {prog:Program}{w:World}{A:Around}{E:Value->Shared->Prop}{s:Shared}
theorem WN{d:Addr}{o:Obj}{c:Array DictEntry}{f:Nat}{Q:Value->Shared->Prop}(hd:(d == sysModules)=false)(b:s.heap.get? d=some o)(g:o.ExactDict)(a:o.data=.dict c f)
  (h:Q (.ref s.heap.objs.size) {s with heap:=s.heap.push {cls:=.type "dict_keyiterator",data:=.fields #[.ref d,.int 0 0,.int c.size 0,.int f 0]}}):
  wpAny (model prog w) A (pyIter (.ref d)) Q E s:=by
 have hT:s.TypeIs (.ref d) "dict":=⟨o,b,g.1⟩;refine wpAny_pyIter_slot hT PySem.F.slot_dict_iter (wpAny_call_entry PySem.F.slot_dict_iter hT PySem.F.entry_dict_iter ?_ (PySem.F.args_dict_iter_1 _));unfold Builtin.«dict.__iter__»;refine za ?_;unfold Builtin.Dict.dictSlotNone;refine za (wpAny_notOrdered_dict hT ?_);show wpAny _ _ (pure (Value.ref d)) _ _ s;refine zb ?_;show wpAny _ _ (Builtin.Dict.showsAll d >>= _) _ _ s;unfold Builtin.Dict.showsAll;rw[if_neg (by rw[hd];exact zp)];refine za (zb ?_);refine za (wpAny_dictEntries b a ?_);refine za (wpAny_dictEpoch b a ?_);refine za (wpAny_newObj_type (zb ⟨_,rfl,"dict_keyiterator",_,⟨_,zF _ rfl,rfl⟩,PySem.F.slot_dict_keyiterator_next.lookup,?_⟩))
 simpa [rawInt] using h
theorem WQ{it d:Addr}{i n h:Nat}{l:Obj}{b:Array DictEntry}{Q:Option Value->Shared->Prop}(a:s.heap.IsKeyIter it d i n h)(c:s.heap.get? d=some l)(f:l.data=.dict b h)(hsz:b.size=n)(k:i<n)
  (u:∀h',h'.IsKeyIter it d (i+1) n h->Heap.SameBut it s.heap h'->Q (some (b[i]'(by omega)).key) {s with heap:=h'}):
  wpAny (model prog w) A (pyNext (.ref it)) Q E s:=by
 obtain⟨o,j,m,hd⟩:=id a;unfold pyNext
 refine za (wpAny_attempt (wpAny_callSpecial?_slot (name:=Str.ofString "__next__") a.typeIs PySem.F.slot_dict_keyiterator_next
  (wpAny_call_entry PySem.F.slot_dict_keyiterator_next a.typeIs PySem.F.entry_dict_keyiterator_next ?_ (PySem.F.args_dict_keyiterator_next_1 _))))
 refine za (zb ?_);refine za ?_;refine za ?_
 first | refine za (wpAny_typeNameOfWhole_keyiter a.typeIs (zb ?_)) | refine za (wpAny_typeNameOf_keyiter a.typeIs (zb ?_))
 refine za (wpAny_fieldsOf j hd ?_)
 have g:Builtin.Dict_items.ownsTuple "dict_keyiterator" = false:=by decide
 simp only[g,Bool.false_eq_true,if_false];show wpAny _ _ (if(Value.ref d == Value.none)=true then _ else _) _ _ s;rw[if_neg (show ¬((Value.ref d == Value.none)=true) from zp)];refine za (zb ?_);refine za (wpAny_dictEntries c f ?_);rw[if_neg (by rw[hsz];simp)];refine za (zb ?_);refine za (wpAny_dictEpoch c f ?_);rw[if_neg (by simp)];refine zb ?_
 have hlt':i<b.size:=by rw[hsz];exact k
 simp only[show ¬((i:Int)<0) from by omega,if_false,Int.toNat_natCast,Array.getElem?_eq_getElem hlt'];refine za ?_
 first | refine za (wpAny_typeNameOfWhole_keyiter a.typeIs (zb ?_)) | refine za (wpAny_typeNameOf_keyiter a.typeIs (zb ?_))
 refine za (wpAny_isOneOf_keyiter a.typeIs ?_);show wpAny _ _ (setField (.ref it) 1 (rawInt ((i:Int)+1)) >>= _) _ _ s;refine za (wpAny_setField j hd (by simp) ?_);have hit':(s.heap.update it (Obj.mapFields (·.setIfInBounds 1 (rawInt ((i:Int)+1))))).IsKeyIter it d (i+1) n h :=
  ⟨_,Heap.get?_update_self _ j (Obj.isFreed_of_fields (Obj.data_mapFields hd _)),(Obj.cls_mapFields ..).trans m,by rw[Obj.data_mapFields hd];simp[rawInt]⟩
 refine za (zO ?_);refine za (wpAny_isOneOf_keyiter (s:={s with heap:=s.heap.update it (Obj.mapFields (·.setIfInBounds 1 (rawInt ((i:Int)+1))))}) hit'.typeIs ?_);show wpAny _ _ (pure b[i].key) _ _ _;exact zb (zb ⟨_,rfl,zb (u _ hit' (Heap.SameBut.update ..))⟩)
theorem WR{it d:Addr}{i n x:Nat}{l:Obj}{j:Array DictEntry}{Q:Option Value->Shared->Prop}(y:A.handled=none)(c:s.heap.IsKeyIter it d i n x)(f:s.heap.get? d=some l)(g:l.data=.dict j x)(hsz:j.size=n)(k:n<=i)
  (z:∀h',Heap.ExtBut it s.heap h'->Q none {s with heap:=h'}):wpAny (model prog w) A (pyNext (.ref it)) Q E s:=by
 obtain⟨o,u,B,hd⟩:=id c;unfold pyNext
 refine za (wpAny_attempt (wpAny_callSpecial?_slot (name:=Str.ofString "__next__") c.typeIs PySem.F.slot_dict_keyiterator_next
  (wpAny_call_entry PySem.F.slot_dict_keyiterator_next c.typeIs PySem.F.entry_dict_keyiterator_next ?_ (PySem.F.args_dict_keyiterator_next_1 _))))
 refine za (zb ?_);refine za ?_;refine za ?_
 first | refine za (wpAny_typeNameOfWhole_keyiter c.typeIs (zb ?_)) | refine za (wpAny_typeNameOf_keyiter c.typeIs (zb ?_))
 refine za (wpAny_fieldsOf u hd ?_)
 have h:Builtin.Dict_items.ownsTuple "dict_keyiterator" = false:=by decide
 simp only[h,Bool.false_eq_true,if_false];show wpAny _ _ (if(Value.ref d == Value.none)=true then _ else _) _ _ s;rw[if_neg (show ¬((Value.ref d == Value.none)=true) from zp)];refine za (zb ?_);refine za (wpAny_dictEntries f g ?_);rw[if_neg (by rw[hsz];simp)];refine za (zb ?_);refine za (wpAny_dictEpoch f g ?_);rw[if_neg (by simp)];refine zb ?_
 have hge':j.size<=i:=by rw[hsz];exact k
 simp only[show ¬((i:Int)<0) from by omega,if_false,Int.toNat_natCast,Array.getElem?_eq_none hge'];refine za ?_
 first | refine za (wpAny_typeNameOfWhole_keyiter c.typeIs (zb ?_)) | refine za (wpAny_typeNameOf_keyiter c.typeIs (zb ?_))
 show wpAny _ _ (setField (.ref it) 0 .none >>= _) _ _ s;refine za (wpAny_setField u hd (by simp) ?_);show wpAny _ _ (newExc (.type "StopIteration") [] >>= _) _ _ _;refine za ?_;simp only[newExc,newTuple];refine za (wpAny_newObj_type ?_ (by size_fits));refine za (m:=firstArgMember _ _) (wpAny_of_eq (a:=Value.none) (by first | rfl | (simp only[firstArgMember];rfl)) ?_);refine wpAny_newObj_type ?_ (by size_fits);simp only[raiseNew];refine za (wpAny_handled ?_);rw[show A.in1.handled=none from y];refine za (zb (wpAny_throw ?_));refine za (wpAny_isInstance (T:="StopIteration") (b:=true) ⟨_,zF _ rfl,rfl⟩ isSubtype_stop ?_)
 exact zb (z _ (((Heap.SameBut.update ..).extBut.push _).push _))
end
def Itq(a:Addr)(o:Obj):It :=
 ⟨λi H=>∃c:List (List Key×V),H a=some (.frz o (.dT c))/\i<c.length,
  λi H x d=>d=H/\∀c:List (List Key×V),H a=some (.frz o (.dT c))->∃b p,x=.ref b/\c[i]?=some p/\H b=some (.tup (p.1.map kV)),
  λi H=>∃c:List (List Key×V),H a=some (.frz o (.dT c))/\c.length<=i⟩
theorem WT{α β:Type}{R:α->β->Prop}{l:List α}{m:List β}(h:Paired R l m):∀{i:Nat}{x:α}{y:β},l[i]?=some x->m[i]?=some y->R x y:=by
 induction h with
 |nil=>intro i x y h;cases h
 |cons a b ih =>
  intro i x y h1 h2
  cases i with
  |zero=>cases h1;cases h2;exact a
  |succ i=>exact ih h1 h2
theorem yJ{X:Cx}{pins:List (Addr×Obj)}{σ:St}{H:Hp}{s:Shared}{a:Addr}{o:Obj}{d:List (List Key×V)}(I:Inv X pins σ H s)(e:H a=some (.frz o (.dT d))):
  s.heap.get? a=some o/\(a == sysModules)=false/\o.ExactDict/\∃c j,o.data=.dict c j/\c.size=d.length/\∀(i:Nat) (h:i<c.size),∃b p,c[i].key=.ref b/\d[i]?=some p/\H b=some (.tup (p.1.map kV)):=by
 obtain⟨h1,z,y,f,r,u,c,j,h2,h3,h4,m,E⟩:=(show cW X.prog X.w H s.heap a (.frz o (.dT d)) from I.hok a _ e);rw[h1] at h2;cases h2
 have B:c.size=f.length:=by rw[<-Array.length_toList,m,zd]
 have x:d.length=f.length:=r.length;refine⟨h1,y,h3,c,j,h4,by omega,λi hi=>?_⟩
 have l:i<f.length:=by omega
 have k:i<d.length:=by omega
 have g:c.toList[i]?=some (entryOfKey (tupleKind (fZ X.prog X.w)) f[i]):=by rw[m,zq,zj l];rfl
 rw[Array.getElem?_toList,Array.getElem?_eq_getElem hi] at g;have n:=WT r (zj k) (zj l);refine⟨f[i].2.1,d[i],?_,zj k,n.2.1⟩
 injection g with g
 rw[g];rfl
theorem WW{P:Program}{w:World}{K:Frag}{tg:Expr}(a it:Addr)(o:Obj)(es:Array DictEntry)(ep:Nat)(hd:o.data=.dict es ep):Turn P w K tg (Itq a o) [it] it (λi h=>h.IsKeyIter it a i es.size ep) where
 mem:=by simp
 obj:=λi h st b hb=>by
  have e:b=it:=by simpa using hb
  subst e;obtain⟨o,e,c,d⟩:=st;exact⟨o,e,λv z=>by rw[d] at z;cases z⟩
 keep:=λi h h' st k=>st.at λo e=>k it (by simp) o e
 item:=by
  intro X hP hw hK hc i pins s σ H E I hf st hg;subst hP hw hK;obtain⟨ys,hq,hlt⟩:=hg;obtain⟨q1,q2,q3,es',ep',q4,q5,q6⟩:=yJ I hq;rw[hd] at q4;cases q4;obtain⟨f0,f1,f2,f3,f4,f5⟩:=hf it (by simp)
  have hi:i<es.size:=by omega
  refine WQ st q1 hd rfl hi λh' st' sb=>?_
  have I1:Inv X pins σ H {s with heap:=h'}:=I.turned (t':=s.toks) (λb o hb e=>(sb.2 b hb).trans e) f0 f1 f3 f4 f5;obtain⟨b,p,k1,k2,k3⟩:=q6 i hi;rw[k1];obtain⟨o2,e,c,d⟩:=id st';refine⟨_,rfl,ph (s:={s with heap:=h'}) e c d (by decide) ⟨.ref b,H,I1,rfl,⟨rfl,λzs hz=>?_⟩,st',λb hb=>(hf b hb).1⟩⟩;rw[hq] at hz;cases hz;exact⟨b,p,rfl,k2,k3⟩
 done:=by
  intro X hP hw hK hc i pins s σ H E I hf st hg;subst hP hw hK;obtain⟨ys,hq,hge⟩:=hg;obtain⟨q1,q2,q3,es',ep',q4,q5,q6⟩:=yJ I hq;rw[hd] at q4;cases q4;obtain⟨f0,f1,f2,f3,f4,f5⟩:=hf it (by simp)
  exact WR (I.ok.hd hc) st q1 hd rfl (by omega) λh' eb=>⟨rfl,I.turned (t':=s.toks) (λb o hb e=>eb b o hb e) f0 f1 f3 f4 f5⟩
 self:=λ_ _ _ _ _ st h=>wpAny_pyIter_keyiter st h
def WX(tl:TE):TI:=λσ H R=>tl σ H λx c=>∃a b,x=.ref a/\c a=some (.dT b)/\∀o,R (Itq a o) (upd c a (.frz o (.dT b)))
theorem WY{X:Cx}{i l:Expr}{tl:TE}(n:PE X l tl):PI X i l (WX tl):=by
 intro pins s σ H R I h
 refine thn (n pins s σ H _ I h) λv s1 ⟨x,H1,I1,r1,d⟩=>?_
 obtain⟨a,g,e,m,q⟩:=d;subst e;cases r1;obtain⟨o,F,c⟩:=I1.freeze m;obtain⟨d,k,j,y,z,f,E,B⟩:=yJ c bW;refine WN k d j f ?_;refine⟨s1.heap.objs.size,[s1.heap.objs.size],_,_,upd H1 a (.frz o (.dT g)),rfl,c.kept (t':=s1.toks) λb o e=>zt _ e,WW a _ o y z f,⟨_,zF _ rfl,rfl,rfl⟩,λb u=>?_,q o⟩
 have e:b=s1.heap.objs.size:=by simpa using u
 subst e;exact c.fpOk (zc _) (c.hok.fresh (zc _))
section
variable {K:Frag}{mg:Str->Option Value}{O:au}{H F:Hp}{as:List Addr}
theorem Gr.tupF{b:Addr}{xs:List V}(hb:H b=some (.tup xs))(c:F b=none):Gr H F as H (upd F b (.tup xs)) as :=
 ⟨λa o e _ hd=>aP (λz=>by rw[z,hb] at e;cases e;cases hd),λa u e=>by rw[aP (cG e c)];exact e,⟨[],by simp,λ_ h=>nomatch h⟩,λ_ _ h _ _=>h,λ_ h=>h,λ_ _ _ h=>h⟩
theorem RlO.noT{b:Addr}{xs:List V}(r:RlO K mg O H F as)(hb:H b=some (.tup xs)):b∉as:=λf=>by
 obtain⟨n,d,e⟩:=List.mem_iff_getElem.mp f
 have g:n<O.length:=by rw[<-r.len];exact d
 have q:=r.ob n b O[n] (by rw[zj d,e]) (zj g)
 revert q
 cases O[n] with
 |ins c fs=>rintro⟨C,i,h,_,h2,_⟩;rw[hb] at h2;cases h2
 |ml j=>rintro⟨xs,h1,_⟩;rw[hb] at h1;cases h1
 |dt a=>rintro⟨xs,h1,_⟩;rw[hb] at h1;cases h1
 |df a=>rintro⟨o,xs,h1,_⟩;rw[hb] at h1;cases h1
theorem yK:∀ks:List Key,Rps K F as (ks.map kV) (ks.map uQ)
 | []=>Rps.nil
 | .inl i::ks=>Rps.cons (show Rp K F as (.int i) (.int i) from rfl) (yK ks)
 | .inr x::ks=>Rps.cons (show Rp K F as (.str x) (.str x.cps.toList) from by
   show V.str x=V.str (S x.cps.toList)
   rw[show S x.cps.toList=x by cases x;simp[S]]) (yK ks)
theorem RlO.df{n:Nat}{a:Addr}{b:List (List Key×D)}(r:RlO K mg O H F as)(c:as[n]?=some a)(d:O[n]?=some (.df b)):∃o xs,H a=some (.frz o (.dT xs))/\DtR K F as xs b:=let ⟨o,xs,h1,h2,h3⟩:=r.ob n a _ c d;⟨o,xs,h1,h2,h3⟩
end
section
variable {X:Cx}{md:List Md}{P:Pt}{R:RR}
def yL(p:List Key×D):D:=.tup (p.1.map uQ)
def p6(m:M D):M (List D):=λρ O=>(m ρ O).bind λd a=>match d with
 | .ob n=>match a[n]? with
  |some (.dt kvs)=>.ok (kvs.map yL) (a.set n (.df kvs))
  | _=>.no
 | _=>.no
theorem W0{W e:Expr}{m:M D}(h:VE X md P e m):VI X md P W e (p6 m):=(WY h).imp λσ H Q q=>by
 obtain⟨ρ,O,F,as,ds,O',r,s,e,k⟩:=q;obtain⟨d,O1,e1,e⟩:=Res.bind_ok e;split at e
 ·rename_i n;split at e
  ·rename_i c e2;cases e;refine⟨ρ,_,F,as,_,_,r,s,e1,λv H1 F1 J g1 U hv=>?_⟩;obtain⟨a,rfl,B⟩:=Rp.unO hv;obtain⟨xs,L,f⟩:=U.dt B e2;refine⟨a,xs,rfl,L,λo=>k (Itq a o) (upd H1 a (.frz o (.dT xs))) F1 J (g1.trans (u9 (zD B) L)) (U.mutG B ⟨o,xs,bW,f.1,f.2⟩) ⟨λi d H2 g l E T hd=>?_,λH2 g l E T=>?_⟩⟩
   ·have hz:=E.kz a o _ bW
    have hi:i<c.length:=by have:=(zg.mp hd).1;rwa [zd] at this
    have hi':i<xs.length:=by rw[f.len];exact hi
    refine⟨⟨xs,hz,hi'⟩,λx H3 y=>?_⟩;obtain⟨rfl,Y⟩:=y;obtain⟨b,p,rfl,Z,z⟩:=Y xs hz
    have hk:p.1=c[i].1:=by
     have h1:(xs.map (·.1))[i]?=some p.1:=by rw[zq,Z];rfl
     rw[f.1,zq,zj hi] at h1
     injection h1 with h1
     exact h1.symm
    rw[zq,zj hi] at hd
    injection hd with hd
    subst hd
    have j:∀G:Hp,G b=some (.tup (p.1.map kV))->Rp X.K G l (.ref b) (yL c[i]):=λG h3=>⟨b,_,rfl,.inl h3,by rw[<-hk];exact yK p.1⟩
    cases hF:g b with
    |some u =>
     obtain⟨O2,I⟩:=T
     have:=I.fh b u hF
     rw[z] at this;cases this;exact⟨g,Gr.refl,λ_ r=>r,j g hF⟩
    |none=>exact⟨upd g b (.tup (p.1.map kV)),Gr.tupF z hF,λ_ r=>r.frz z hF (r.noT z) rfl,j _ bW⟩
   ·exact⟨xs,E.kz a o _ bW,by rw[zd,f.len];exact zc _⟩
  ·cases e
 ·cases e
end
def p7(i:Nat)(ms:MS):MS:=λρ O=>match ρ[i]? with
 |some (some (.ob n))=>match O[n]? with
  |some (.dt _)=>match ms ρ O with
   | .nx ρ2 O2=>match O2[n]? with
    |some (.df kvs)=>.nx ρ2 (O2.set n (.dt kvs))
    | _=>.no
   | _=>.no
  | _=>.no
 | _=>.no
section
variable {K:Frag}{mg:Str->Option Value}{md:List Md}{P:Pt}{ρ:aA}{σ:St}{O:au}{H F H' F':Hp}{as as':List Addr}
theorem jq.reH{m:Md}{v:V}{d:D}{a:Addr}{h:HO}(q:jq P K H F as m v d)(u:a∈as):jq P K (upd H a h) F as m v d:=by
 cases m with
 |v=>exact q
 |s =>
  rcases q with q | ⟨c,f,n,l,k,j,b,i,g⟩
  ·exact .inl q
  ·exact .inr ⟨c,f,n,l,k,by rw[aP (λz=>b (by rw[z];exact u))];exact j,b,i,g⟩
 |o =>
  rcases q with⟨h1,q⟩ | ⟨c,f,n,l,k,j,x,b,i,g⟩
  ·exact .inl ⟨h1,q⟩
  ·exact .inr ⟨c,f,n,l,k,by rw[aP (λz=>b (by rw[z];exact u))];exact j,x,b,i,g⟩
theorem SlO.reH{a:Addr}{h:HO}(s:SlO K md P ρ σ H F as)(b:a∈as):SlO K md P ρ σ (upd H a h) F as :=
 ⟨s.len,s.len',λc p z=>s.pd c p (by
  by_cases e:c=a
  ·rw[e,bW] at z;cases z
  ·rwa [aP e] at z),λi m d g f=>let ⟨v,q,r⟩:=s.sl i m d g f;⟨v,q,r.reH b⟩,s.inj,s.pin⟩
theorem SlO.obAt{i n:Nat}(s:SlO K md P ρ σ H F as)(e:ρ[i]?=some (some (.ob n))):∃a,as[n]?=some a:=by
 have hi:i<md.length:=by rw[<-s.len'];exact(zg.mp e).1
 obtain⟨v,_,q⟩:=s.sl i _ _ (zj hi) e
 have b:Rp K F as v (.ob n):=by
  revert q
  cases md[i] with
  |v=>exact λq=>q
  |s =>
   rintro(q | ⟨a,xs,ds,_,z,_⟩)
   ·exact q
   ·cases z
  |o =>
   rintro(⟨_,q⟩ | ⟨a,xs,ds,_,z,_⟩)
   ·exact q
   ·cases z
 obtain⟨a,_,c⟩:=Rp.unO b;exact⟨a,c⟩
theorem GrS.reH{a:Addr}{h:HO}{xs:List (List Key×V)}(g:GrS P H F as H' F' as')(f:a∈as)(d:H a=some (.dT xs)):GrS P H F as (upd H' a h) F' as' :=
 ⟨g.fz,g.ff,g.nw,λc o p e b hd=>by rw[aP (λz=>b (by rw[z];exact f))];exact g.fr c o p e b hd,λc e=>by
  by_cases z:c=a
  ·rw[z,bW] at e;cases e
  ·rw[aP z] at e;exact g.dm c e,λc o u e=>by rw[aP (λz=>by rw[z,d] at e;cases e)];exact g.kz c o u e⟩
end
section
variable {X:Cx}{md:List Md}{P:Pt}{R:RR}
theorem W2(i:Nat){st:Stmt}{ms:MS}(h:VS X md P R st ms):VS X md P R st (p7 i ms):=λpins s σ H D I q=>by
 obtain⟨ρ,O,F,B,r,sl,k⟩:=q;unfold p7 at k;split at k
 ·rename_i n U;split at k
  ·rename_i kv0 T;split at k
   ·rename_i m W Q;split at k
    ·rename_i kvs L;obtain⟨a,l⟩:=sl.obAt U;obtain⟨Z,x,_⟩:=r.dt l T;have J:=I.base0 x
     refine thn (h pins s σ H {nx:=λb d=>∃j c,GrS P H F B d j c/\RlO X.K X.mg W d j c/\SlO X.K md P m b d j c,rt:=λ_ _=>False} I ⟨ρ,O,F,B,r,sl,by rw[Q];exact λb d j c g r s=>⟨j,c,g,r,s⟩⟩) λf s' z=>?_
     cases f with
     |next =>
      obtain⟨b,d,Y,j,c,g,y,G⟩:=z;have ha':=g.at_ n a l;have hm':=zD ha';obtain⟨o,E,y1,y2⟩:=y.df ha' L;exact⟨b,_,Y.thaw y1 J,k b _ j c (g.reH (zD l) x) (y.mutG ha' ⟨E,bW,y2.1,y2.2⟩) (G.reH hm')⟩
     |brk=>obtain⟨b,d,_,z⟩:=z;exact z.elim
     |cont=>obtain⟨b,d,_,z⟩:=z;exact z.elim
     |ret u=>obtain⟨v,b,d,_,_,z⟩:=z;exact z.elim
    ·exact False.elim k
   ·exact False.elim k
  ·exact False.elim k
 ·exact False.elim k
def tsG(n:Nat)(y:D)(O:au):Res D:=match pY y,O[n]? with
 |some k,some (.df kvs)=>match gY kvs k with
  |some d=>.ok d O
  |none=>.no
 | _,_=>tsF n y O
def dF(mo my:M D):M D:=λρ O=>(mo ρ O).bind λx b=>match x with
 | .ob n=>(my ρ b).bind λy a=>tsG n y a
 | _=>.no
theorem mH{kk:Nat}(G:bY X.K=true)(B:bM kk X.A){o i:Expr}{pos:Pos}{mo my:M D}(E:VE X md P o mo)(hi:VE X md P i my)(z:uF i:=by intro _ _;rfl):VE X md P (.Subscript o i pos) (dF mo my):=λpins s σ H Q I q=>by
 obtain⟨ρ,O,F,W,d,O',r,sl,e,k⟩:=q;obtain⟨x,O1,U,e⟩:=Res.bind_ok e
 cases x with
 |ob n =>
  obtain⟨y,O2,T,e⟩:=Res.bind_ok e;unfold tsG at e;split at e
  ·rename_i m kvs e3 e4;split at e
   ·rename_i d' c;cases e;refine Gw (uH B) E hi z pins s σ H Q I ⟨ρ,_,F,W,_,_,r,sl,U,λx H1 F1 j L r1 hx=>⟨ρ,_,F1,j,_,_,r1,sl.step L,T,λu H2 F2 h J g hu=>?_⟩⟩;obtain⟨a,rfl,ha⟩:=Rp.unO hx;obtain⟨o,Z,x1,x2⟩:=g.df (J.at_ n a ha) e4;obtain⟨b,rfl,hb⟩:=Rp.tkey G hu e3
    rcases x2.val (k:=m) with⟨f,l⟩ | ⟨d2,v',f,l,Y⟩
    ·rw[f] at c;cases c
    ·rw[f] at c;cases c;refine⟨a,v',rfl,?_,k _ H2 F2 h (L.trans J) g Y⟩;rw[<-l];exact .inr ⟨Z,m,b,.inr ⟨o,x1⟩,rfl,g.fh _ _ hb,rfl⟩
   ·cases e
  ·refine Wu G B E hi z pins s σ H Q I ⟨ρ,O,F,W,d,O',r,sl,?_,k⟩;unfold Iw;rw[U];show Res.bind (my ρ O1) _=_;rw[T];exact e
 | _=>cases e
end
section
variable {X:Cx}{md:List Md}{P:Pt}{R:RR}
def p8(m:M D)(g:MG)(b:MS):MS:=λρ O=>match m ρ O with
 | .ok (.ob _) _=>vf m g b ρ O
 | _=>bO (yF m) g b ρ O
theorem W3{elts:List Expr}{h:Nat}{c:Pos}{a:Expr}{p pos pos':Pos}{body:List Stmt}{m:M D}{g:MG}{b:MS}(u:X.calm=true)(l:X.mg "enumerate" = none)(hi:WE X md P a m)(n:VG X md P (.Tuple elts h c) g)(hb:VSs X md P R body b)
  (y:Gl X "enumerate":=by rfl) (f:starEach [a] X.env=[(false,eval a X.env)]:=by exact j7 rfl) (d:starEach [a] X.env=(false,eval a X.env)::starEach [] X.env:=by exact cQ rfl)
  (j:PassesOwn (model X.prog X.w) X.A X.env X.xe:=by exact PassesOwn.never)
  (i:∀x,foldedSetIterable (.Call (.Name "enumerate" p) [a] [] pos) X.env x=pure x:=by intro _;rfl):VS X md P R (.For (.Tuple elts h c) (.Call (.Name "enumerate" p) [a] [] pos) body [] pos') (p8 m g b):=λpins s σ H D I q=>by
 obtain⟨ρ,O,F,z,r,sl,k⟩:=q;unfold p8 at k;split at k
 ·exact V2 u l hi n hb y f d j i pins s σ H D I ⟨ρ,O,F,z,r,sl,k⟩
 ·exact eU u (Vw l hi y f d) n hb j i pins s σ H D I ⟨ρ,O,F,z,r,sl,k⟩
end
section
variable {prog:Program}{w:World}
theorem W4(a:Addr)(c:(a == sysModules)=false)(n:Nat):MeetsIn prog w (Builtin.«dict.__len__» ⟨[.ref a],[]⟩) (λ_ R s=>(∃ob b d,s.heap.get? a=some ob/\ob.data=.dict b d/\b.size=n)/\R (.ok (.ret (.int n s.toks))) {s with toks:=s.toks+1}):=
 .of_wp λA R s ⟨⟨ob,b,d,hob,hda,hz⟩,hR⟩=>by
  show wpAny _ _ (dictSize a >>= _) _ _ s;unfold dictSize;refine za (za (wpAny_dictEntries hob hda (zb ?_)));show wpAny _ _ (Builtin.Dict.pendingCount a >>= _) _ _ s;refine za (wpAny_pendingCount_other c (wpAny_ret_mkInt ?_));rw[Nat.add_zero,hz];exact hR
end
section
variable {X:Cx}{md:List Md}{P:Pt}{R:RR}
theorem W5{H:Hp}{a:List (List Key×V)}{xs:List (List Key×Addr×Value)}(h:KT H a xs):a.length=xs.length:=by
 induction h with
 |nil=>rfl
 |cons _ _ b=>rw[zC,zC,b]
theorem W6:iH X (.builtin "len") (λxs H Q=>∃a b,xs=[V.ref a]/\H a=some (.dT b)/\Q (.int b.length) H):=by
 intro pins s σ H xs E Q I r h;obtain⟨a,b,rfl,x,q⟩:=h;obtain⟨u,rfl,l⟩:=vals1 r;cases l;obtain⟨z,c,B,rel,k⟩:=nD I.hok (.inl x);have ty:=k.typeIs;obtain⟨ob,j,y,d,G,g,f,_⟩:=k
 have i:j.size=b.length:=by rw[size_of_entries f,<-W5 rel]
 rw[sizeLine_eq] at z
 generalize b.length=n at z i q
 refine Calls.call_function_entry kind_len plain_len entry_len (args_len1 _) ?_;unfold Builtin.«len»;refine za (m:=oneArg "len" _) (zb (za (m:=callSpecial? (.ref a) (Str.ofString "__len__")) (wpAny_callSpecial?_slot (name:=Str.ofString "__len__") ty PySem.F.slot_dict_len (call_meetsIn PySem.F.slot_dict_len ty PySem.F.entry_dict_len (PySem.F.args_dict_len_1 _) (W4 a c n) ⟨⟨ob,j,y,d,g,i⟩,?_⟩))));show wpAny _ _ _ _ _ {s with toks:=s.toks+1};refine za (zO (zb (za (jk ?_))));show wpAny _ _ (if(n:Int)<0 then _ else _) _ _ _;rw[if_neg (by omega)];show wpAny _ _ (if(n:Int)>=2 ^ 63 then _ else _) _ _ _
 rw[if_neg (by omega)];exact za (wpAny_mkInt (zb ⟨_,rfl,⟨.int n,H,I.tok _,⟨_,rfl⟩,q⟩⟩))
def n6(mo:M D):M D:=λρ O=>(mo ρ O).bind λx a=>match x with
 | .ob n=>match a[n]? with
  |some (.dt kvs)=>.ok (.int kvs.length) a
  | _=>.no
 | _=>.no
theorem W7{a:Expr}{p pos:Pos}{m:M D}(z:X.mg "len" = none)(h:VE X md P a m)(E:Gl X "len":=by rfl)(b:starEach [a] X.env=(false,eval a X.env)::starEach [] X.env:=by exact cQ rfl)(f:(backTo pos (starEach [] X.env)).any (·.1)=false:=by exact fj rfl):OE X md P (.Call (.Name "len" p) [a] [] pos) (n6 m):=
 (uE W6 E z (by decide +kernel) (gm h iJ b) (by decide) (by decide) b f).imp λσ H Q q=>by
  obtain⟨ρ,O,F,T,d,Z,r,s,e,k⟩:=q;obtain⟨x,Y,L,e⟩:=Res.bind_ok e;split at e
  ·rename_i n;split at e
   ·rename_i c J;cases e;refine⟨ρ,_,F,T,_,_,r,s,L,λv U W g I j y=>?_⟩;obtain⟨a,rfl,G⟩:=Rp.unO y;obtain⟨i,u,l⟩:=j.dt G J
    have B:i.length=c.length:=by
     have:=congrArg List.length l.1
     rw[zd,zd] at this;exact this
    refine⟨a,i,rfl,u,?_⟩;rw[B];exact k _ U W g I j (.inl ⟨rfl,Rp.int⟩)
   ·cases e
  ·cases e
theorem W8:iH X (.builtin "isinstance") (λxs H Q=>∃a b,xs=[V.ref a,.ty "dict"]/\H a=some (.dT b)/\Q (.bl true) H):=by
 intro pins s σ H xs y Q I r h;obtain⟨a,b,rfl,j,q⟩:=h;obtain⟨u,c,rfl,f,g⟩:=vals2 r;cases(show c=.type "dict" from g);cases(show u=Value.ref a from f);obtain⟨z,l,x,rel,k⟩:=nD I.hok (.inl j);obtain⟨ob,B,E,d,i,n,m,_⟩:=k
 exact PySem.W.kia_one PySem.W.kitx_dict I.kIn ⟨ob,d,i.1⟩ (GK X.K "dict") (λz=>nomatch z) λtk=>⟨.bl true,H,I.tok tk,rfl,q⟩
def qb(mo:M D):M D:=λρ O=>(mo ρ O).bind λx a=>match x with
 | .ob n=>match a[n]? with
  |some (.dt _)=>.ok (.bl true) a
  | _=>.no
 | _=>.no
theorem W9{a:Expr}{p b pos:Pos}{m:M D}(B:X.mg "isinstance" = none)(hT:X.mg "dict" = none)(h:VE X md P a m)(E:Gl X "isinstance":=by rfl)(i:Gl X "dict":=by rfl)
  (c:starEach [a,.Name "dict" b] X.env=(false,eval a X.env)::starEach [.Name "dict" b] X.env:=by exact cQ rfl) (f:starEach [.Name "dict" b] X.env=(false,eval (.Name "dict" b) X.env)::starEach [] X.env:=by rfl) (g:(backTo pos (starEach [.Name "dict" b] X.env)).any (·.1)=false:=by exact fj rfl):
  OE X md P (.Call (.Name "isinstance" p) [a,.Name "dict" b] [] pos) (qb m):=
 (uE W8 E B (by decide +kernel) (gm h (gm (Ew (v:=.ty "dict") i hT (by decide +kernel) rfl) iJ f) c) (by decide) (by decide) c g).imp λσ H Q q=>by
  obtain⟨ρ,O,F,T,d,O',r,s,e,k⟩:=q;obtain⟨x,O1,L,e⟩:=Res.bind_ok e;split at e
  ·rename_i n;split at e
   ·rename_i Y J;cases e;refine⟨ρ,_,F,T,_,_,r,s,L,λv U W j I l z=>?_⟩;obtain⟨a,rfl,G⟩:=Rp.unO z;obtain⟨u,y,Z⟩:=l.dt G J;exact⟨a,u,rfl,y,k _ U W j I l (.inl ⟨rfl,Rp.bl⟩)⟩
   ·cases e
  ·cases e
def qd(mo my:M D):M D:=λρ O=>(mo ρ O).bind λx b=>match x with
 | .ob n=>match b[n]? with
  |some (.dt _)=>(my ρ b).bind λy a=>match pY y,a[n]? with
   |some k,some (.dt kvs)=>.ok ((gY kvs k).getD .non) a
   | _,_=>.no
  | _=>.no
 | _=>.no
theorem Xa{Z:Nat}(hk:bY X.K=true)(hr:bM Z X.A){o e:Expr}{apos c:Pos}{mo my:M D}(ho:VE X md P o mo)(he:VE X md P e my)(m:M1 X o "get" apos e c:=by exact⟨rfl,rfl,rfl,rfl⟩):VE X md P (.Call (.Attribute o "get" apos) [e] [] c) (qd mo my):=
 (TF (uH hr) ho he m).imp λσ H Q q=>by
  obtain⟨ρ,O,F,as,d,O',r,s,e,k⟩:=q;obtain⟨x,O1,e1,e⟩:=Res.bind_ok e;split at e
  ·rename_i n;split at e
   ·rename_i kv0 e0;obtain⟨y,O2,e2,e⟩:=Res.bind_ok e;split at e
    ·rename_i Y kvs e4 e5;cases e;refine⟨ρ,_,F,as,_,_,r,s,e1,λv H1 F1 B l E hv=>?_⟩;obtain⟨a,rfl,G⟩:=Rp.unO hv;obtain⟨z,W,w2⟩:=E.dt G e0;refine⟨a,rfl,.inr ⟨z,.inl W⟩,ρ,_,F1,B,_,_,E,s.step l,e2,λu I J f j g hu=>?_⟩;obtain⟨xs,U,T⟩:=g.dt (j.at_ n a G) e5;obtain⟨b,rfl,hb⟩:=Rp.tkey hk hu e4;refine⟨_,j4.t U (g.fh _ _ hb),?_⟩
     rcases T.val (k:=Y) with⟨i,h⟩ | ⟨d',v',i,h,L⟩
     ·rw[i] at k;rw[h];exact k _ I J f (l.trans j) g Rp.non
     ·rw[i] at k;rw[h];exact k _ I J f (l.trans j) g L
    ·cases e
   ·cases e
  ·cases e
end
end L2
namespace L2
open PySem PySem.Spec PyProof.Rows PySem.W PySem.Calls
section
variable {prog:Program}{w:World}{A:Around}{E:Value->Shared->Prop}{s:Shared}{a:Addr}{ss:List Str}
end
section
variable {prog:Program}{w:World}{A:Around}{E:Value->Shared->Prop}{s:Shared}{a:Addr}{ss:List Str}{o:Obj}{es:Array (Int×Value)}{ep:Nat}{t:SetTable}
end
section
variable {prog:Program}{w:World}{A:Around}{E:Value->Shared->Prop}{s:Shared}{a:Addr}{ss:List Str}{o:Obj}{es:Array (Int×Value)}{ep:Nat}{t:SetTable}
end
section
variable {X:Cx}
variable {md:List Md}{P:Pt}
end
structure QzO(mg:Str->Option Value):Prop extends Io mg where
 set_:mg "set" = none
def lt2(a1 a2 a b:Str):Bool:=if a1=a then decide (a2.cps.toList<b.cps.toList) else decide (a1.cps.toList<a.cps.toList)
section
variable {prog:Program}{w:World}{A:Around}{E:Value->Shared->Prop}{s:Shared}{K:Frag}{H F:Hp}{as:List Addr}
end
section
variable {X:Cx}
end
end L2
namespace L2
open PySem PySem.Spec PyProof.Rows
section
variable {X:Cx}{md:List Md}{P:Pt}{R:RR}
def qe(mo m:M D):MS:=λρ O=>match mo ρ O with
 | .ok (.ob n) O1=>match O1[n]? with
  |some (.ml _)=>match m ρ O1 with
   | .ok d O2=>match O2[n]?,bw O2 d with
    |some (.ml ds),.lst es=>if ds.length+es.length<=1000000 then .nx ρ (O2.set n (.ml (ds++es))) else .no
    | _,_=>.no
   | _=>.no
  | _=>.no
 | _=>.no
theorem Xb{o e:Expr}{apos c pos:Pos}{mo m:M D}(ho:VE X md P o mo)(h:SE X md P e m)
  (l:attributeBase o "extend" X.env (eval o X.env)=eval o X.env:=by rfl)
  (u:((backTo c (starEach [e] X.env)).all (λx=>!x.1)&&(backToKw c (keywordEach [] X.env)).all (λx=>x.1.isSome)&&decide ([e].length+([]:List Keyword).length+(if([]:List Keyword).isEmpty then 0 else 1)<30))=true:=by rfl)
  (j:(apos.endLine == c.line)=true:=by rfl) (Z:starEach [e] X.env=(false,eval e X.env)::starEach [] X.env:=by exact cQ rfl) (f:(backTo c (starEach [] X.env)).any (·.1)=false:=by exact fj rfl)
  (J:swapsWith (.Call (.Attribute o "extend" apos) [e] [] c) none pos.line X.env=pure false:=by rfl):
  VS X md P R (.Expr (.Call (.Attribute o "extend" apos) [e] [] c) pos) (qe mo m):=
 (uz (xK PySem.F.plainAttrs_list PySem.F.slot_list_extend PySem.F.type_list_extend Hz ho (gm h iJ Z) l u j Z f) J).imp λD σ H q=>by
  obtain⟨ρ,O,F,as,r,s,k⟩:=q;unfold qe at k;split at k
  ·rename_i n O1 e1;split at k
   ·rename_i ds0 e2;split at k
    ·rename_i d O2 e3;split at k
     ·rename_i ds es e4 e5;split at k
      ·rename_i hz;refine⟨ρ,O,F,as,_,_,r,s,e1,λv H1 F1 L E W hv=>?_⟩;obtain⟨a,rfl,ha⟩:=Rp.unO hv;obtain⟨I,x1,x2⟩:=W.ml ha e2;refine⟨.inl ⟨rfl,I,.inl (.inl x1)⟩,ρ,O1,F1,L,d,O2,W,s.step E,e3,λy H2 G i B z hy=>?_⟩;have g:=B.at_ n a ha;obtain⟨T,y1,y2⟩:=z.ml g e4;have Y:=Sv.lk hy z;rw[e5] at Y;obtain⟨b,Q,rfl,w1,U⟩:=Y.list z.fh;have g3:Gr H2 G i (upd H2 a (.lst (T++Q))) G i:=u9 (zD g) y1;exact⟨a,b,T,Q,rfl,rfl,y1,w1,by rw[y2.length,U.length];exact gn hz,k σ _ G i ((E.trans B).trans g3).toS (z.mutO g (Rps.append U y2)) (s.step ((E.trans B).trans g3))⟩
      ·exact False.elim k
     ·exact False.elim k
    ·exact False.elim k
   ·exact False.elim k
  ·exact False.elim k
end
section
variable {X:Cx}{md:List Md}{P:Pt}
variable {tg iter elt:Expr}{ifs:List Expr}{scope:Scope}{pos:Pos}{mi:M D}{g:MG}{t:M Bool}{e:M D}
end
end L2
namespace L2
open PySem PySem.Spec PyProof.Rows PySem.W
section
variable {X:Cx}{md:List Md}{P:Pt}{R:RR}
end
section
variable {X:Cx}{md:List Md}{P:Pt}{R:RR}
end
section
variable {Pr:Program}{w:World}{K:Frag}{mg:Str->Option Value}{base:Heap}
end
section
variable {X:Cx}{pins:List (Addr×Obj)}{σ:St}{H:Hp}{s:Shared}{ea:Addr}{oe:Obj}
def D2(D:Ends):Ends:={nx:=λ_ _=>False,rt:=D.rt}
end
end L2
namespace L2
open PySem PySem.Spec PyProof.Rows PySem.W PySem.Calls PySem.Builtin PySem.Builtin.ObjectAttr PySem.Builtin.Getset_descriptor
section
variable {prog:Program}{w:World}{A:Around}{E:Value->Shared->Prop}{K:Frag}{a C:Addr}{o:Obj}{h:Heap}{g:Array GenState}{d:Drawn}{t:Nat}{os:OsState}
structure QzP(K:Frag)(C:Addr):Prop where
 ga:findIn K (.ref C) "__getattribute__" = some (some (.builtin "BaseException.__getattribute__"))
 na:findIn K (.ref C) "__getattr__" = some none
 ca:findIn K (.ref C) "__class__" = some (some (.builtin "object.__class__"))
 sp:specialIn K (.builtin "object.__class__") "__get__" = some (some (.builtin "getset_descriptor.__get__"))
 tk:takesIn K (.builtin "object.__class__")=some true
 ob:mroIn K C (.type "object")=some true
 be:mroIn K C (.type "BaseException")=some true
 cl:(clsIn K C).isSome=true
end
end L2
namespace L2
open PySem PySem.Spec PyProof.Rows PySem.W
section
variable {X:Cx}{ea C:Addr}{oe:Obj}
end
section
variable {X:Cx}{md:List Md}{P:Pt}{R:RR}
end
section
variable {X:Cx}{ea C:Addr}{oe:Obj}{i:Nat}{b:Bool}{n:Str}{p p1 pos:Pos}
end
end L2
namespace L2
open PySem PySem.Spec PyProof.Rows
section
variable {X:Cx}
variable {md:List Md}{P:Pt}
end
end L2
namespace L2
open PySem PySem.Spec PyProof.Rows PySem.W
section
variable {prog:Program}{w:World}{A:Around}{E:Value->Shared->Prop}
end
section
variable {X:Cx}{md:List Md}{P:Pt}{R:RR}
end
section
variable {X:Cx}{md:List Md}{P:Pt}{R:RR}
end
section
variable {K:Frag}{h:Heap}{mg:Str->Option Value}
theorem mkD{x:Str}{st:Stmt}{f:Addr}{g:Value}{d i:Option Addr}{sl:Array (Option Value)}{kV dc pm b ct:Value}(X:K.In h)(G:h.Ns mainGlobals mg)(a:nsIn K mainGlobals x=some (some (.ref f)))(l:K.lookup f=some ⟨g,d,.func (fnOf x x (iK st) (fU st) (bu st) .none kV dc pm i b ct),sl⟩)(c:codeIn K b x=true)(k:keepIn K (.ref f)=true):Def K mg x st:=⟨_,_,mg_of X G a,xO l c k⟩
structure ClsAt(K:Frag)(c:Str)(A:Addr):Prop where
 ns:nsIn K mainGlobals c=some (some (.ref A))
 pg:plainGet K A Str.empty=true
 hd:hasDictIn K A=true
 po:plainOver K A=true
 sa:findIn K (.ref A) "__setattr__" = some (some (.builtin "object.__setattr__"))
 mks:makesIn K A=true
 kc:keepIn K (.ref A)=true
def MethAt(K:Frag)(A:Addr)(m qual:Str)(st:Stmt):Prop:=∃f fd,findIn K (.ref A) m=some (some (.ref f))/\isFn K (.ref f)=true/\keepIn K (.ref f)=true/\Fun K m qual st f fd
theorem mkM{A:Addr}{m qual:Str}{st:Stmt}{f:Addr}{g:Value}{d j:Option Addr}{sl:Array (Option Value)}{kV dc pm b ct:Value}(a:findIn K (.ref A) m=some (some (.ref f)))(i:isFn K (.ref f)=true)(l:K.lookup f=some ⟨g,d,.func (fnOf m qual (iK st) (fU st) (bu st) .none kV dc pm j b ct),sl⟩)(c:codeIn K b qual=true)(k:keepIn K (.ref f)=true):MethAt K A m qual st:=⟨_,_,a,i,k,xO l c k⟩
variable {A:Addr}{c:Str}
theorem ClsAt.cl(z:ClsAt K c A):Cls K A:=⟨z.pg,z.hd,z.po,z.sa⟩
theorem ClsAt.dm(z:ClsAt K c A)(X:K.In h)(G:h.Ns mainGlobals mg){m qual:Str}{st:Stmt}(q:MethAt K A m qual st):nT K mg c m qual st:=by
 obtain⟨f,fd,a,i,k,b⟩:=q;exact⟨_,_,_,mg_of X G z.ns,z.cl,⟨a,i,k⟩,b⟩
theorem ClsAt.dc(z:ClsAt K c A)(X:K.In h)(G:h.Ns mainGlobals mg){qual:Str}{st:Stmt}(q:MethAt K A "__init__" qual st):yD K mg c qual st:=by
 obtain⟨f,fd,a,i,k,b⟩:=q;exact⟨_,_,_,mg_of X G z.ns,⟨z.mks,a,i,z.kc⟩,b⟩
theorem ClsAt.kf(z:ClsAt K c A)(X:K.In h)(G:h.Ns mainGlobals mg){f:Str}(n:findIn K (.ref A) f=some none):KC K mg c f:=⟨_,mg_of X G z.ns,z.cl,n⟩
end
end L2
namespace L2
open PySem PySem.Spec PyProof.Rows
section
variable {X:Cx}
end
def ofO(o:Option D)(O:au):Res D:=match o with
 |some d=>.ok d O
 |none=>.no
@[simp] theorem n8{d:D}{O:au}:ofO (some d) O=.ok d O:=rfl
@[simp] theorem aV{α β:Type}{a:α}{O:au}{f:α->au->Res β}:(Res.ok a O).bind f=f a O:=rfl
@[simp] theorem QxD{O:au}:bw O .non=.non:=rfl
@[simp] theorem oh{O:au}{b:Bool}:bw O (.bl b)=.bl b:=rfl
@[simp] theorem mJ{O:au}{b:Int}:bw O (.int b)=.int b:=rfl
@[simp] theorem IK{O:au}{b:List Nat}:bw O (.str b)=.str b:=rfl
@[simp] theorem kO{O:au}{b:List D}:bw O (.lst b)=.lst b:=rfl
@[simp] theorem QxI{O:au}{b:List D}:bw O (.tup b)=.tup b:=rfl
@[simp] theorem QxJ{O:au}{a b:List D}:bw O (.dic a b)=.dic a b:=rfl
@[simp] theorem Xd{i:Nat}{ρ:aA}{O:au}:aa i ρ O=(match ρ[i]? with | some (some d)=>.ok d O | _=>.no):=rfl
@[simp] theorem m_c{d:D}{ρ:aA}{O:au}:mC d ρ O=.ok d O:=rfl
@[simp] theorem IV{g:D->D->Option D}{a b:M D}{ρ:aA}{O:au}:ak g a b ρ O=(a ρ O).bind λx O1=>(b ρ O1).bind λy c=>ofO (g (bw c x) (bw c y)) c:=rfl
def gF(r:Res D):Res D:=match r with
 | .ok d O'=>if j8 d=true then .ok d O' else .no
 |r=>r
@[simp] theorem m_g{m:M D}{ρ:aA}{O:au}:mG m ρ O=gF (m ρ O):=rfl
@[simp] theorem Qzf{i:Int}{O:au}:gF (.ok (.int i) O)=.ok (.int i) O:=rfl
@[simp] theorem Qzq{i:List Nat}{O:au}:gF (.ok (.str i) O)=.ok (.str i) O:=rfl
@[simp] theorem Qzx{i:Bool}{O:au}:gF (.ok (.bl i) O)=.ok (.bl i) O:=rfl
@[simp] theorem Qzu{O:au}:gF (.ok .non O)=.ok .non O:=rfl
@[simp] theorem Qzm{l:List D}{O:au}:gF (.ok (.tup l) O)=.ok (.tup l) O:=rfl
@[simp] theorem QzG{n:Nat}{O:au}:gF (.ok (.ob n) O)=.ok (.ob n) O:=rfl
def chF(o:Option D)(O:au)(f:Unit->Res D):Res D:=match o with
 |some (.bl true)=>f ()
 |some (.bl false)=>.ok (.bl false) O
 | _=>.no
@[simp] theorem Xe{b:Bool}{O:au}{f:Unit->Res D}:chF (some (.bl b)) O f=if b=true then f () else .ok (.bl false) O:=by cases b<;>rfl
@[simp] theorem Xf{g g':D->D->Option D}{a b c:M D}{ρ:aA}{O:au}:lU g g' a b c ρ O=(a ρ O).bind λx O1=>(b ρ O1).bind λy d=>chF (g (bw d x) (bw d y)) d λ_=>(c ρ d).bind λz f=>ofO (g' (bw f y) (bw f z)) f:=by
 unfold lU;congr 1
@[simp] theorem Xg{m:M D}{ρ:aA}{O:au}:jJ m ρ O=(m ρ O).bind λd O1=>.ok (.bl (isNon d)) O1:=rfl
@[simp] theorem Qze{m:M D}{ρ:aA}{O:au}:jr m ρ O=(m ρ O).bind λd O1=>.ok (.bl (!isNon d)) O1:=rfl
@[simp] theorem QxC:isNon .non=true:=rfl
@[simp] theorem QxL{l:List D}:isNon (.lst l)=false:=rfl
@[simp] theorem QxH{l:List D}:isNon (.tup l)=false:=rfl
@[simp] theorem QxG{l:List Nat}:isNon (.str l)=false:=rfl
@[simp] theorem QxK{l:Int}:isNon (.int l)=false:=rfl
@[simp] theorem Qym{l:Nat}:isNon (.ob l)=false:=rfl
def teF(d:D)(O:au):Res Bool:=match d with
 | .bl b=>.ok b O
 | _=>.no
@[simp] theorem IW{b:Bool}{O:au}:teF (.bl b) O=.ok b O:=rfl
@[simp] theorem yM{m:M D}{ρ:aA}{O:au}:aH m ρ O=(m ρ O).bind teF:=rfl
def ofB(o:Option Bool)(O:au):Res Bool:=match o with
 |some d=>.ok d O
 |none=>.no
@[simp] theorem sO{d:Bool}{O:au}:ofB (some d) O=.ok d O:=rfl
@[simp] theorem sS{m:M D}{ρ:aA}{O:au}:bK m ρ O=(m ρ O).bind λd O1=>ofB (pB (bw O1 d)) O1:=rfl
@[simp] theorem sU{b:Bool}:pB (.bl b)=some b:=rfl
@[simp] theorem Qyh{b:List D}:pB (.lst b)=some (!b.isEmpty):=rfl
@[simp] theorem sV{a b:M Bool}{ρ:aA}{O:au}:fW a b ρ O=(a ρ O).bind λc O1=>if c=true then b ρ O1 else .ok false O1:=rfl
@[simp] theorem yN{a b:M Bool}{ρ:aA}{O:au}:cR a b ρ O=(a ρ O).bind λc O1=>if c=true then .ok true O1 else b ρ O1:=rfl
@[simp] theorem sW{a:M Bool}{ρ:aA}{O:au}:cB a ρ O=(a ρ O).bind λc O1=>.ok (!c) O1:=rfl
def anF(d:D)(O:au)(f:Unit->Res D):Res D:=match d with
 | .bl true=>f ()
 | .bl false=>.ok (.bl false) O
 | _=>.no
def orF(d:D)(O:au)(f:Unit->Res D):Res D:=match d with
 | .bl true=>.ok (.bl true) O
 | .bl false=>f ()
 | _=>.no
@[simp] theorem kW{b:Bool}{O:au}{f:Unit->Res D}:anF (.bl b) O f=if b=true then f () else .ok (.bl false) O:=by cases b<;>rfl
@[simp] theorem QzM{b:Bool}{O:au}{f:Unit->Res D}:orF (.bl b) O f=if b=true then .ok (.bl true) O else f ():=by cases b<;>rfl
@[simp] theorem kY{a b:M D}{ρ:aA}{O:au}:fL a b ρ O=(a ρ O).bind λd O1=>anF d O1 λ_=>b ρ O1:=by
 unfold fL;congr 1
@[simp] theorem QzL{a b:M D}{ρ:aA}{O:au}:G7 a b ρ O=(a ρ O).bind λd O1=>orF d O1 λ_=>b ρ O1:=by
 unfold G7;congr 1
def noF(d:D)(O:au):Res D:=match d with
 | .bl b=>.ok (.bl (!b)) O
 | _=>.no
@[simp] theorem Xh{b:Bool}{O:au}:noF (.bl b) O=.ok (.bl (!b)) O:=rfl
@[simp] theorem Ja{a:M D}{ρ:aA}{O:au}:pG a ρ O=(a ρ O).bind noF:=rfl
@[simp] theorem Xi{t:M Bool}{a b:M D}{ρ:aA}{O:au}:mIf t a b ρ O=(t ρ O).bind λc O1=>if c=true then a ρ O1 else b ρ O1:=rfl
@[simp] theorem vp{ρ:aA}{O:au}:aq ρ O=.ok [] O:=rfl
@[simp] theorem qg{m:M D}{r:M (List D)}{ρ:aA}{O:au}:aj m r ρ O=(m ρ O).bind λd O1=>(r ρ O1).bind λds a=>.ok (d::ds) a:=rfl
@[simp] theorem Jb{r:M (List D)}{ρ:aA}{O:au}:bF r ρ O=(r ρ O).bind λds O1=>if ds.length<=1000000 then .ok (.lst ds) O1 else .no:=rfl
@[simp] theorem Xj{r:M (List D)}{ρ:aA}{O:au}:bA r ρ O=(r ρ O).bind λds O1=>if ds.length<=1000000 then .ok (.tup ds) O1 else .no:=rfl
@[simp] theorem yO{c:List D->au->Res D}{ma:M (List D)}{ρ:aA}{O:au}:aM c ma ρ O=(ma ρ O).bind λds O1=>c ds O1:=rfl
@[simp] theorem Jc{g:List D->Option D}{ma:M (List D)}{ρ:aA}{O:au}:aL g ma ρ O=(ma ρ O).bind λds O1=>ofO (g (ds.map (bw O1))) O1:=rfl
@[simp] theorem QzN{g:D->Option D}{ma:M D}{ρ:aA}{O:au}:mUn g ma ρ O=(ma ρ O).bind λd O1=>ofO (g (bw O1 d)) O1:=rfl
def isF(n:String)(o:Option String)(O:au):Res D:=match o with
 |some t=>.ok (.bl (cF t n)) O
 |none=>.no
@[simp] theorem Xk{n t:String}{O:au}:isF n (some t) O=.ok (.bl (cF t n)) O:=rfl
@[simp] theorem Xl{n:String}{m:M D}{ρ:aA}{O:au}:cH n m ρ O=(m ρ O).bind λd O1=>isF n (tyD (bw O1 d)) O1:=rfl
@[simp] theorem QyK:tyD .non=some "NoneType":=rfl
@[simp] theorem Qzg{b:Bool}:tyD (.bl b)=some "bool":=rfl
@[simp] theorem QyY{b:Int}:tyD (.int b)=some "int":=rfl
@[simp] theorem Qy1{b:List Nat}:tyD (.str b)=some "str":=rfl
@[simp] theorem QyV{b:List D}:tyD (.lst b)=some "list":=rfl
@[simp] theorem QyP{b:List D}:tyD (.tup b)=some "tuple":=rfl
@[simp] theorem QyN{a b:List D}:tyD (.dic a b)=some "dict":=rfl
@[simp] theorem QzQ{ρ:aA}{O:au}:moN ρ O=.ok none O:=rfl
def osF(d:D)(O:au):Res (Option Int):=match d with
 | .int i=>.ok (some i) O
 | _=>.no
@[simp] theorem vq{i:Int}{O:au}:osF (.int i) O=.ok (some i) O:=rfl
@[simp] theorem vz{m:M D}{ρ:aA}{O:au}:moS m ρ O=(m ρ O).bind osF:=rfl
@[simp] theorem vA{m:M D}{lo hi:M (Option Int)}{ρ:aA}{O:au}:mSl m lo hi ρ O=(m ρ O).bind λd O1=>(lo ρ O1).bind λl b=>(hi ρ b).bind λh a=>ofO (gSl (bw a d) l h) a:=rfl
@[simp] theorem QyO{l:List Nat}{lo hi:Option Int}:gSl (.str l) lo hi=if l.length<=16777216 then some (.str (fD l lo hi)) else none:=rfl
@[simp] theorem vB{l:List D}{lo hi:Option Int}:gSl (.lst l) lo hi=some (.lst (fD l lo hi)):=rfl
@[simp] theorem QyM{l:List D}{lo hi:Option Int}:gSl (.tup l) lo hi=some (.tup (fD l lo hi)):=rfl
def kZ(f:Fl)(b:MS):Fl:=match f with
 | .nx ρ' O'=>b ρ' O'
 |r=>r
@[simp] theorem bh{a b:MS}{ρ:aA}{O:au}:aB a b ρ O=kZ (a ρ O) b:=rfl
@[simp] theorem bj{ρ:aA}{O:au}{b:MS}:kZ (.nx ρ O) b=b ρ O:=rfl
@[simp] theorem QyR{d:D}{O:au}{b:MS}:kZ (.rt d O) b=.rt d O:=rfl
@[simp] theorem QyX{ρ:aA}{O:au}{b:MS}:kZ (.bk ρ O) b=.bk ρ O:=rfl
@[simp] theorem Qy4{ρ:aA}{O:au}{b:MS}:kZ (.ct ρ O) b=.ct ρ O:=rfl
@[simp] theorem QyS{b:MS}:kZ .no b=.no:=rfl
@[simp] theorem fY{ρ:aA}{O:au}:bx ρ O=.nx ρ O:=rfl
def mK(r:Res D):Fl:=match r with
 | .ok d O'=>.rt d O'
 | .ex x O'=>.ex x O'
 | .no=>.no
@[simp] theorem jO{m:M D}{ρ:aA}{O:au}:aZ m ρ O=mK (m ρ O):=rfl
@[simp] theorem QyU{d:D}{O:au}:mK (.ok d O)=.rt d O:=rfl
def Jd(r:Res D)(ρ:aA):Fl:=match r with
 | .ok _ O'=>.nx ρ O'
 | .ex x O'=>.ex x O'
 | .no=>.no
@[simp] theorem Xm{m:M D}{ρ:aA}{O:au}:rP m ρ O=Jd (m ρ O) ρ:=rfl
@[simp] theorem Xn{d:D}{O:au}{ρ:aA}:Jd (.ok d O) ρ=.nx ρ O:=rfl
def ifF(r:Res Bool)(a b:MS)(ρ:aA):Fl:=match r with
 | .ok c O'=>if c=true then a ρ O' else b ρ O'
 | .ex x O'=>.ex x O'
 | .no=>.no
@[simp] theorem vC{t:M Bool}{a b:MS}{ρ:aA}{O:au}:aY t a b ρ O=ifF (t ρ O) a b ρ:=rfl
@[simp] theorem vD{c:Bool}{O:au}{a b:MS}{ρ:aA}:ifF (.ok c O) a b ρ=if c=true then a ρ O else b ρ O:=rfl
def sX(i:Nat)(r:Res D)(ρ:aA):Fl:=match r with
 | .ok d O'=>.nx (ρ.set i (some d)) O'
 | .ex x O'=>.ex x O'
 | .no=>.no
@[simp] theorem Je{i:Nat}{m:M D}{ρ:aA}{O:au}:aF i m ρ O=sX i (m ρ O) ρ:=rfl
@[simp] theorem Jf{i:Nat}{d:D}{O:au}{ρ:aA}:sX i (.ok d O) ρ=.nx (ρ.set i (some d)) O:=rfl
def Jg(r:Res (List D))(g:MG)(b:MS)(ρ:aA):Fl:=match r with
 | .ok ds O'=>dO g b ds ρ O'
 | .ex x O'=>.ex x O'
 | .no=>.no
@[simp] theorem fM{m:M (List D)}{g:MG}{b:MS}{ρ:aA}{O:au}:bO m g b ρ O=Jg (m ρ O) g b ρ:=rfl
@[simp] theorem fO{ds:List D}{O:au}{g:MG}{b:MS}{ρ:aA}:Jg (.ok ds O) g b ρ=dO g b ds ρ O:=rfl
@[simp] theorem mg_n{i:Nat}{d:D}{ρ:aA}:mgN i d ρ=some (ρ.set i (some d)):=rfl
def bI(f:Fl):Res D:=match f with
 | .rt d O'=>.ok d O'
 | .nx _ O'=>.ok .non O'
 | .ex x O'=>.ex x O'
 | _=>.no
@[simp] theorem QzI{n:Nat}{b:MS}{ds:List D}{O:au}:bZ n b ds O=bI (b (ds.map some++List.replicate (n - ds.length) none) O):=rfl
@[simp] theorem Qy3{d:D}{O:au}:bI (.rt d O)=.ok d O:=rfl
@[simp] theorem QyL{ρ:aA}{O:au}:bI (.nx ρ O)=.ok .non O:=rfl
@[simp] theorem Xo{m:M (List D)}{ρ:aA}{O:au}:dq m ρ O=(m ρ O).bind λds O1=>match ds with
 | [.int j]=>if j<=1000000000/\-1000000000<=j then .ok (eE 0 j.toNat) O1 else .no
 | _=>.no:=rfl
def itF(o:Option (List D))(O:au):Res (List D):=match o with
 |some a=>.ok a O
 |none=>.no
@[simp] theorem Xp{ds:List D}{O:au}:itF (some ds) O=.ok ds O:=rfl
@[simp] theorem Xq{m:M D}{ρ:aA}{O:au}:cA m ρ O=(m ρ O).bind λd O1=>itF (pW d) O1:=rfl
@[simp] theorem Xr{ds:List D}:pW (.lst ds)=some ds:=rfl
@[simp] theorem QxE{ds:List D}:pW (.tup ds)=some ds:=rfl
@[simp] theorem Xu{m:M (List D)}{own:Nat}{cap:List Nat}{g:MG}{t:M Bool}{e:M D}{ρ:aA}{O:au}:dB m own cap g t e ρ O=(m ρ O).bind λds O1=>if ds.length<=1000000 then(cT g t e ds (ju own cap ρ) O1 []).bind λa b=>.ok (.lst a) b else .no:=rfl
@[simp] theorem Qy7{i j:Int}:aN (.int i) (.int j)=some (.int (i+j)):=rfl
@[simp] theorem Qy9{a b:List Nat}:aN (.str a) (.str b)=if a.length+b.length<=1000000 then some (.str (a++b)) else none:=rfl
@[simp] theorem Jh{a b:List D}:aN (.lst a) (.lst b)=if a.length+b.length<=1000000 then some (.lst (a++b)) else none:=rfl
@[simp] theorem Qyj{i j:Int}:jL (.int i) (.int j)=some (.int (i - j)):=rfl
@[simp] theorem Xv{i j:Int}:bD (.int i) (.int j)=if 0<j then some (.int (i % j)) else none:=by
 unfold bD gI
 by_cases h:0<j<;>simp[h]
@[simp] theorem Xw{i j:Int}:dj (.int i) (.int j)=if 0<j/\j<1073741824 then some (.int (i / j)) else none:=by
 unfold dj gI
 by_cases h:0<j/\j<1073741824<;>simp[h]
theorem mL{i j:Int}(h:(-(2 ^ 64)<i/\i<2 ^ 64)\/(-(2 ^ 64)<j/\j<2 ^ 64)):cI (.int i) (.int j)=some (.int (i * j)):=by
 unfold cI;dsimp only;rw[if_pos];rw[Bool.or_eq_true];unfold pJ;rw[zu,zu,decide_eq_true_eq,decide_eq_true_eq,decide_eq_true_eq,decide_eq_true_eq];exact h
@[simp] theorem QzF{i j:Int}:gLt (.int i) (.int j)=some (.bl (decide (i<j))):=rfl
@[simp] theorem Qzw{i j:Int}:gGt (.int i) (.int j)=some (.bl (decide (j<i))):=rfl
@[simp] theorem QzJ{i j:Int}:gGe (.int i) (.int j)=some (.bl (decide (j<=i))):=rfl
@[simp] theorem QzK{i j:Int}:gLe (.int i) (.int j)=some (.bl (decide (i<=j))):=rfl
theorem Ji(a b:Nat):(([a]:List Nat) < [b])↔a<b:=by
 constructor
 ·intro h
  rcases List.cons_lt_cons_iff.mp h with h | ⟨_,h⟩
  ·exact h
  ·exact absurd h (List.not_lt_nil _)
 ·intro h;exact List.cons_lt_cons_iff.mpr (.inl h)
@[simp] theorem QzA{a b:Nat}:gLe (.str [a]) (.str [b])=some (.bl (decide (a<=b))):=by
 show some (D.bl (!decide (([b]:List Nat) < [a])))=_
 have:decide (([b]:List Nat) < [a])=decide (b<a):=by
  by_cases h:b<a
  ·rw[zn h,zn ((Ji _ _).mpr h)]
  ·rw[zf h,zf (λz=>h ((Ji _ _).mp z))]
 rw[this]
 by_cases h:b<a
 ·rw[zn h,zf (by omega)];rfl
 ·rw[zf h,zn (by omega)];rfl
@[simp] theorem yP{i j:Int}:gEq (.int i) (.int j)=some (.bl (decide (i=j))):=rfl
@[simp] theorem sY{i j:List Nat}:gEq (.str i) (.str j)=some (.bl (decide (i=j))):=rfl
@[simp] theorem QzC{i j:Bool}:gEq (.bl i) (.bl j)=some (.bl (decide (i=j))):=rfl
@[simp] theorem Xx{i j:List D}:gEq (.lst i) (.lst j)=if(okE (.lst i)&&okE (.lst j))=true then some (.bl (gh (.lst i) (.lst j))) else none:=rfl
@[simp] theorem yQ{i j:Int}:gNe (.int i) (.int j)=some (.bl (!decide (i=j))):=rfl
@[simp] theorem yR{i j:List Nat}:gNe (.str i) (.str j)=some (.bl (!decide (i=j))):=rfl
@[simp] theorem QzB{i j:Bool}:gNe (.bl i) (.bl j)=some (.bl (!decide (i=j))):=rfl
@[simp] theorem Xy{i j:List D}:gNe (.lst i) (.lst j)=if(okE (.lst i)&&okE (.lst j))=true then some (.bl (!gh (.lst i) (.lst j))) else none:=rfl
@[simp] theorem QzD{n:Bool}{c:Nat}{l:List Nat}:gIn n (.str [c]) (.str l)=some (.bl (n ^^ decide (c∈l))):=rfl
theorem mO{ds:List D}{i:Int}:gIx (.lst ds) (.int i)=atI ds i:=rfl
theorem Jj{ds:List D}{i:Int}:gIx (.tup ds) (.int i)=atI ds i:=rfl
theorem Jk{l:List Nat}{i:Int}:gIx (.str l) (.int i)=if l.length<=1000000 then(atI l i).map (λc=>.str [c]) else none:=rfl
@[simp] theorem Xz{l:List Nat}:aU [.str l]=if l.length<=1000000 then some (.int l.length) else none:=rfl
@[simp] theorem Qza{l:List D}:aU [.lst l]=some (.int l.length):=rfl
@[simp] theorem Qzn{l:List D}:aU [.tup l]=some (.int l.length):=rfl
@[simp] theorem Qy5{i j:Int}:U8 [.int i,.int j]=some (.int (if j>i then j else i)):=rfl
@[simp] theorem Qzs{i j:Int}:pN [.int i,.int j]=some (.int (if j<i then j else i)):=rfl
@[simp] theorem Qzp{i:Int}:nP [.int i]=some (.int i):=rfl
@[simp] theorem Jl{b:Bool}:nP [.bl b]=some (.int (if b then 1 else 0)):=rfl
@[simp] theorem XC:fG (.int 10) (.int 18)=some (.int 1000000000000000000):=by rfl
@[simp] theorem XD:fG (.int 10) (.int 9)=some (.int 1000000000):=by rfl
@[simp] theorem ou{α:Type}{xs:List α}{j:Nat}:atI xs (j:Int)=xs[j]?:=by
 unfold atI ixN;rw[if_pos (by omega)]
 by_cases h:j<xs.length
 ·rw[if_pos (by omega)];simp
 ·rw[if_neg (by omega),zV (by omega)];rfl
theorem sZ{α:Type}{xs:List α}{i:Int}(h0:0<=i)(h1:i<xs.length):∃x,atI xs i=some x/\x∈xs:=by
 obtain⟨j,rfl⟩:=Int.eq_ofNat_of_zero_le h0
 have a:j<xs.length:=by omega
 exact⟨xs[j],by show atI xs (j:Int)=_;rw[ou,zj a],zW a⟩
section
variable {c:Prop}[Decidable c]
@[simp] theorem Qyu{a b:Fl}:bI (if c then a else b)=if c then bI a else bI b:=by split<;>rfl
@[simp] theorem Qx0{a b:Res D}:mK (if c then a else b)=if c then mK a else mK b:=by split<;>rfl
@[simp] theorem Qyp{a b:Fl}{r:MS}:kZ (if c then a else b) r=if c then kZ a r else kZ b r:=by split<;>rfl
@[simp] theorem Qx9{α β:Type}{a b:Res α}{f:α->au->Res β}:(if c then a else b).bind f=if c then a.bind f else b.bind f:=by split<;>rfl
@[simp] theorem QyW{a b:Res Bool}{x y:MS}{ρ:aA}:ifF (if c then a else b) x y ρ=if c then ifF a x y ρ else ifF b x y ρ:=by split<;>rfl
@[simp] theorem Qye{a b:Res D}{i:Nat}{ρ:aA}:sX i (if c then a else b) ρ=if c then sX i a ρ else sX i b ρ:=by split<;>rfl
@[simp] theorem QyT{a b:Option D}{O:au}:ofO (if c then a else b) O=if c then ofO a O else ofO b O:=by split<;>rfl
end
@[simp] theorem Jm:cF "str" "str" = true:=by decide
@[simp] theorem Qzv:cF "int" "str" = false:=by decide
@[simp] theorem Qzh:cF "bool" "str" = false:=by decide
@[simp] theorem Qzi:cF "list" "str" = false:=by decide
@[simp] theorem Qzt:cF "tuple" "str" = false:=by decide
@[simp] theorem Qy6:cF "dict" "str" = false:=by decide
@[simp] theorem Qzj:cF "NoneType" "str" = false:=by decide
@[simp] theorem Qzk:cF "int" "int" = true:=by decide
@[simp] theorem Qzr:cF "int" "bool" = false:=by decide
@[simp] theorem QyZ:cF "bool" "bool" = true:=by decide
@[simp] theorem XF:cF "list" "list" = true:=by decide
@[simp] theorem Jo:cF "tuple" "tuple" = true:=by decide
@[simp] theorem Qy2:cF "NoneType" "list" = false:=by decide
theorem fP{g:MG}{b:MS}(l:Nat->aA->au->Prop):∀(ds:List D) (k:Nat) (ρ:aA) (O:au),l k ρ O ->
  (∀i d ρ O,ds[i]?=some d->l (k+i) ρ O->∃f,g d ρ=some f/\∃c m,(b f O=.nx c m\/b f O=.ct c m)/\l (k+i+1) c m)->∃a j,dO g b ds ρ O=.nx a j/\l (k+ds.length) a j
 | [],k,ρ,O,h,_=>⟨ρ,O,rfl,h⟩
 |d::ds,k,ρ,O,h,hs=>by
  obtain⟨f,y,c,m,n,h2⟩:=hs 0 d ρ O rfl h
  obtain⟨a,j,x,h3⟩:=fP l ds (k+1) c m h2 λi z a j hi u=>by
   have:=hs (i+1) z a j (by simpa using hi) (by rw[show k+(i+1)=k+1+i by omega];exact u)
   rw[show k+(i+1)+1=k+1+i+1 by omega] at this;exact this
  refine⟨a,j,?_,by rw[zC,show k+(ds.length+1)=k+1+ds.length by omega];exact h3⟩;unfold dO;rw[y];dsimp only
  rcases n with n | n<;>rw[n]<;>exact x
theorem Jp{g:MG}{t:M Bool}{m:M D}(b:aA->Prop)(p:D->Bool):∀(ds:List D) (ρ:aA) (O:au) (acc:List D),b ρ->(∀d∈ds,∀ρ,b ρ->∃a,g d ρ=some a/\b a/\t a O=.ok (p d) O/\m a O=.ok d O)->cT g t m ds ρ O acc=.ok (acc++ds.filter p) O
 | [],ρ,O,acc,_,_=>by simp[cT]
 |d::ds,ρ,O,acc,h,hs=>by
  obtain⟨a,k,h1,j,i⟩:=hs d zo ρ h
  have f:=λacc=>Jp b p ds a O acc h1 λl c=>hs l (zv _ c)
  unfold cT;rw[k];dsimp only;rw[j]
  cases q:p d with
  |true =>
   dsimp only;rw[i];dsimp only;rw[f,List.filter_cons,q];simp
  |false =>
   dsimp only;rw[f,List.filter_cons,q];simp
@[simp] theorem Qzb{ρ:aA}{O:au}:Vz ρ O=.ok [] O:=rfl
@[simp] theorem QyQ{a b:M D}{r:M (List (D×D))}{ρ:aA}{O:au}:VB a b r ρ O=(a ρ O).bind λx O1=>(b ρ O1).bind λy d=>(r ρ d).bind λps c=>.ok ((x,y)::ps) c:=rfl
def diF(o:Option (List Key))(a:List (D×D))(O:au):Res D:=match o with
 |some b=>if b.Nodup/\a.length<=15 then .ok (.dic (a.map (·.1)) (a.map (·.2))) O else .no
 |none=>.no
@[simp] theorem Qx1{ks:List Key}{a:List (D×D)}{O:au}:diF (some ks) a O=if ks.Nodup/\a.length<=15 then .ok (.dic (a.map (·.1)) (a.map (·.2))) O else .no:=rfl
@[simp] theorem Qzo{m:M (List (D×D))}{ρ:aA}{O:au}:VD m ρ O=(m ρ O).bind λa O1=>diF (keysOf a) a O1:=rfl
@[simp] theorem QyI{i:Int}:keyOf (.int i)=some (.inl i):=rfl
@[simp] theorem QyH{i:List Nat}:keyOf (.str i)=some (.inr (S i)):=rfl
@[simp] theorem Qw9:keysOf []=some []:=rfl
@[simp] theorem Qws{a b:D}{r:List (D×D)}:keysOf ((a,b)::r)=(keyOf a).bind λk=>(keysOf r).map (k :: ·):=rfl
def joF(o:Option (List (List Nat)))(O:au):Res D:=match o with
 |some ls=>if(ls.map List.length).sum<=1000000 then .ok (.str ls.flatten) O else .no
 |none=>.no
@[simp] theorem QxU{ls:List (List Nat)}{O:au}:joF (some ls) O=if(ls.map List.length).sum<=1000000 then .ok (.str ls.flatten) O else .no:=rfl
def jdF(d:D)(O:au):Res D:=match d with
 | .lst ds=>joF (u0 ds) O
 | _=>.no
@[simp] theorem Qzy{ds:List D}{O:au}:jdF (.lst ds) O=joF (u0 ds) O:=rfl
@[simp] theorem Qy8{m:M D}{ρ:aA}{O:au}:Vm m ρ O=(m ρ O).bind λd O1=>jdF (bw O1 d) O1:=rfl
@[simp] theorem QzE{own:Nat}{cap:List Nat}{ρ:aA}:ju own cap ρ=List.replicate own none++cap.map λj=>(ρ[j]?).join:=rfl
@[simp] theorem QxF{g:MG}{t:M Bool}{m:M D}{ρ:aA}{O:au}{acc:List D}:cT g t m [] ρ O acc=.ok acc O:=rfl
theorem vG:∀ds:List D,jM ds=ds.map toP
 | []=>rfl
 |d::ds=>by rw[jM,vG ds];rfl
theorem Jq:∀{ds:List D},(∀d∈ds,eX d=true)->kh ds=true
 | [],_=>rfl
 |d::ds,h=>by rw[kh,h d zo,Jq λx a=>h x (zv _ a)];rfl
theorem yS{n:Nat}(b:n<60){ds:List D}(h:∀d∈ds,eX d=true/\(toP d).canLay0=true/\(toP d).depth<=n):okE (.lst ds)=true:=by
 unfold okE;rw[zu];refine⟨?_,?_⟩
 ·rw[eX];exact Jq λd hd=>(h d hd).1
 ·rw[toP,vG]
  refine Ul b λd hd=>?_
  obtain⟨x,a,rfl⟩:=zL.mp hd;exact(h x a).2
theorem yU{l:List Nat}(h:∀c∈l,c<1114112):(PyData.str (S l)).canLay0=true:=by
 show PyData.strOk (S l)=true;unfold PyData.strOk S;simp;exact h
theorem vH{d:D}(h:okE d=true):gh d d=true:=by
 unfold okE at h;rw[zu] at h
 have:=h.2
 unfold okD at this;rw[zu] at this;exact SeqAt.eqv_refl _ this.1
def it(f:Int->Int):Nat->Int->Int
 | 0,x=>x
 |n+1,x=>f (it f n x)
def mix(n k:Int):Int:=if n>1000000000000000000 then it (λr=>r / 1000000000) k.toNat n % 1000000000
 else
  let m:=it (λm=>(m * 48271+104729) % 2147483629) (k+2).toNat (n % 2147483647+7919)
  m * m % 998244353 / 11
theorem Jr(j:Nat)(x:Int)(h0:0<=x)(h1:x<2147491566):0<=it (λm=>(m * 48271+104729) % 2147483629) j x/\it (λm=>(m * 48271+104729) % 2147483629) j x<2147491566:=by
 induction j with
 |zero=>exact⟨h0,h1⟩
 |succ j ih =>
  refine⟨jh _ (by decide),?_⟩
  have:=ji (it (λm=>(m * 48271+104729) % 2147483629) j x * 48271+104729) (show(0:Int)<2147483629 by decide)
  show(it (λm=>(m * 48271+104729) % 2147483629) j x * 48271+104729) % 2147483629<_;omega
def yV:MS:=(aB (aY (aH (ak gGt (aa 0) (ak fG (mC (.int 10)) (mC (.int 18))))) (aB (aF 2 (mG (aa 0)))
  (aB (bO (dq (aj (aa 1) aq)) (mgN 3) (aF 2 (ak dj (aa 2) (ak fG (mC (.int 10)) (mC (.int 9))))))
  (aZ (ak bD (aa 2) (ak fG (mC (.int 10)) (mC (.int 9))))))) bx)
  (aB (aF 4 (ak aN (ak bD (aa 0) (mC (.int 2147483647))) (mC (.int 7919))))
  (aB (bO (dq (aj (ak aN (aa 1) (mC (.int 2))) aq)) (mgN 3) (aF 4 (ak bD (ak aN (ak cI (aa 4) (mC (.int 48271))) (mC (.int 104729))) (mC (.int 2147483629)))))
  (aZ (ak dj (ak bD (ak cI (aa 4) (aa 4)) (mC (.int 998244353))) (mC (.int 11)))))))
theorem mR(lo:Int)(n:Nat):(eE lo n).length=n:=by simp[eE]
theorem XH(n k:Int)(h0:0<=k)(h1:k<=1000000)(O:au):bZ 5 yV [.int n,.int k] O=.ok (.int (mix n k)) O:=by
 unfold mix
 by_cases x:n>1000000000000000000
 ·obtain⟨u,c,e,rfl,a,rfl⟩:=fP (g:=mgN 3) (b:=aF 2 (ak dj (aa 2) (ak fG (mC (.int 10)) (mC (.int 9)))))
   (λi ρ c=>c=O/\∃a,ρ=[some (.int n),some (.int k),some (.int (it (λr=>r / 1000000000) i n)),a,none]) (eE 0 k.toNat) 0 [some (.int n),some (.int k),some (.int n),none,none] O ⟨rfl,none,rfl⟩ (by
    rintro i d ρ c hi ⟨rfl,a,rfl⟩;refine⟨_,rfl,?_⟩;simp;rw[show it (λr=>r / 1000000000) (i+1) n=it (λr=>r / 1000000000) i n / 1000000000 from rfl]
    exact⟨_,_,⟨rfl,rfl⟩,rfl,_,rfl⟩)
  rw[mR,zy] at e
  have l:k<=1000000000/\-1000000000<=k:=by omega
  simp[yV,x,l,e]
 ·have h:0<=n % 2147483647+7919:=by have:=jh n (show(2147483647:Int)≠0 by decide);omega
  have f:n % 2147483647+7919<2147491566:=by have:=ji n (show(0:Int)<2147483647 by decide);omega
  obtain⟨u,c,e,rfl,a,rfl⟩:=fP (g:=mgN 3) (b:=aF 4 (ak bD (ak aN (ak cI (aa 4) (mC (.int 48271))) (mC (.int 104729))) (mC (.int 2147483629))))
   (λi ρ c=>c=O/\∃a,ρ=[some (.int n),some (.int k),none,a,some (.int (it (λm=>(m * 48271+104729) % 2147483629) i (n % 2147483647+7919)))]) (eE 0 (k+2).toNat) 0 [some (.int n),some (.int k),none,none,some (.int (n % 2147483647+7919))] O ⟨rfl,none,rfl⟩ (by
    rintro i d ρ c hi ⟨rfl,a,rfl⟩;refine⟨_,rfl,?_⟩;obtain⟨B,z⟩:=Jr i _ h f
    have:=mL (i:=it (λm=>(m * 48271+104729) % 2147483629) i (n % 2147483647+7919)) (j:=48271) (.inr ⟨by decide,by decide⟩)
    simp[this]
    rw[show it (λm=>(m * 48271+104729) % 2147483629) (i+1) (n % 2147483647+7919)=(it (λm=>(m * 48271+104729) % 2147483629) i (n % 2147483647+7919) * 48271+104729) % 2147483629 from rfl]
    exact⟨_,_,⟨rfl,rfl⟩,rfl,_,rfl⟩)
  rw[mR,zy] at e
  have l:k+2<=1000000000/\-1000000000<=k+2:=by omega
  obtain⟨B,z⟩:=Jr (k+2).toNat _ h f;have y:=mL (i:=it (λm=>(m * 48271+104729) % 2147483629) (k+2).toNat (n % 2147483647+7919)) (j:=it (λm=>(m * 48271+104729) % 2147483629) (k+2).toNat (n % 2147483647+7919)) (.inl ⟨by omega,by omega⟩);simp[yV,x,l,e,y]
def Js(a:List Str)(f:Str)(d:D)(O:au):Res D:=match d with
 | .ob n=>match O[n]? with
  |some (.ins c fs)=>if c∈a then match fs.lookup f with
   |some y=>.ok y O
   |none=>.no else .no
  | _=>.no
 | _=>.no
@[simp] theorem XJ{a:List Str}{f:Str}{m:M D}{ρ:aA}{O:au}:fH a f m ρ O=(m ρ O).bind (Js a f):=rfl
def puF(a:List Str)(f:Str)(d:D)(ρ:aA)(r:Res D):Fl:=match r with
 | .ok (.ob n) O2=>match O2[n]? with
  |some (.ins c fs)=>if c∈a/\fs.length<900 then .nx ρ (O2.set n (.ins c (putD f d fs))) else .no
  | _=>.no
 | _=>.no
def sfF(a:List Str)(f:Str)(mo:M D)(r:Res D)(ρ:aA):Fl:=match r with
 | .ok d O1=>puF a f d ρ (mo ρ O1)
 | .ex x O'=>.ex x O'
 | .no=>.no
@[simp] theorem XM{b:List Str}{f:Str}{mo a:M D}{ρ:aA}{O:au}:kE b f mo a ρ O=sfF b f mo (a ρ O) ρ:=by
 unfold kE sfF puF
 cases a ρ O<;>rfl
@[simp] theorem XN{a:List Str}{f:Str}{mo:M D}{d:D}{O:au}{ρ:aA}:sfF a f mo (.ok d O) ρ=puF a f d ρ (mo ρ O):=rfl
def meF(c m:Str)(b:List D->au->Res D)(ma:au->Res (List D))(d:D)(O1:au):Res D:=match d with
 | .ob n=>match O1[n]? with
  |some (.ins c' fs)=>if c'=c/\(fs.lookup m).isNone=true then(ma O1).bind λa f=>b (.ob n::a) f else .no
  | _=>.no
 | _=>.no
@[simp] theorem XQ{c m:Str}{a:List D->au->Res D}{mo:M D}{ma:M (List D)}{ρ:aA}{O:au}:du c m a mo ma ρ O=(mo ρ O).bind (meF c m a (ma ρ)):=rfl
def mkF(n:Nat)(r:Res D):Res D:=match r with
 | .ok .non O2=>.ok (.ob n) O2
 | .ok _ _=>.no
 | .ex x O2=>.ex x O2
 | .no=>.no
@[simp] theorem Jt{c:Str}{a:List D->au->Res D}{ma:M (List D)}{ρ:aA}{O:au}:jN c a ma ρ O=(ma ρ O).bind λds O1=>mkF O1.length (a (.ob O1.length::ds) (O1++[.ins c []])):=by
 unfold jN;congr 1
@[simp] theorem Ju{n:Nat}{O:au}:mkF n (.ok .non O)=.ok (.ob n) O:=rfl
def apF(i:Nat)(r:Res D)(ρ:aA):Fl:=match r with
 | .ok d O'=>match ρ[i]? with
  |some (some (.lst ds))=>if ds.length<1000000 then .nx (ρ.set i (some (.lst (ds++[d])))) O' else .no
  | _=>.no
 | .ex x O'=>.ex x O'
 | .no=>.no
@[simp] theorem Jv{i:Nat}{m:M D}{ρ:aA}{O:au}:cM i m ρ O=apF i (m ρ O) ρ:=rfl
theorem Jw{i:Nat}{d:D}{ds:List D}{ρ:aA}{O:au}(h:ρ[i]?=some (some (.lst ds)))(a:ds.length<1000000):apF i (.ok d O) ρ=.nx (ρ.set i (some (.lst (ds++[d])))) O:=by
 unfold apF;dsimp only;rw[h];dsimp only;rw[if_pos a]
def exF(i:Nat)(r:Res D)(ρ:aA):Fl:=match r with
 | .ok d O'=>match ρ[i]?,bw O' d with
  |some (some (.lst ds)),.lst es=>if ds.length+es.length<=1000000 then .nx (ρ.set i (some (.lst (ds++es)))) O' else .no
  | _,_=>.no
 | .ex x O'=>.ex x O'
 | .no=>.no
@[simp] theorem XR{i:Nat}{m:M D}{ρ:aA}{O:au}:pU i m ρ O=exF i (m ρ O) ρ:=rfl
theorem XS{i:Nat}{a ds:List D}{ρ:aA}{O:au}(h:ρ[i]?=some (some (.lst ds)))(b:ds.length+a.length<=1000000):exF i (.ok (.lst a) O) ρ=.nx (ρ.set i (some (.lst (ds++a)))) O:=by
 unfold exF;dsimp only[bw];rw[h];dsimp only;rw[if_pos b]
def enF(d:D)(O1:au):Res (List D):=match d with
 | .lst ds=>.ok (fX 0 ds) O1
 | .str l=>if ascii l=true then .ok (fX 0 (jx l)) O1 else .no
 | _=>.no
@[simp] theorem Qzd{m:M D}{ρ:aA}{O:au}:yF m ρ O=(m ρ O).bind enF:=rfl
def asF(r:Res D)(g:MG)(ρ:aA):Fl:=match r with
 | .ok d O'=>match g d ρ with
  |some a=>.nx a O'
  |none=>.no
 | .ex x O'=>.ex x O'
 | .no=>.no
@[simp] theorem vI{m:M D}{g:MG}{ρ:aA}{O:au}:iw m g ρ O=asF (m ρ O) g ρ:=rfl
theorem vJ{d:D}{g:MG}{ρ a:aA}{O:au}(h:g d ρ=some a):asF (.ok d O) g ρ=.nx a O:=by
 unfold asF;dsimp only;rw[h]
@[simp] theorem vK{i j:Nat}{a b:D}{ρ:aA}:dM 2 (bC (mgN i) (bC (mgN j) dU)) (.tup [a,b]) ρ=some ((ρ.set i (some a)).set j (some b)):=rfl
def stF(a b:D)(O:au):Res D:=match a,b with
 | .str l,.str n=>.ok (.bl (decide (l.take n.length=n))) O
 | _,_=>.no
@[simp] theorem QxV{a b:M D}{ρ:aA}{O:au}:Vn a b ρ O=(a ρ O).bind λx O1=>(b ρ O1).bind λy c=>stF x y c:=rfl
@[simp] theorem QzH{l n:List Nat}{O:au}:stF (.str l) (.str n) O=.ok (.bl (decide (l.take n.length=n))) O:=rfl
theorem vL{α:Type}{g:MG}{t:M Bool}{m:M D}(b:aA->Prop)(f h:α->D):∀(xs:List α) (ρ:aA) (O:au) (acc:List D),b ρ->(∀x∈xs,∀ρ,b ρ->∃a,g (f x) ρ=some a/\b a/\t a O=.ok true O/\m a O=.ok (h x) O)->cT g t m (xs.map f) ρ O acc=.ok (acc++xs.map h) O
 | [],ρ,O,acc,_,_=>by simp[cT]
 |x::xs,ρ,O,acc,hp,hs=>by
  obtain⟨a,j,h1,i,d⟩:=hs x zo ρ hp;rw[zl];unfold cT;rw[j];dsimp only;rw[i];dsimp only;rw[d];dsimp only;rw[vL b f h xs a O _ h1 λk c=>hs k (zv _ c)];simp
def Jx:List Nat:=[101,110,100]
def Jy:List Nat:=[97,110,101,119]
def Jz:List Nat:=[112,108,97,105,110]
def iV:List Nat:=[115,105,103,110]
def JB:List Nat:=[105,110,107]
def JC:List Nat:=[103,114,111,117,110,100]
def item(p:Int)(k v:List Nat):D:=.tup [.int p,.str k,.str v]
def col(c:Nat):Bool:=decide (c∈[97,98,99,100,101,102,103,104,46])
def XX(x:Nat):List Nat->List Nat×List Nat×Nat
 | []=>(iV,[91],0)
 |e::_=>if e=93 then(JC,[x],3) else(iV,[91],0)
def X3:List Nat->List Nat×List Nat×Nat
 | []=>(iV,[91],0)
 |x::t=>if col x=true then XX x t else(iV,[91],0)
def X4(x:Nat):List Nat->List Nat×List Nat×Nat
 | []=>(iV,[91],0)
 |e::_=>if e=93 then(JB,[x],2) else(iV,[91],0)
def X5:List Nat->List Nat×List Nat×Nat
 | []=>(iV,[91],0)
 |d::t=>if d=93 then(Jz,[],1) else if d=91 then(iV,[91],1) else if col d=true then X4 d t else if d=47 then X3 t else(iV,[91],0)
def one(c:Nat)(t:List Nat):List Nat×List Nat×Nat :=
 if c=10 then(Jx,[],0) else if c=9 then(Jy,[],0) else if c=91 then X5 t else(iV,[c],0)
def items(p:Int):List Nat->List D
 | []=>[]
 |c::t=>item p (one c t).1 (one c t).2.1::items (p+((one c t).2.2+1:Nat)) (t.drop (one c t).2.2)
termination_by l=>l.length
decreasing_by
 simp only[List.length_drop,zC];omega
def own(p:Int)(c:Nat):D:=if c=10 then item p Jx [] else if c=9 then item p Jy [] else item p iV [c]
def owns:Int->List Nat->List D
 | _,[]=>[]
 |p,c::l=>own p c::owns (p+1) l
def X6:List Nat->Bool
 | [a]=>decide (a=91)
 | [a,b]=>decide (a=91)&&(decide (b=47) || col b)
 | [a,b,c]=>decide (a=91)&&(decide (b=47)&&col c)
 | _=>false
def markB:List Nat->Option (List Nat×List Nat)
 | [a,b]=>if a=91/\b=93 then some (Jz,[]) else if a=91/\b=91 then some (iV,[91]) else none
 | [a,b,c]=>if a=91/\col b=true/\c=93 then some (JB,[b]) else none
 | [a,b,c,d]=>if a=91/\b=47/\col c=true/\d=93 then some (JC,[c]) else none
 | _=>none
def tk(h:List Nat)(c:Nat)(p:Int):List D×List Nat :=
 if X6 (h++[c])=true then([],h++[c]) else match markB (h++[c]) with
 |some (k,v)=>([item p k v],[])
 |none=>if c=91 then(owns p h,[91]) else(owns p (h++[c]),[])
inductive tE:List Nat->Prop where
 | h0:tE []
 | h1:tE [91]
 | h2:tE [91,47]
 | h3 (x:Nat) (h:col x=true):tE [91,x]
 | h4 (x:Nat) (h:col x=true):tE [91,47,x]
@[simp] theorem X7{l:List D}:iy [.lst l]=some (.lst l):=rfl
def fzF(f:Fl):Fl:=match f with
 | .rt d O'=>.rt d O'
 | _=>.no
@[simp] theorem Qzz{m:MS}{ρ:aA}{O:au}:nU m ρ O=fzF (m ρ O):=rfl
@[simp] theorem Qzc{d:D}{O:au}:fzF (.rt d O)=.rt d O:=rfl
def ziF(d e:D)(O:au):Res (List D):=match d,e with
 | .lst ds,.lst es=>.ok (eO ds es) O
 | _,_=>.no
@[simp] theorem X8{ma mb:M D}{ρ:aA}{O:au}:su ma mb ρ O=(ma ρ O).bind λd O1=>(mb ρ O1).bind λe a=>ziF d e a:=by
 unfold su;congr 1
@[simp] theorem Yb{ds a:List D}{O:au}:ziF (.lst ds) (.lst a) O=.ok (eO ds a) O:=rfl
end L2
namespace K74
open PySem L2
seal VE SE OE WE TsE TwE AE VS VSs VG VGs VI VIc VO VIf DPE
def top(i:Nat):Stmt:=PySem.Challenge.pw_outweave_k74_whole_least_patch.main.body.getD i (.Pass ⟨0,0,0,0⟩)
local macro_rules | `(tactic| trivial) => `(tactic| exact ⟨rfl, rfl, rfl, by decide +kernel, rfl, by decide +kernel, by decide +kernel⟩)
section
variable {Pr:Program}{w:World}{K:Frag}{mg:Str->Option Value}{base:Heap}
abbrev yW:Stmt:=top 2
theorem JD:cg ["move","prices","beyond"] ["move","prices"] (bu yW):=by trivial
def vM:MS :=
  (aB (aF 2 (dF (mG (aa 1)) (ak gIx (aa 0) (mC (.int 2)))))
  (aZ (mIf (aH (jJ (aa 2))) (mC .non) (ak aN (ak gIx (aa 0) (mC (.int 0))) (aa 2)))))
def lg:List D->au->Res D:=bZ 3 vM
abbrev yX(Pr:Program)(w:World)(K:Frag)(mg:Str->Option Value)(base:Heap):Prop:=Can Pr w K mg base "cost_over" ["move","prices"] 1 (vSp K mg [.s,.s] (rV K) lg)
theorem Yc(a:Def K mg "cost_over" yW)
  (B:cN mg)
  (d:bY K=true):
  yX Pr w K mg base:=by
 refine dD (k:=0) (b:=vM) a JD (λ_ _ _ _ _ _=>bB λ_=>bB λ_=>cU rfl) [.s,.s] [.v] dw (λ_ _ _ _=>Rp.non) (body:=λf g A outer s H E c P=>?_);refine aO ?_ ?_;refine bH (i:=2) JD.nd rfl (.inl rfl) ?_;refine mH d c (dX (aJ 1)) ?_;refine bz (aJ 0) (ao aD);refine aQ ?_;refine cj ?_;refine G9 ?_ xV ?_;refine xX (ao (az 2));refine bf ?_;refine aW bU ?_ (ao (az 2));refine ao ?_;refine bz (aJ 0) (ao aD)
abbrev tG:Stmt:=top 3
theorem JF:cg ["moves","prices","costs"] ["moves","prices"] (bu tG):=by trivial
def vN:MS :=
  (aB (aF 2 (dB (cA (aa 0)) 1 [1] (mgN 0) eQ (aM lg (aj (aa 0) (aj (aa 1) aq)))))
  (aZ (aL vm (aj (dB (cA (aa 2)) 1 [] (mgN 0) (aH (jr (aa 0))) (aa 0)) aq))))
def oA:List D->au->Res D:=bZ 3 vN
abbrev z7(Pr:Program)(w:World)(K:Frag)(mg:Str->Option Value)(base:Heap):Prop:=Can Pr w K mg base "least_cost" ["moves","prices"] 2 (vSp K mg [.s,.s] (rV K) oA)
theorem Yd(a:Def K mg "least_cost" tG)
  (B:cN mg)
  (h:bY K=true)
  (c:yX Pr w K mg base):
  z7 Pr w K mg base:=by
 refine dD (k:=1) (b:=vN) a JF (λ_ _ _ _ _ _=>bB λ_=>bB λ_=>cU rfl) [.s,.s] [.v] dw (λ_ _ _ _=>Rp.non) (body:=λf g A outer s H E d P=>?_);refine aO ?_ ?_;refine yj (i:=2) (bu tG) ["moves","prices","costs"] ["move"] [1] JF.nd rfl (.inl rfl) rfl (mz (aJ 0)) (λ_ _ _ _ P=>?_) (λ_ _ _ _ P=>?_) (λ_ _ _ _ P=>?_);exact bL (i:=0) (show(bQ ["moves","prices","costs"] ["move"] [1]).Nodup by decide +kernel) rfl (.inl rfl);exact nH;refine cY c (d.mono (by decide)) ?_;refine aG (ao (az 0)) ?_;refine aG (aJ 1) aC;refine aQ ?_;refine cj ?_;refine bf ?_
 refine Wx rfl B.min_ ?_;refine aK ?_;refine pI (bu tG) ["moves","prices","costs"] ["cost"] [] rfl ?_ (λ_ _ _ _ P=>?_) (λ_ _ _ _ P=>?_) (λ_ _ _ _ P=>?_);refine mz (ao (az 2));exact bL (i:=0) (show(bQ ["moves","prices","costs"] ["cost"] []).Nodup by decide +kernel) rfl (.inl rfl);refine yg ?_;refine G5 (ao (az 0));exact az 0
abbrev z9:Stmt:=inClass (top 11) 3
theorem Ye:cg ["self","at"] ["self","at"] (bu z9):=by trivial
def JG:MS :=
  (aZ (bF (aj (bA (aj (mG (aa 1)) (aj (mC (.int 0)) aq))) (aj (bA (aj (mG (aa 1)) (aj (mC (.int 1)) aq))) aq))))
def qj:List D->au->Res D:=bZ 2 JG
abbrev JH(Pr:Program)(w:World)(K:Frag)(mg:Str->Option Value)(base:Heap):Prop:=jy Pr w K mg base "Change" "nodes_at" ["self","at"] 1 (vSp K mg [.v,.s] (rO K) qj)
theorem Yg(a:nT K mg "Change" "nodes_at" "Change.nodes_at" z9)
  (B:cN mg)
  (g:bY K=true):
  JH Pr w K mg base:=by
 refine sr (k:=0) (b:=JG) a Ye (λ_ _ _ _ _ _=>bB λ_=>bB λ_=>cU rfl) [.v,.s] [] fV (λ_ _ _ _=>.inl ⟨rfl,Rp.non⟩) (body:=λf c A outer s H E d P=>?_);refine aQ ?_;refine jK ?_;refine dJ 2 ?_;refine aR ?_ ?_;refine cX 2 ?_;refine aR (dX (aJ 1)) ?_;refine aR aD aC;refine aR ?_ aC;refine cX 2 ?_;refine aR (dX (aJ 1)) ?_;refine aR aD aC
abbrev Ab:Stmt:=inClass (top 11) 4
theorem vO:cg ["self","node","at","moves","cells"] ["self","node"] (bu Ab):=by trivial
def vP:MS :=
  (aB (aF 2 (ak gIx (aa 1) (mC (.int 0))))
  (aB (aY (aH (ak gEq (aa 2) (aL aU (aj (fH ["Change"] "stretches" (aa 0)) aq)))) (aZ (bF aq)) bx)
  (aB (aF 3 (bF aq))
  (aB (aY (bK (ak gIx (fH ["Change"] "alike" (aa 0)) (aa 2))) (cM 3 (bA (aj (mC (.int 0)) (aj (mC (.str [112,97,115,115])) (aj (bA (aj (ak aN (aa 2) (mC (.int 1))) (aj (mC (.int 0)) aq))) aq))))) bx)
  (aB (aF 4 (ak jL (ak gIx (ak gIx (fH ["Change"] "stretches" (aa 0)) (aa 2)) (mC (.int 1))) (ak gIx (ak gIx (fH ["Change"] "stretches" (aa 0)) (aa 2)) (mC (.int 0)))))
  (aB (aY (aH (ak gEq (ak gIx (aa 1) (mC (.int 1))) (mC (.int 0)))) (cM 3 (bA (aj (ak aN (mC (.int 4)) (aa 4)) (aj (mC (.str [98,101,103,105,110])) (aj (bA (aj (ak aN (aa 2) (mC (.int 1))) (aj (mC (.int 1)) aq))) aq))))) (cM 3 (bA (aj (aa 4) (aj (mC (.str [111,110])) (aj (bA (aj (ak aN (aa 2) (mC (.int 1))) (aj (mC (.int 1)) aq))) aq))))))
  (aZ (aa 3))))))))
def jP:List D->au->Res D:=bZ 5 vP
abbrev Ac(Pr:Program)(w:World)(K:Frag)(mg:Str->Option Value)(base:Heap):Prop:=jy Pr w K mg base "Change" "moves_from" ["self","node"] 1 (vSp K mg [.v,.s] (rO K) jP)
theorem Yh(h:nT K mg "Change" "moves_from" "Change.moves_from" Ab)
  (B:cN mg)
  (l:bY K=true)
  (g:∃u,mg "WRITE_COST" = some u/\RelV (.int 4) u)
  (d:KC K mg "Change" "alike")
  (a:KC K mg "Change" "stretches"):
  Ac Pr w K mg base:=by
 refine sr (k:=0) (b:=vP) h vO (λ_ _ _ _ _ _=>bB λ_=>bB λ_=>cU rfl) [.v,.s] [.v,.o,.v] fV (λ_ _ _ _=>.inl ⟨rfl,Rp.non⟩) (body:=λf j A outer s H E c P=>?_);refine aO ?_ ?_;refine bH (i:=2) vO.nd rfl (.inl rfl) ?_;refine bz (aJ 1) (ao aD);refine aO ?_ ?_;refine bR ?_ ?_ cC;refine bT (dR c) (ao (az 2)) ?_ (bG _);refine aK ?_;refine cD (ms:=[.s]) (hv:=cL) cJ B.len_ ?_;refine aG ?_ aC;refine ao (nR (kJ a kI) (az 0));refine aQ ?_;refine jK (dJ 0 aC);refine aO ?_ ?_;refine jt (i:=3) vO.nd rfl (.inl rfl) (dJ 0 aC);refine aO ?_ ?_;refine bR ?_ ?_ cC
 refine fC ?_;refine ao ?_;refine bz ?_ (ao (az 2));refine ao (nR (kJ d kI) (az 0));refine aQ ?_;refine iC 3 ?_;refine cX 3 ?_;refine aR aD ?_;refine aR (dg [112,97,115,115]) ?_;refine aR ?_ aC;refine cX 2 ?_;refine aR ?_ ?_;refine bf ?_;refine aW bU (ao (az 2)) (ao aD);refine aR aD aC;refine aO ?_ ?_;refine bH (i:=4) vO.nd rfl (.inl rfl) ?_;refine bf ?_;refine aW yo ?_ ?_;refine ao ?_;refine bz ?_ (ao aD);refine ao ?_;refine bz ?_ (ao (az 2));refine ao (nR (kJ a kI) (az 0));refine ao ?_;refine bz ?_ (ao aD);refine ao ?_;refine bz ?_ (ao (az 2))
 refine ao (nR (kJ a kI) (az 0));refine aO ?_ (aQ (pH 3));refine bR ?_ ?_ ?_;refine bT (dR c) ?_ (ao aD) (bG _);refine ao ?_;refine bz (aJ 1) (ao aD);refine aQ ?_;refine iC 3 ?_;refine cX 3 ?_;refine aR ?_ ?_;refine bf ?_;refine aW bU ?_ (ao (az 4));refine ao ?_;refine GX g (λ_ _ _=>Rp.int);refine aR (dg [98,101,103,105,110]) ?_;refine aR ?_ aC;refine cX 2 ?_;refine aR ?_ ?_;refine bf ?_;refine aW bU (ao (az 2)) (ao aD);refine aR aD aC;refine aQ ?_;refine iC 3 ?_;refine cX 3 ?_;refine aR (az 4) ?_;refine aR (dg [111,110]) ?_;refine aR ?_ aC
 refine cX 2 ?_;refine aR ?_ ?_;refine bf ?_;refine aW bU (ao (az 2)) (ao aD);refine aR aD aC
abbrev Ae:Stmt:=inClass (top 11) 5
theorem Yi:cg ["self","node"] ["self","node"] (bu Ae):=by trivial
def vQ:MS :=
  (aZ (ak gEq (ak gIx (aa 1) (mC (.int 0))) (aL aU (aj (fH ["Change"] "stretches" (aa 0)) aq))))
def jQ:List D->au->Res D:=bZ 2 vQ
abbrev Af(Pr:Program)(w:World)(K:Frag)(mg:Str->Option Value)(base:Heap):Prop:=jy Pr w K mg base "Change" "is_end" ["self","node"] 1 (vSp K mg [.v,.s] (rV K) jQ)
theorem Yj(d:nT K mg "Change" "is_end" "Change.is_end" Ae)
  (B:cN mg)
  (h:bY K=true)
  (c:KC K mg "Change" "stretches"):
  Af Pr w K mg base:=by
 refine sr (k:=0) (b:=vQ) d Yi (λ_ _ _ _ _ _=>bB λ_=>bB λ_=>cU rfl) [.v,.s] [] dw (λ_ _ _ _=>Rp.non) (body:=λf g A outer s H E a P=>?_);refine aQ ?_;refine cj ?_;refine bf ?_;refine jH (dR a) ?_ ?_ (bG _);refine ao ?_;refine bz (aJ 1) (ao aD);refine aK ?_;refine cD (ms:=[.s]) (hv:=cL) cJ B.len_ ?_;refine aG ?_ aC;refine ao (nR (kJ c kI) (az 0))
abbrev Ah:Stmt:=top 4
theorem mU:cg ["trail","at","prices","moves","node","changed","cost"] ["trail","at","prices"] (bu Ah):=by trivial
def vR:MS :=
  (aB (aF 3 sG)
  (aB (bO (cA (du "Change" "nodes_at" qj (mG (aa 0)) (aj (aa 1) aq))) (mgN 4) (aB (iD (aa 3) (aa 4) (du "Change" "moves_from" jP (mG (aa 0)) (aj (aa 4) aq)))
  (iD (mG (aa 2)) (aa 4) (mIf (bK (du "Change" "is_end" jQ (mG (aa 0)) (aj (aa 4) aq))) (mC (.int 0)) (mC .non)))))
  (aB (aF 5 (mC (.bl true)))
  (lY 10 (bK (aa 5)) (aB (aF 5 (mC (.bl false)))
  (p7 3 (bO (p6 (aa 3)) (mgN 4) (aB (aF 6 (aM oA (aj (dF (aa 3) (aa 4)) (aj (aa 2) aq))))
  (aY (fW (aH (jr (aa 6))) (cR (aH (jJ (dF (mG (aa 2)) (aa 4)))) (aH (ak gLt (aa 6) (dF (mG (aa 2)) (aa 4)))))) (aB (iD (mG (aa 2)) (aa 4) (aa 6))
  (aF 5 (mC (.bl true)))) bx)))))))))
def tH:List D->au->Res D:=bZ 7 vR
abbrev JK(Pr:Program)(w:World)(K:Frag)(mg:Str->Option Value)(base:Heap):Prop:=Can Pr w K mg base "price_nodes" ["trail","at","prices"] 3 (vSp K mg [.s,.s,.s] (rV K) tH)
theorem Yk(l:Def K mg "price_nodes" Ah)
  (B:cN mg)
  (c:bY K=true)
  (j:JH Pr w K mg base)
  (h:Ac Pr w K mg base)
  (g:Af Pr w K mg base)
  (d:z7 Pr w K mg base):
  JK Pr w K mg base:=by
 refine dD (k:=2) (b:=vR) l mU (λ_ _ _ _ _ _=>bB λ_=>bB λ_=>bB λ_=>cU rfl) [.s,.s,.s] [.v,.v,.v,.v] dw (λ_ _ _ _=>Rp.non) (body:=λf m A outer s H E a P=>?_);refine aO (bH (i:=3) mU.nd rfl (.inl rfl) Ia) ?_;refine aO ?_ ?_;refine eU rfl ?_ (bL (i:=4) mU.nd rfl (.inl rfl)) ?_;refine pX ?_;refine pO ?_;refine bf ?_;refine yG j (a.mono (by decide)) (dX (aJ 0)) ?_;refine aG (aJ 1) aC;refine aO ?_ ?_;refine yI c a (az 3) (az 4) ?_;refine bf ?_;refine yG h (a.mono (by decide)) (dX (aJ 0)) ?_;refine aG (ao (az 4)) aC;refine aQ ?_;refine yI c a (dX (aJ 2)) (az 4) ?_
 refine G9 ?_ aD xV;refine fC ?_;refine ao ?_;refine HN g (a.mono (by decide)) (dX (aJ 0)) ?_;refine aG (ao (az 4)) aC;refine aO (bH (i:=5) mU.nd rfl (.inl rfl) fB) ?_;refine aQ ?_;refine Hc 10 ?_ ?_;refine fC (ao (az 5));refine aO (bH (i:=5) mU.nd rfl (.inl rfl) fB) ?_;refine aQ ?_;refine W2 3 ?_;refine eU rfl (W0 (az 3)) (bL (i:=4) mU.nd rfl (.inl rfl)) ?_;refine aO ?_ ?_;refine bH (i:=6) mU.nd rfl (.inl rfl) ?_;refine cY d (a.mono (by decide)) ?_;refine aG ?_ ?_;refine ao ?_;refine mH c a (az 3) (az 4);refine aG (aJ 2) aC;refine aQ ?_;refine bR ?_ ?_ cC
 refine gU ?_;refine pF ?_ ?_;refine G5 (ao (az 6));refine pC ?_;refine gU ?_;refine gR ?_ ?_;refine xX ?_;refine ao ?_;refine mH c a (dX (aJ 2)) (az 4);refine lV ?_;refine bT jw (ao (az 6)) ?_ (bG _);refine ao ?_;refine mH c a (dX (aJ 2)) (az 4);refine aO ?_ ?_;refine yI c a (dX (aJ 2)) (az 4) (az 6);refine aQ (bH (i:=5) mU.nd rfl (.inl rfl) fB)
abbrev Ak:Stmt:=inClass (top 11) 2
theorem Yl:cg ["self"] ["self"] (bu Ak):=by trivial
def vU:MS :=
  (aZ (aL aU (aj (fH ["Change"] "stretches" (aa 0)) aq)))
def tK:List D->au->Res D:=bZ 1 vU
abbrev JL(Pr:Program)(w:World)(K:Frag)(mg:Str->Option Value)(base:Heap):Prop:=jy Pr w K mg base "Change" "last_at" ["self"] 1 (vSp K mg [.v] (rV K) tK)
theorem Ym(c:nT K mg "Change" "last_at" "Change.last_at" Ak)
  (B:cN mg)
  (h:bY K=true)
  (a:KC K mg "Change" "stretches"):
  JL Pr w K mg base:=by
 refine sr (k:=0) (b:=vU) c Yl (λ_ _ _ _ _ _=>bB λ_=>cU rfl) [.v] [] dw (λ_ _ _ _=>Rp.non) (body:=λf d A outer s H E g P=>?_);refine aQ ?_;refine cj ?_;refine bf ?_;refine cD (ms:=[.s]) (hv:=cL) cJ B.len_ ?_;refine aG ?_ aC;refine ao (nR (kJ a kI) (az 0))
abbrev Am:Stmt:=top 5
theorem An:cg ["trail","prices","at"] ["trail"] (bu Am):=by trivial
def vV:MS :=
  (aB (aF 1 sG)
  (aB (bO (vo (aj (du "Change" "last_at" tK (mG (aa 0)) aq) (aj (mUn f9 (mC (.int 1))) (aj (mUn f9 (mC (.int 1))) aq)))) (mgN 2) (rP (aM tH (aj (aa 0) (aj (aa 2) (aj (aa 1) aq))))))
  (aZ (aa 1))))
def qy:List D->au->Res D:=bZ 3 vV
abbrev Ao(Pr:Program)(w:World)(K:Frag)(mg:Str->Option Value)(base:Heap):Prop:=Can Pr w K mg base "priced" ["trail"] 4 (vSp K mg [.s] (rV K) qy)
theorem Yn(g:Def K mg "priced" Am)
  (B:cN mg)
  (j:bY K=true)
  (d:JL Pr w K mg base)
  (c:JK Pr w K mg base):
  Ao Pr w K mg base:=by
 refine dD (k:=3) (b:=vV) g An (λ_ _ _ _ _ _=>bB λ_=>cU rfl) [.s] [.v,.v] dw (λ_ _ _ _=>Rp.non) (body:=λf h A outer s H E a P=>?_);refine aO (bH (i:=1) An.nd rfl (.inl rfl) Ia) ?_;refine aO ?_ ?_;refine eU rfl ?_ (bL (i:=2) An.nd rfl (.inl rfl)) ?_;refine WM B.range_ ?_;refine aG ?_ ?_;refine ao ?_;refine HQ d (a.mono (by decide)) (dX (aJ 0));refine aG ?_ ?_;refine aK ?_;refine pL (ao aD);refine aG ?_ aC;refine aK ?_;refine pL (ao aD);refine aQ ?_;refine Ux ?_;refine ao ?_;refine cY c (a.mono (by decide)) ?_;refine aG (aJ 0) ?_;refine aG (ao (az 2)) ?_
 refine aG (ao (az 1)) aC;refine aQ (cj (az 1))
abbrev vW:Stmt:=top 6
theorem JM:cg ["moves","prices","least"] ["moves","prices"] (bu vW):=by trivial
def vX:MS :=
  (aB (aF 2 (aM oA (aj (aa 0) (aj (aa 1) aq))))
  (aZ (ak gIx (dB (cA (aa 0)) 1 [1,2] (mgN 0) (aH (ak gEq (aM lg (aj (aa 0) (aj (aa 1) aq))) (aa 2))) (aa 0)) (mC (.int 0)))))
def tL:List D->au->Res D:=bZ 3 vX
abbrev JN(Pr:Program)(w:World)(K:Frag)(mg:Str->Option Value)(base:Heap):Prop:=Can Pr w K mg base "first_cheapest" ["moves","prices"] 3 (vSp K mg [.s,.s] (rV K) tL)
theorem Yo(g:Def K mg "first_cheapest" vW)
  (B:cN mg)
  (j:bY K=true)
  (c:z7 Pr w K mg base)
  (d:yX Pr w K mg base):
  JN Pr w K mg base:=by
 refine dD (k:=2) (b:=vX) g JM (λ_ _ _ _ _ _=>bB λ_=>bB λ_=>cU rfl) [.s,.s] [.v] dw (λ_ _ _ _=>Rp.non) (body:=λf h A outer s H E a P=>?_);refine aO ?_ ?_;refine bH (i:=2) JM.nd rfl (.inr rfl) ?_;refine cY c (a.mono (by decide)) ?_;refine aG (aJ 0) ?_;refine aG (aJ 1) aC;refine aQ ?_;refine cj ?_;refine bz ?_ (ao aD);refine aK ?_;refine pI (bu vW) ["moves","prices","least"] ["move"] [1,2] rfl (mz (aJ 0)) (λ_ _ _ _ P=>?_) (λ_ _ _ _ P=>?_) (λ_ _ _ _ P=>?_);exact bL (i:=0) (show(bQ ["moves","prices","least"] ["move"] [1,2]).Nodup by decide +kernel) rfl (.inl rfl)
 refine yg ?_;refine bT (dR a) ?_ (ao (az 2)) (bG _);refine ao ?_;refine cY d (a.mono (by decide)) ?_;refine aG (ao (az 0)) ?_;refine aG (aJ 1) aC;exact az 0
abbrev Ay:Stmt:=inClass (top 11) 1
theorem Yp:cg ["self"] ["self"] (bu Ay):=by trivial
def JP:MS :=
  (aZ (bA (aj (mC (.int 0)) (aj (mC (.int 0)) aq))))
def tO:List D->au->Res D:=bZ 1 JP
abbrev JQ(Pr:Program)(w:World)(K:Frag)(mg:Str->Option Value)(base:Heap):Prop:=jy Pr w K mg base "Change" "first_node" ["self"] 1 (vSp K mg [.v] (rV K) tO)
theorem Yq(a:nT K mg "Change" "first_node" "Change.first_node" Ay)
  (B:cN mg)
  (g:bY K=true):
  JQ Pr w K mg base:=by
 refine sr (k:=0) (b:=JP) a Yp (λ_ _ _ _ _ _=>bB λ_=>cU rfl) [.v] [] dw (λ_ _ _ _=>Rp.non) (body:=λf c A outer s H E d P=>?_);refine aQ ?_;refine cj ?_;refine cX 2 ?_;refine aR aD ?_;refine aR aD aC
abbrev Ba:Stmt:=top 7
theorem oE:cg ["trail","prices","node","cost","names","move"] ["trail"] (bu Ba):=by trivial
def vY:MS :=
  (aB (aF 1 (aM qy (aj (aa 0) aq)))
  (aB (aF 2 (du "Change" "first_node" tO (mG (aa 0)) aq))
  (aB (aF 3 (dF (aa 1) (aa 2)))
  (aB (aY (aH (jJ (aa 3))) (aZ (mC .non)) bx)
  (aB (aF 4 (bF aq))
  (aB (lY 50 (cB (bK (du "Change" "is_end" jQ (mG (aa 0)) (aj (aa 2) aq)))) (aB (aF 5 (aM tL (aj (du "Change" "moves_from" jP (mG (aa 0)) (aj (aa 2) aq)) (aj (aa 1) aq))))
  (aB (cM 4 (ak gIx (aa 5) (mC (.int 1))))
  (aF 2 (ak gIx (aa 5) (mC (.int 2)))))))
  (nU (aZ (bA (aj (aa 3) (aj (aa 4) aq)))))))))))
def vZ:List D->au->Res D:=bZ 6 vY
abbrev JR(Pr:Program)(w:World)(K:Frag)(mg:Str->Option Value)(base:Heap):Prop:=Can Pr w K mg base "way_of" ["trail"] 5 (vSp K mg [.s] (rV K) vZ)
theorem Yr(m:Def K mg "way_of" Ba)
  (B:cN mg)
  (h:bY K=true)
  (c:Ao Pr w K mg base)
  (l:JQ Pr w K mg base)
  (d:Af Pr w K mg base)
  (j:JN Pr w K mg base)
  (g:Ac Pr w K mg base):
  JR Pr w K mg base:=by
 refine dD (k:=4) (b:=vY) m oE (λ_ _ _ _ _ _=>bB λ_=>cU rfl) [.s] [.v,.v,.v,.o,.v] dw (λ_ _ _ _=>Rp.non) (body:=λf n A outer s H E a P=>?_);refine aO ?_ ?_;refine bH (i:=1) oE.nd rfl (.inl rfl) ?_;refine cY c (a.mono (by decide)) ?_;refine aG (aJ 0) aC;refine aO ?_ ?_;refine bH (i:=2) oE.nd rfl (.inl rfl) ?_;refine HQ l (a.mono (by decide)) (dX (aJ 0));refine aO ?_ ?_;refine bH (i:=3) oE.nd rfl (.inl rfl) ?_;refine mH h a (az 1) (az 2);refine aO ?_ ?_;refine bR ?_ ?_ cC;refine xX (ao (az 3));refine aQ (cj xV);refine aO ?_ ?_;refine jt (i:=4) oE.nd rfl (.inl rfl) (dJ 0 aC)
 refine aO ?_ ?_;refine Hc 50 ?_ ?_;refine gq ?_;refine fC ?_;refine ao ?_;refine HN d (a.mono (by decide)) (dX (aJ 0)) ?_;refine aG (ao (az 2)) aC;refine aO ?_ ?_;refine bH (i:=5) oE.nd rfl (.inl rfl) ?_;refine cY j (a.mono (by decide)) ?_;refine aG ?_ ?_;refine aK ?_;refine yG g (a.mono (by decide)) (dX (aJ 0)) ?_;refine aG (ao (az 2)) aC;refine aG (ao (az 1)) aC;refine aO ?_ ?_;refine iC 4 ?_;refine bz (ao (az 5)) (ao aD);refine aQ ?_;refine bH (i:=2) oE.nd rfl (.inl rfl) ?_;refine bz (ao (az 5)) (ao aD);refine aQ ?_;refine HX 4 rfl ?_;refine cj ?_
 refine cX 2 ?_;refine aR (az 3) ?_;refine aR (az 4) aC
abbrev v7:Stmt:=top 10
theorem JS:cg ["row","begins"] ["row"] (bu v7):=by trivial
def v8:MS :=
  (aB (aF 1 (mF (aa 0) 2 [] (dM 2 (bC (mgN 0) (bC (mgN 1) dU))) (aH (ak gNe (ak gIx (aa 1) (mC (.int 0))) (mC (.str [])))) (aa 0)))
  (aZ (aL gLZ (aj (aa 1) (aj (ak aN (mSl (aa 1) (moS (mC (.int 1))) moN) (bF (aj (aL aU (aj (aa 0) aq)) aq))) aq)))))
def qC:List D->au->Res D:=bZ 2 v8
abbrev Be(Pr:Program)(w:World)(K:Frag)(mg:Str->Option Value)(base:Heap):Prop:=Can Pr w K mg base "letter_stretches" ["row"] 1 (vSp K mg [.s] (rO K) qC)
theorem Ys(c:Def K mg "letter_stretches" v7)
  (B:cN mg)
  (g:bY K=true):
  Be Pr w K mg base:=by
 refine dD (k:=0) (b:=v8) c JS (λ_ _ _ _ _ _=>bB λ_=>cU rfl) [.s] [.v] fV (λ_ _ _ _=>.inl ⟨rfl,Rp.non⟩) (body:=λf d A outer s H E a P=>?_);refine aO ?_ ?_;refine Wo (i:=1) (bu v7) ["row","begins"] ["col","cell"] [] JS.nd rfl (.inl rfl) rfl B.enumerate_ (uZ 0) (λ_ _ _ _ P=>?_) (λ_ _ _ _ P=>?_) (λ_ _ _ _ P=>?_);refine iR 2 rfl ?_;refine dz (bL (i:=0) (show(bQ ["row","begins"] ["col","cell"] []).Nodup by decide +kernel) rfl (.inl rfl)) ?_;refine dz (bL (i:=1) (show(bQ ["row","begins"] ["col","cell"] []).Nodup by decide +kernel) rfl (.inl rfl)) iQ
 refine yg ?_;refine bT (kj a) ?_ (ao (dg [])) (bG _);refine ao ?_;refine bz (ao (az 1)) (ao aD);exact az 0;refine aQ ?_;refine jK ?_;refine Wl (ms:=[.s,.s]) rfl B.list_ B.zip_ ?_;refine aG (ao (az 1)) ?_;refine aG ?_ aC;refine aK ?_;refine aW bU ?_ ?_;refine aK ?_;refine km (ao (az 1)) (gj aD) Ho;refine aK ?_;refine dJ 1 ?_;refine aR ?_ aC;refine bf ?_;refine cD (ms:=[.s]) (hv:=cL) cJ B.len_ ?_;refine aG (aJ 0) aC
abbrev v9:Stmt:=inClass (top 11) 0
theorem Yt:cg ["self","one","other"] ["self","one","other"] (bu v9):=by trivial
def wg:MS :=
  (aB (kE ["Change"] "stretches" (aa 0) (aM qC (aj (aa 2) aq)))
  (kE ["Change"] "alike" (aa 0) (dB (cA (fH ["Change"] "stretches" (aa 0))) 2 [1,2] (dM 2 (bC (mgN 0) (bC (mgN 1) dU))) eQ (ak gEq (mSl (aa 2) (moS (aa 0)) (moS (aa 1))) (mSl (aa 3) (moS (aa 0)) (moS (aa 1)))))))
def mV:List D->au->Res D:=bZ 3 wg
abbrev Bg(Pr:Program)(w:World)(K:Frag)(mg:Str->Option Value)(base:Heap):Prop:=yC Pr w K mg base "Change" ["self","one","other"] 2 (vSp K mg [.v,.s,.s] (rV K) mV)
theorem Yu(h:yD K mg "Change" "Change.__init__" v9)
  (B:cN mg)
  (l:bY K=true)
  (c:KC K mg "Change" "stretches")
  (d:KC K mg "Change" "alike")
  (g:Be Pr w K mg base):
  Bg Pr w K mg base:=by
 refine Vs (k:=1) (b:=wg) h Yt (λ_ _ _ _ _ _=>bB λ_=>bB λ_=>bB λ_=>cU rfl) [.v,.s,.s] [] dw (λ_ _ _ _=>Rp.non) (body:=λf j A outer s H E a P=>?_);refine aO ?_ ?_;refine HB (kJ c kI) (az 0) ?_;refine bf ?_;refine gW g (a.mono (by decide)) ?_;refine aG (aJ 2) aC;refine aQ ?_;refine HB (kJ d kI) (az 0) ?_;refine bf ?_;refine pI (bu v9) ["self","one","other"] ["lo","hi"] [1,2] rfl ?_ (λ_ _ _ _ P=>?_) (λ_ _ _ _ P=>?_) (λ_ _ _ _ P=>?_);refine mz ?_;refine ao (nR (kJ c kI) (az 0));refine iR 2 rfl ?_;refine dz (bL (i:=0) (show(bQ ["self","one","other"] ["lo","hi"] [1,2]).Nodup by decide +kernel) rfl (.inl rfl)) ?_
 refine dz (bL (i:=1) (show(bQ ["self","one","other"] ["lo","hi"] [1,2]).Nodup by decide +kernel) rfl (.inl rfl)) iQ;exact nH;refine bf ?_;refine jH (dR a) ?_ ?_ (bG _);refine aK ?_;refine km (aJ 2) (gj (az 0)) (gj (az 1));refine aK ?_;refine km (aJ 3) (gj (az 0)) (gj (az 1))
abbrev Bj:Stmt:=top 12
theorem tQ:cg ["place","one","other","names","writes","name","stretch"] ["place","one","other"] (bu Bj):=by trivial
def wj:MS :=
  (aB (aF 3 (ak gIx (aM vZ (aj (jN "Change" mV (aj (aa 1) (aj (aa 2) aq))) aq)) (mC (.int 1))))
  (aB (aF 4 (bF aq))
  (aB (bO (su (aa 3) (aM qC (aj (aa 2) aq))) (dM 2 (bC (mgN 5) (bC (mgN 6) dU))) (aB (aY (aH (ak gEq (aa 5) (mC (.str [98,101,103,105,110])))) (cM 4 (bA (aj (mG (aa 0)) (aj (ak gIx (aa 6) (mC (.int 0))) (aj (mMl (bF aq)) aq))))) bx)
  (aY (aH (ak gNe (aa 5) (mC (.str [112,97,115,115])))) (qe (ak gIx (ak gIx (aa 4) (mUn f9 (mC (.int 1)))) (mC (.int 2))) (mSl (aa 2) (moS (ak gIx (aa 6) (mC (.int 0)))) (moS (ak gIx (aa 6) (mC (.int 1)))))) bx)))
  (aZ (aa 4)))))
def wk:List D->au->Res D:=bZ 7 wj
abbrev JT(Pr:Program)(w:World)(K:Frag)(mg:Str->Option Value)(base:Heap):Prop:=Can Pr w K mg base "row_writes" ["place","one","other"] 6 (vSp K mg [.s,.s,.s] (rO K) wk)
theorem Yv(h:Def K mg "row_writes" Bj)
  (B:cN mg)
  (l:bY K=true)
  (g:JR Pr w K mg base)
  (c:Bg Pr w K mg base)
  (d:Be Pr w K mg base):
  JT Pr w K mg base:=by
 refine dD (k:=5) (b:=wj) h tQ (λ_ _ _ _ _ _=>bB λ_=>bB λ_=>bB λ_=>cU rfl) [.s,.s,.s] [.v,.o,.v,.v] fV (λ_ _ _ _=>.inl ⟨rfl,Rp.non⟩) (body:=λf j A outer s H E a P=>?_);refine aO ?_ ?_;refine bH (i:=3) tQ.nd rfl (.inl rfl) ?_;refine bz ?_ (ao aD);refine ao ?_;refine cY g (a.mono (by decide)) ?_;refine aG ?_ aC;refine ao ?_;refine HJ c (a.mono (by decide)) ?_;refine aG (aJ 1) ?_;refine aG (aJ 2) aC;refine aO ?_ ?_;refine jt (i:=4) tQ.nd rfl (.inl rfl) (dJ 0 aC);refine aO ?_ (aQ (pH 4));refine eU rfl ?_ ?_ ?_;refine VL B.zip_ (pO (az 3)) ?_
 refine pO ?_;refine bf ?_;refine gW d (a.mono (by decide)) ?_;refine aG (aJ 2) aC;refine iR 2 rfl ?_;refine dz (bL (i:=5) tQ.nd rfl (.inl rfl)) ?_;refine dz (bL (i:=6) tQ.nd rfl (.inl rfl)) iQ;refine aO ?_ ?_;refine bR ?_ ?_ cC;refine bT (dR a) (ao (az 5)) (ao (dg [98,101,103,105,110])) (bG _);refine aQ ?_;refine iC 4 ?_;refine cX 3 ?_;refine aR (dX (aJ 0)) ?_;refine aR ?_ ?_;refine bz (ao (az 6)) (ao aD);refine aR ?_ aC;refine u6 (dJ 0 aC);refine aQ ?_;refine bR ?_ ?_ cC;refine bT (kj a) (ao (az 5)) (ao (dg [112,97,115,115])) (bG _);refine aQ ?_
 refine Xb ?_ ?_;refine bz ?_ (ao aD);refine ao ?_;refine bz (aJ 4) ?_;refine aK ?_;refine pL (ao aD);refine aK ?_;refine km (aJ 2) ?_ ?_;refine gj ?_;refine bz (ao (az 6)) (ao aD);refine gj ?_;refine bz (ao (az 6)) (ao aD)
abbrev Bo:Stmt:=top 13
theorem wu:cg ["one","other","writes","place","row"] ["one","other"] (bu Bo):=by trivial
def wy:MS :=
  (aB (aF 2 (bF aq))
  (aB (p8 (aa 1) (dM 2 (bC (mgN 3) (bC (mgN 4) dU))) (aY (aH (ak gNe (ak gIx (aa 0) (aa 3)) (aa 4))) (pU 2 (aM wk (aj (aa 3) (aj (ak gIx (aa 0) (aa 3)) (aj (aa 4) aq))))) bx))
  (aZ (aa 2))))
def tR:List D->au->Res D:=bZ 5 wy
abbrev JV(Pr:Program)(w:World)(K:Frag)(mg:Str->Option Value)(base:Heap):Prop:=Can Pr w K mg base "patch" ["one","other"] 7 (vSp K mg [.s,.s] (rO K) tR)
theorem Yw(d:Def K mg "patch" Bo)
  (B:cN mg)
  (h:bY K=true)
  (c:JT Pr w K mg base):
  JV Pr w K mg base:=by
 refine dD (k:=6) (b:=wy) d wu (λ_ _ _ _ _ _=>bB λ_=>bB λ_=>cU rfl) [.s,.s] [.o,.v,.v] fV (λ_ _ _ _=>.inl ⟨rfl,Rp.non⟩) (body:=λf g A outer s H E a P=>?_);refine aO ?_ ?_;refine jt (i:=2) wu.nd rfl (.inl rfl) (dJ 0 aC);refine aO ?_ (aQ (pH 2));refine W3 rfl B.enumerate_ (uZ 1) ?_ ?_;refine iR 2 rfl ?_;refine dz (bL (i:=3) wu.nd rfl (.inl rfl)) ?_;refine dz (bL (i:=4) wu.nd rfl (.inl rfl)) iQ;refine aQ ?_;refine bR ?_ ?_ cC;refine bT (kj a) ?_ (ao (az 4)) (bG _);refine ao ?_;refine bz (aJ 0) (ao (az 3));refine aQ ?_;refine Vr 2 ?_
 refine aK ?_;refine gW c (a.mono (by decide)) ?_;refine aG (ao (az 3)) ?_;refine aG ?_ ?_;refine ao ?_;refine bz (aJ 0) (ao (az 3));refine aG (ao (az 4)) aC
abbrev wz:Stmt:=top 14
theorem Yx:cg ["writes"] ["writes"] (bu wz):=by trivial
def JW:MS :=
  (aZ (aL mj (aj (dB (cA (aa 0)) 1 [] (mgN 0) eQ (ak aN (mC (.int 4)) (aL aU (aj (ak gIx (aa 0) (mC (.int 2))) aq)))) aq)))
def tU:List D->au->Res D:=bZ 1 JW
abbrev JX(Pr:Program)(w:World)(K:Frag)(mg:Str->Option Value)(base:Heap):Prop:=Can Pr w K mg base "cost_of" ["writes"] 1 (vSp K mg [.s] (rV K) tU)
theorem Yy(c:Def K mg "cost_of" wz)
  (B:cN mg)
  (h:bY K=true)
  (a:∃u,mg "WRITE_COST" = some u/\RelV (.int 4) u):
  JX Pr w K mg base:=by
 refine dD (k:=0) (b:=JW) c Yx (λ_ _ _ _ _ _=>bB λ_=>cU rfl) [.s] [] dw (λ_ _ _ _=>Rp.non) (body:=λf d A outer s H E g P=>?_);refine aQ ?_;refine cj ?_;refine bf ?_;refine cD (ms:=[.s]) (hv:=Hs) (Hr rfl) B.sum_ ?_;refine aG ?_ aC;refine aK ?_;refine pI (bu wz) ["writes"] ["write"] [] rfl (mz (aJ 0)) (λ_ _ _ _ P=>?_) (λ_ _ _ _ P=>?_) (λ_ _ _ _ P=>?_);exact bL (i:=0) (show(bQ ["writes"] ["write"] []).Nodup by decide +kernel) rfl (.inl rfl);exact nH;refine bf ?_;refine aW bU ?_ ?_;refine ao ?_;refine GX a (λ_ _ _=>Rp.int);refine aK ?_;refine cD (ms:=[.s]) (hv:=cL) cJ B.len_ ?_
 refine aG ?_ aC;refine ao ?_;refine bz (ao (az 0)) (ao aD)
abbrev Bs:Stmt:=top 16
theorem Bt:cg ["_law_script","_law_k","_law_number"] ["_law_script","_law_k"] (bu Bs):=by trivial
def tV:MS :=
  (aB (aY (aH (ak gLt (aa 1) (aL aU (aj (aa 0) aq)))) (aZ (ak gIx (aa 0) (aa 1))) bx)
  (aB (aF 2 (ak aN (ak cI (ak cI (aa 1) (aa 1)) (mC (.int 7919))) (mC (.int 104729))))
  (aB (aY (aH (ak gGt (aL aU (aj (aa 0) aq)) (mC (.int 0)))) (aF 2 (ak aN (aa 2) (ak cI (ak bD (ak gIx (aa 0) (ak bD (aa 1) (aL aU (aj (aa 0) aq)))) (mC (.int 1000003))) (mC (.int 48271))))) bx)
  (aZ (ak bD (ak cI (aa 2) (mC (.int 48271))) (mC (.int 2147483647)))))))
def gb:List D->au->Res D:=bZ 3 tV
abbrev Bu(Pr:Program)(w:World)(K:Frag)(mg:Str->Option Value)(base:Heap):Prop:=Can Pr w K mg base "_law_cell" ["_law_script","_law_k"] 1 (vSp K mg [.s,.s] (rV K) gb)
theorem Yz(a:Def K mg "_law_cell" Bs)
  (B:cN mg)
  (g:bY K=true):
  Bu Pr w K mg base:=by
 refine dD (k:=0) (b:=tV) a Bt (λ_ _ _ _ _ _=>bB λ_=>bB λ_=>cU rfl) [.s,.s] [.v] dw (λ_ _ _ _=>Rp.non) (body:=λf c A outer s H E d P=>?_);refine aO ?_ ?_;refine bR ?_ ?_ cC;refine bT jw (aJ 1) ?_ (bG _);refine aK ?_;refine cD (ms:=[.s]) (hv:=cL) cJ B.len_ ?_;refine aG (aJ 0) aC;refine aQ ?_;refine cj ?_;refine bz (aJ 0) (aJ 1);refine aO ?_ ?_;refine bH (i:=2) Bt.nd rfl (.inl rfl) ?_;refine bf ?_;refine aW bU ?_ (ao aD);refine aK ?_;refine aW iT ?_ (ao aD);refine aK ?_;refine aW iT (aJ 1) (aJ 1);refine aO ?_ ?_;refine bR ?_ ?_ cC
 refine bT nM ?_ (ao aD) (bG _);refine aK ?_;refine cD (ms:=[.s]) (hv:=cL) cJ B.len_ ?_;refine aG (aJ 0) aC;refine aQ ?_;refine bH (i:=2) Bt.nd rfl (.inl rfl) ?_;refine bf ?_;refine aW bU (ao (az 2)) ?_;refine aK ?_;refine aW iT ?_ (ao aD);refine aK ?_;refine aW dY ?_ (ao aD);refine ao ?_;refine bz (aJ 0) ?_;refine aK ?_;refine aW dY (aJ 1) ?_;refine aK ?_;refine cD (ms:=[.s]) (hv:=cL) cJ B.len_ ?_;refine aG (aJ 0) aC;refine aQ ?_;refine cj ?_;refine bf ?_;refine aW dY ?_ (ao aD);refine aK ?_;refine aW iT (ao (az 2)) (ao aD)
abbrev Bw:Stmt:=top 17
theorem oF:cg ["_law_cell_here","_law_k","_law_rest","_law_turn","_law_number"] ["_law_cell_here","_law_k"] (bu Bw):=by trivial
def JZ:MS :=
  (aB (aY (aH (ak gGt (aa 0) (ak fG (mC (.int 10)) (mC (.int 18))))) (aB (aF 2 (mG (aa 0)))
  (aB (bO (dq (aj (aa 1) aq)) (mgN 3) (aF 2 (ak dj (aa 2) (ak fG (mC (.int 10)) (mC (.int 9))))))
  (aZ (ak bD (aa 2) (ak fG (mC (.int 10)) (mC (.int 9))))))) bx)
  (aB (aF 4 (ak aN (ak bD (aa 0) (mC (.int 2147483647))) (mC (.int 7919))))
  (aB (bO (dq (aj (ak aN (aa 1) (mC (.int 2))) aq)) (mgN 3) (aF 4 (ak bD (ak aN (ak cI (aa 4) (mC (.int 48271))) (mC (.int 104729))) (mC (.int 2147483629)))))
  (aZ (ak dj (ak bD (ak cI (aa 4) (aa 4)) (mC (.int 998244353))) (mC (.int 11)))))))
def gk:List D->au->Res D:=bZ 5 JZ
abbrev Bx(Pr:Program)(w:World)(K:Frag)(mg:Str->Option Value)(base:Heap):Prop:=Can Pr w K mg base "_law_mix" ["_law_cell_here","_law_k"] 1 (vSp K mg [.s,.s] (rV K) gk)
theorem YB(a:Def K mg "_law_mix" Bw)
  (B:cN mg)
  (g:bY K=true):
  Bx Pr w K mg base:=by
 refine dD (k:=0) (b:=JZ) a oF (λ_ _ _ _ _ _=>bB λ_=>bB λ_=>cU rfl) [.s,.s] [.v,.v,.v] dw (λ_ _ _ _=>Rp.non) (body:=λf c A outer s H E d P=>?_);refine aO ?_ ?_;refine bR ?_ ?_ cC;refine bT nM (aJ 0) ?_ (bG _);refine aK ?_;refine aW pK (ao aD) (ao aD);refine aO ?_ ?_;refine bH (i:=2) oF.nd rfl (.inl rfl) (dX (aJ 0));refine aO ?_ ?_;refine eU rfl ?_ (bL (i:=3) oF.nd rfl (.inl rfl)) ?_;refine iB B.range_ ?_;refine aG (aJ 1) aC;refine aQ ?_;refine bH (i:=2) oF.nd rfl (.inl rfl) ?_;refine bf ?_;refine aW j9 (ao (az 2)) ?_;refine aK ?_;refine aW pK (ao aD) (ao aD)
 refine aQ ?_;refine cj ?_;refine bf ?_;refine aW dY (ao (az 2)) ?_;refine aK ?_;refine aW pK (ao aD) (ao aD);refine aO ?_ ?_;refine bH (i:=4) oF.nd rfl (.inl rfl) ?_;refine bf ?_;refine aW bU ?_ (ao aD);refine aK ?_;refine aW dY (aJ 0) (ao aD);refine aO ?_ ?_;refine eU rfl ?_ (bL (i:=3) oF.nd rfl (.inl rfl)) ?_;refine iB B.range_ ?_;refine aG ?_ aC;refine aK ?_;refine aW bU (aJ 1) (ao aD);refine aQ ?_;refine bH (i:=4) oF.nd rfl (.inl rfl) ?_;refine bf ?_;refine aW dY ?_ (ao aD);refine aK ?_;refine aW bU ?_ (ao aD);refine aK ?_;refine aW iT (ao (az 4)) (ao aD)
 refine aQ ?_;refine cj ?_;refine bf ?_;refine aW j9 ?_ (ao aD);refine aK ?_;refine aW dY ?_ (ao aD);refine aK ?_;refine aW iT (ao (az 4)) (ao (az 4))
abbrev BJ:Stmt:=top 18
theorem YC:cg ["_law_found"] ["_law_found"] (bu BJ):=by trivial
def J0:MS :=
  (aZ (fL (cH "int" (aa 0)) (pG (cH "bool" (aa 0)))))
def lq:List D->au->Res D:=bZ 1 J0
abbrev BK(Pr:Program)(w:World)(K:Frag)(mg:Str->Option Value)(base:Heap):Prop:=Can Pr w K mg base "_law_whole" ["_law_found"] 1 (vSp K mg [.s] (rV K) lq)
theorem YD(a:Def K mg "_law_whole" BJ)
  (B:cN mg)
  (g:bY K=true):
  BK Pr w K mg base:=by
 refine dD (k:=0) (b:=J0) a YC (λ_ _ _ _ _ _=>bB λ_=>cU rfl) [.s] [] dw (λ_ _ _ _=>Rp.non) (body:=λf c A outer s H E d P=>?_);refine aQ ?_;refine cj ?_;refine lW ?_ ?_;refine bf (gG "int" (hb:=rR) B.isinstance_ B.int_ (aJ 0));refine nG ?_;refine G8 ?_;refine bf (gG "bool" (hb:=uW) B.isinstance_ B.bool_ (aJ 0))
abbrev wA:Stmt:=top 19
theorem BP:cg ["_law_found","_law_due","_law_k"] ["_law_found","_law_due"] (bu wA):=by trivial
def lr(self:List D->au->Res D):MS :=
  (aB (aY (bK (cH "bool" (aa 1))) (aZ (fL (cH "bool" (aa 0)) (ak gEq (aa 0) (aa 1)))) bx)
  (aB (aY (bK (cH "int" (aa 1))) (aZ (fL (cH "int" (aa 0)) (fL (pG (cH "bool" (aa 0))) (ak gEq (aa 0) (aa 1))))) bx)
  (aB (aY (bK (cH "str" (aa 1))) (aZ (fL (cH "str" (aa 0)) (ak gEq (aa 0) (aa 1)))) bx)
  (aB (aY (bK (cH "tuple" (aa 1))) (aY (cB (bK (cH "tuple" (aa 0)))) (aZ (mC (.bl false))) bx) (aY (cB (bK (cH "list" (aa 0)))) (aZ (mC (.bl false))) bx))
  (aB (aY (aH (ak gNe (aL aU (aj (aa 0) aq)) (aL aU (aj (aa 1) aq)))) (aZ (mC (.bl false))) bx)
  (aB (bO (dq (aj (aL aU (aj (aa 1) aq)) aq)) (mgN 2) (aY (cB (bK (aM self (aj (ak gIx (aa 0) (aa 2)) (aj (ak gIx (aa 1) (aa 2)) aq))))) (aZ (mC (.bl false))) bx))
  (aZ (mC (.bl true)))))))))
def gZ:Nat->List D->au->Res D
 | 0=>bZ 3 xY
 |n+1=>bZ 3 (lr (gZ n))
def mW:List D->au->Res D:=gZ 6
abbrev J9(Pr:Program)(w:World)(K:Frag)(mg:Str->Option Value)(base:Heap):Prop:=Can Pr w K mg base "_law_alike" ["_law_found","_law_due"] 7 (vSp K mg [.s,.s] (rV K) mW)
theorem Ka(c:Def K mg "_law_alike" wA)
  (B:cN mg)
  (h:bY K=true):
  ∀n:Nat,Can Pr w K mg base "_law_alike" ["_law_found","_law_due"] (0+n+1) (vSp K mg [.s,.s] (rV K) (gZ n))
 | 0=>dD (k:=0) (b:=xY) c BP (λ_ _ _ _ _ _=>bB λ_=>bB λ_=>cU rfl) [.s,.s] [.v] dw (λ_ _ _ _=>Rp.non) (body:=λf d A outer s H E a P=>VN)
 |n+1=>by
  have g:=Ka c B h n;refine dD (k:=0+n+1) (b:=lr (gZ n)) c BP (λ_ _ _ _ _ _=>bB λ_=>bB λ_=>cU rfl) [.s,.s] [.v] dw (λ_ _ _ _=>Rp.non) (body:=λf d A outer s H E a P=>?_);refine aO ?_ ?_;refine bR ?_ ?_ cC;refine fC ?_;refine aK (gG "bool" (hb:=uW) B.isinstance_ B.bool_ (aJ 1));refine aQ ?_;refine cj ?_;refine lW ?_ ?_;refine bf (gG "bool" (hb:=uW) B.isinstance_ B.bool_ (aJ 0));refine nG ?_;refine bf ?_;refine jH (dR a) (aJ 0) (aJ 1) (bG _);refine aO ?_ ?_;refine bR ?_ ?_ cC;refine fC ?_;refine aK (gG "int" (hb:=rR) B.isinstance_ B.int_ (aJ 1))
  refine aQ ?_;refine cj ?_;refine lW ?_ ?_;refine bf (gG "int" (hb:=rR) B.isinstance_ B.int_ (aJ 0));refine lW ?_ ?_;refine G8 ?_;refine bf (gG "bool" (hb:=uW) B.isinstance_ B.bool_ (aJ 0));refine nG ?_;refine bf ?_;refine jH (dR a) (aJ 0) (aJ 1) (bG _);refine aO ?_ ?_;refine bR ?_ ?_ cC;refine fC ?_;refine aK (gG "str" (hb:=Ht) B.isinstance_ B.str_ (aJ 1));refine aQ ?_;refine cj ?_;refine lW ?_ ?_;refine bf (gG "str" (hb:=Ht) B.isinstance_ B.str_ (aJ 0));refine nG ?_;refine bf ?_;refine jH (dR a) (aJ 0) (aJ 1) (bG _);refine aO ?_ ?_;refine bR ?_ ?_ ?_
  refine fC ?_;refine aK (gG "tuple" (hb:=yq) B.isinstance_ B.tuple_ (aJ 1));refine aQ ?_;refine bR ?_ ?_ cC;refine gq ?_;refine fC ?_;refine aK (gG "tuple" (hb:=yq) B.isinstance_ B.tuple_ (aJ 0));refine aQ (cj fB);refine aQ ?_;refine bR ?_ ?_ cC;refine gq ?_;refine fC ?_;refine aK (gG "list" (hb:=mq) B.isinstance_ B.list_ (aJ 0));refine aQ (cj fB);refine aO ?_ ?_;refine bR ?_ ?_ cC;refine bT (kj a) ?_ ?_ (bG _);refine aK ?_;refine cD (ms:=[.s]) (hv:=cL) cJ B.len_ ?_;refine aG (aJ 0) aC;refine aK ?_;refine cD (ms:=[.s]) (hv:=cL) cJ B.len_ ?_;refine aG (aJ 1) aC
  refine aQ (cj fB);refine aO ?_ ?_;refine eU rfl ?_ (bL (i:=2) BP.nd rfl (.inl rfl)) ?_;refine iB B.range_ ?_;refine aG ?_ aC;refine aK ?_;refine cD (ms:=[.s]) (hv:=cL) cJ B.len_ ?_;refine aG (aJ 1) aC;refine aQ ?_;refine bR ?_ ?_ cC;refine gq ?_;refine fC ?_;refine ao ?_;refine cY g (a.mono (by omega)) ?_;refine aG ?_ ?_;refine ao ?_;refine bz (aJ 0) (ao (az 2));refine aG ?_ aC;refine ao ?_;refine bz (aJ 1) (ao (az 2));refine aQ (cj fB);refine aQ (cj fB)
theorem YF(a:Def K mg "_law_alike" wA)
  (B:cN mg)
  (b:bY K=true):
  Can Pr w K mg base "_law_alike" ["_law_found","_law_due"] 7 (vSp K mg [.s,.s] (rV K) mW):=Ka a B b 6
abbrev wB:Stmt:=top 20
theorem YG:cg ["_law_picture"] ["_law_picture"] (bu wB):=by trivial
def Kc:MS :=
  (aZ (dB (cA (aa 0)) 1 [] (mgN 0) eQ (mMl (aL iy (aj (aa 0) aq)))))
def mY:List D->au->Res D:=bZ 1 Kc
abbrev BR(Pr:Program)(w:World)(K:Frag)(mg:Str->Option Value)(base:Heap):Prop:=Can Pr w K mg base "_law_copy" ["_law_picture"] 1 (vSp K mg [.s] (rO K) mY)
theorem YH(a:Def K mg "_law_copy" wB)
  (B:cN mg)
  (g:bY K=true):
  BR Pr w K mg base:=by
 refine dD (k:=0) (b:=Kc) a YG (λ_ _ _ _ _ _=>bB λ_=>cU rfl) [.s] [] fV (λ_ _ _ _=>.inl ⟨rfl,Rp.non⟩) (body:=λf c A outer s H E d P=>?_);refine aQ ?_;refine jK ?_;refine pI (bu wB) ["_law_picture"] ["_law_row_here"] [] rfl (mz (aJ 0)) (λ_ _ _ _ P=>?_) (λ_ _ _ _ P=>?_) (λ_ _ _ _ P=>?_);exact bL (i:=0) (show(bQ ["_law_picture"] ["_law_row_here"] []).Nodup by decide +kernel) rfl (.inl rfl);exact nH;refine u6 ?_;refine pM (ms:=[.s]) (hv:=mq) uV B.list_ ?_;refine aG (ao (az 0)) aC
abbrev BW:Stmt:=top 21
theorem oH:cg ["_law_cell_here","_law_many","_law_number","_law_rest","_law_found","_law_k"] ["_law_cell_here","_law_many"] (bu BW):=by trivial
def Kd:MS :=
  (aB (aF 2 (ak aN (ak cI (ak aN (ak bD (aa 0) (mC (.int 2147483647))) (mC (.int 7919))) (mC (.int 48271))) (mC (.int 104729))))
  (aB (aF 3 (mG (aa 0)))
  (aB (aF 4 (bF aq))
  (aB (bO (dq (aj (aa 1) aq)) (mgN 5) (aY (aH (ak gGt (aa 0) (ak fG (mC (.int 10)) (mC (.int 18))))) (aB (cM 4 (ak bD (aa 3) (ak fG (mC (.int 10)) (mC (.int 9)))))
  (aF 3 (ak dj (aa 3) (ak fG (mC (.int 10)) (mC (.int 9)))))) (aB (aF 2 (ak bD (ak aN (ak cI (aa 2) (mC (.int 48271))) (mC (.int 104729))) (mC (.int 2147483629))))
  (cM 4 (ak dj (ak bD (ak cI (aa 2) (aa 2)) (mC (.int 998244353))) (mC (.int 11)))))))
  (aZ (aa 4))))))
def qG:List D->au->Res D:=bZ 6 Kd
abbrev BX(Pr:Program)(w:World)(K:Frag)(mg:Str->Option Value)(base:Heap):Prop:=Can Pr w K mg base "_law_stream" ["_law_cell_here","_law_many"] 1 (vSp K mg [.s,.s] (rO K) qG)
theorem YJ(a:Def K mg "_law_stream" BW)
  (B:cN mg)
  (g:bY K=true):
  BX Pr w K mg base:=by
 refine dD (k:=0) (b:=Kd) a oH (λ_ _ _ _ _ _=>bB λ_=>bB λ_=>cU rfl) [.s,.s] [.v,.v,.o,.v] fV (λ_ _ _ _=>.inl ⟨rfl,Rp.non⟩) (body:=λf c A outer s H E d P=>?_);refine aO ?_ ?_;refine bH (i:=2) oH.nd rfl (.inl rfl) ?_;refine bf ?_;refine aW bU ?_ (ao aD);refine aK ?_;refine aW iT ?_ (ao aD);refine aK ?_;refine aW bU ?_ (ao aD);refine aK ?_;refine aW dY (aJ 0) (ao aD);refine aO ?_ ?_;refine bH (i:=3) oH.nd rfl (.inl rfl) (dX (aJ 0));refine aO ?_ ?_;refine jt (i:=4) oH.nd rfl (.inl rfl) (dJ 0 aC);refine aO ?_ (aQ (pH 4));refine eU rfl ?_ (bL (i:=5) oH.nd rfl (.inl rfl)) ?_
 refine iB B.range_ ?_;refine aG (aJ 1) aC;refine aQ ?_;refine bR ?_ ?_ ?_;refine bT nM (aJ 0) ?_ (bG _);refine aK ?_;refine aW pK (ao aD) (ao aD);refine aO ?_ ?_;refine iC 4 ?_;refine bf ?_;refine aW dY (ao (az 3)) ?_;refine aK ?_;refine aW pK (ao aD) (ao aD);refine aQ ?_;refine bH (i:=3) oH.nd rfl (.inl rfl) ?_;refine bf ?_;refine aW j9 (ao (az 3)) ?_;refine aK ?_;refine aW pK (ao aD) (ao aD);refine aO ?_ ?_;refine bH (i:=2) oH.nd rfl (.inl rfl) ?_;refine bf ?_;refine aW dY ?_ (ao aD);refine aK ?_;refine aW bU ?_ (ao aD);refine aK ?_
 refine aW iT (ao (az 2)) (ao aD);refine aQ ?_;refine iC 4 ?_;refine bf ?_;refine aW j9 ?_ (ao aD);refine aK ?_;refine aW dY ?_ (ao aD);refine aK ?_;refine aW iT (ao (az 2)) (ao (az 2))
abbrev Ca:Stmt:=top 22
theorem tW:cg ["_law_number","_law_room","_law_some","_law_ink","_law_ground","_law_way"] ["_law_number","_law_room"] (bu Ca):=by trivial
def Ke:MS :=
  (aB (aF 2 (mC (.str [97,98,99,100,101,102,103,104,105,106,107,108,109,110,111,112,113,114,115,116,117,118,119,120,121,122,48,49,50,51,52,53,54,55,56,57,33,34,35,36,38,39,40,41,42,43,44,45,46,47,58,59,60,61,62,63,64,91,92,93,94,95,96,123,124,125])))
  (aB (aF 3 (ak gIx (mC (.str [97,98,99,100,101,102,103,104,46])) (ak bD (aa 0) (mC (.int 9)))))
  (aB (aF 4 (ak gIx (mC (.str [97,98,99,100,101,102,103,104,46])) (ak bD (ak dj (aa 0) (mC (.int 9))) (mC (.int 9)))))
  (aB (aF 5 (ak bD (ak dj (aa 0) (mC (.int 81))) (mC (.int 6))))
  (aB (aY (fW (aH (ak gEq (aa 5) (mC (.int 0)))) (aH (ak gGt (aa 1) (mC (.int 1))))) (aZ (bF (aj (bA (aj (ak gIx (mC (.str [65,66,67,68,69,70,71,72,73,74,75,76,77,78,79,80,81,82,83,84,85,86,87,88,89,90])) (ak bD (ak dj (aa 0) (mC (.int 486))) (mC (.int 26)))) (aj (aa 3) (aj (aa 4) aq)))) (aj (bA (aj (mC (.str [])) (aj (aa 3) (aj (aa 4) aq)))) aq)))) bx)
  (aB (aY (aH (ak gEq (aa 5) (mC (.int 1)))) (aZ (bF (aj (bA (aj (mC (.str [32])) (aj (mC (.str [46])) (aj (aa 4) aq)))) aq))) bx)
  (aB (aY (aH (ak gEq (aa 5) (mC (.int 2)))) (aZ (bF (aj (bA (aj (mC (.str [32])) (aj (mC (.str [46])) (aj (mC (.str [46])) aq)))) aq))) bx)
  (aZ (bF (aj (bA (aj (ak gIx (aa 2) (ak bD (ak dj (aa 0) (mC (.int 486))) (aL aU (aj (aa 2) aq)))) (aj (aa 3) (aj (aa 4) aq)))) aq))))))))))
def oJ:List D->au->Res D:=bZ 6 Ke
abbrev Cd(Pr:Program)(w:World)(K:Frag)(mg:Str->Option Value)(base:Heap):Prop:=Can Pr w K mg base "_law_cells" ["_law_number","_law_room"] 1 (vSp K mg [.s,.s] (rO K) oJ)
theorem YK(c:Def K mg "_law_cells" Ca)
  (B:cN mg)
  (g:bY K=true):
  Cd Pr w K mg base:=by
 refine dD (k:=0) (b:=Ke) c tW (λ_ _ _ _ _ _=>bB λ_=>bB λ_=>cU rfl) [.s,.s] [.v,.v,.v,.v] fV (λ_ _ _ _=>.inl ⟨rfl,Rp.non⟩) (body:=λf d A outer s H E a P=>?_);refine aO (bH (i:=2) tW.nd rfl (.inl rfl) (dg [97,98,99,100,101,102,103,104,105,106,107,108,109,110,111,112,113,114,115,116,117,118,119,120,121,122,48,49,50,51,52,53,54,55,56,57,33,34,35,36,38,39,40,41,42,43,44,45,46,47,58,59,60,61,62,63,64,91,92,93,94,95,96,123,124,125])) ?_;refine aO ?_ ?_;refine bH (i:=3) tW.nd rfl (.inl rfl) ?_;refine bz (ao (dg [97,98,99,100,101,102,103,104,46])) ?_;refine aK ?_
 refine aW dY (aJ 0) (ao aD);refine aO ?_ ?_;refine bH (i:=4) tW.nd rfl (.inl rfl) ?_;refine bz (ao (dg [97,98,99,100,101,102,103,104,46])) ?_;refine aK ?_;refine aW dY ?_ (ao aD);refine aK ?_;refine aW j9 (aJ 0) (ao aD);refine aO ?_ ?_;refine bH (i:=5) tW.nd rfl (.inl rfl) ?_;refine bf ?_;refine aW dY ?_ (ao aD);refine aK ?_;refine aW j9 (aJ 0) (ao aD);refine aO ?_ ?_;refine bR ?_ ?_ cC;refine gU ?_;refine pF ?_ ?_;refine bT (dR a) (ao (az 5)) (ao aD) (bG _);refine pC ?_;refine bT nM (aJ 1) (ao aD) (bG _);refine aQ ?_;refine jK ?_;refine dJ 2 ?_
 refine aR ?_ ?_;refine cX 3 ?_;refine aR ?_ ?_;refine bz (ao (dg [65,66,67,68,69,70,71,72,73,74,75,76,77,78,79,80,81,82,83,84,85,86,87,88,89,90])) ?_;refine aK ?_;refine aW dY ?_ (ao aD);refine aK ?_;refine aW j9 (aJ 0) (ao aD);refine aR (az 3) ?_;refine aR (az 4) aC;refine aR ?_ aC;refine cX 3 ?_;refine aR (dg []) ?_;refine aR (az 3) ?_;refine aR (az 4) aC;refine aO ?_ ?_;refine bR ?_ ?_ cC;refine bT (dR a) (ao (az 5)) (ao aD) (bG _);refine aQ ?_;refine jK ?_;refine dJ 1 ?_;refine aR ?_ aC;refine cX 3 ?_;refine aR (dg [32]) ?_;refine aR (dg [46]) ?_
 refine aR (az 4) aC;refine aO ?_ ?_;refine bR ?_ ?_ cC;refine bT (dR a) (ao (az 5)) (ao aD) (bG _);refine aQ ?_;refine jK ?_;refine dJ 1 ?_;refine aR ?_ aC;refine cX 3 ?_;refine aR (dg [32]) ?_;refine aR (dg [46]) ?_;refine aR (dg [46]) aC;refine aQ ?_;refine jK ?_;refine dJ 1 ?_;refine aR ?_ aC;refine cX 3 ?_;refine aR ?_ ?_;refine bz (ao (az 2)) ?_;refine aK ?_;refine aW dY ?_ ?_;refine aK ?_;refine aW j9 (aJ 0) (ao aD);refine aK ?_;refine cD (ms:=[.s]) (hv:=cL) cJ B.len_ ?_;refine aG (ao (az 2)) aC;refine aR (az 3) ?_;refine aR (az 4) aC
abbrev Cg:Stmt:=top 23
theorem wC:cg ["_law_cell_here","_law_wide","_law_row_here","_law_number"] ["_law_cell_here","_law_wide"] (bu Cg):=by trivial
def Kf:MS :=
  (aB (aF 2 (bF aq))
  (aB (bO (cA (aM qG (aj (aa 0) (aj (aa 1) aq)))) (mgN 3) (aY (aH (ak gLt (aL aU (aj (aa 2) aq)) (aa 1))) (aF 2 (ak aN (aa 2) (aM oJ (aj (aa 3) (aj (ak jL (aa 1) (aL aU (aj (aa 2) aq))) aq))))) bx))
  (aZ (aa 2))))
def lu:List D->au->Res D:=bZ 4 Kf
abbrev Kg(Pr:Program)(w:World)(K:Frag)(mg:Str->Option Value)(base:Heap):Prop:=Can Pr w K mg base "_law_row" ["_law_cell_here","_law_wide"] 2 (vSp K mg [.s,.s] (rV K) lu)
theorem YL(g:Def K mg "_law_row" Cg)
  (B:cN mg)
  (j:bY K=true)
  (d:BX Pr w K mg base)
  (c:Cd Pr w K mg base):
  Kg Pr w K mg base:=by
 refine dD (k:=1) (b:=Kf) g wC (λ_ _ _ _ _ _=>bB λ_=>bB λ_=>cU rfl) [.s,.s] [.v,.v] dw (λ_ _ _ _=>Rp.non) (body:=λf h A outer s H E a P=>?_);refine aO ?_ ?_;refine bH (i:=2) wC.nd rfl (.inl rfl) ?_;refine bf (dJ 0 aC);refine aO ?_ ?_;refine eU rfl ?_ (bL (i:=3) wC.nd rfl (.inl rfl)) ?_;refine pX ?_;refine pO ?_;refine bf ?_;refine gW d (a.mono (by decide)) ?_;refine aG (aJ 0) ?_;refine aG (aJ 1) aC;refine aQ ?_;refine bR ?_ ?_ cC;refine bT jw ?_ (aJ 1) (bG _);refine aK ?_;refine cD (ms:=[.s]) (hv:=cL) cJ B.len_ ?_;refine aG (ao (az 2)) aC
 refine aQ ?_;refine bH (i:=2) wC.nd rfl (.inl rfl) ?_;refine bf ?_;refine aW bU (ao (az 2)) ?_;refine aK ?_;refine gW c (a.mono (by decide)) ?_;refine aG (ao (az 3)) ?_;refine aG ?_ aC;refine aK ?_;refine aW yo (aJ 1) ?_;refine aK ?_;refine cD (ms:=[.s]) (hv:=cL) cJ B.len_ ?_;refine aG (ao (az 2)) aC;refine aQ (cj (az 2))
abbrev Cj:Stmt:=top 24
theorem lz:cg ["_law_row_here","_law_cell_here","_law_xs","_law_keep","_law_found","_law_number","_law_col","_law_size_here"] ["_law_row_here","_law_cell_here"] (bu Cj):=by trivial
def Kh:MS :=
  (aB (aF 2 (aM qG (aj (aa 1) (aj (ak aN (aL aU (aj (aa 0) aq)) (mC (.int 1))) aq))))
  (aB (aF 3 (ak gIx (bF (aj (mC (.int 2)) (aj (mC (.int 4)) (aj (mC (.int 9)) (aj (mC (.int 30)) aq))))) (ak bD (ak gIx (aa 2) (mUn f9 (mC (.int 1)))) (mC (.int 4)))))
  (aB (aF 4 (bF aq))
  (aB (bO (cA (mSl (aa 2) moN (moS (mUn f9 (mC (.int 1)))))) (mgN 5) (aB (aF 6 (aL aU (aj (aa 4) aq)))
  (aY (aH (ak gLt (aa 6) (aL aU (aj (aa 0) aq)))) (aB (aF 7 (ak aN (mC (.int 1)) (aL nP (aj (fL (ak gLt (ak aN (aa 6) (mC (.int 1))) (aL aU (aj (aa 0) aq))) (ak gEq (ak gIx (ak gIx (aa 0) (ak aN (aa 6) (mC (.int 1)))) (mC (.int 0))) (mC (.str [])))) aq))))
  (aY (fW (aH (ak gNe (ak gIx (ak gIx (aa 0) (aa 6)) (mC (.int 0))) (mC (.str [])))) (aH (ak gGt (ak bD (aa 5) (aa 3)) (mC (.int 0))))) (aF 4 (ak aN (aa 4) (mSl (aa 0) (moS (aa 6)) (moS (ak aN (aa 6) (aa 7)))))) (aF 4 (ak aN (aa 4) (aM oJ (aj (ak dj (aa 5) (aa 3)) (aj (ak jL (aL aU (aj (aa 0) aq)) (aa 6)) aq))))))) bx)))
  (aZ (aa 4))))))
def tX:List D->au->Res D:=bZ 8 Kh
abbrev Kl(Pr:Program)(w:World)(K:Frag)(mg:Str->Option Value)(base:Heap):Prop:=Can Pr w K mg base "_law_changed" ["_law_row_here","_law_cell_here"] 2 (vSp K mg [.s,.s] (rV K) tX)
theorem YM(g:Def K mg "_law_changed" Cj)
  (B:cN mg)
  (j:bY K=true)
  (d:BX Pr w K mg base)
  (c:Cd Pr w K mg base):
  Kl Pr w K mg base:=by
 refine dD (k:=1) (b:=Kh) g lz (λ_ _ _ _ _ _=>bB λ_=>bB λ_=>cU rfl) [.s,.s] [.v,.v,.v,.v,.v,.v] dw (λ_ _ _ _=>Rp.non) (body:=λf h A outer s H E a P=>?_);refine aO ?_ ?_;refine bH (i:=2) lz.nd rfl (.inl rfl) ?_;refine bf ?_;refine gW d (a.mono (by decide)) ?_;refine aG (aJ 1) ?_;refine aG ?_ aC;refine aK ?_;refine aW bU ?_ (ao aD);refine aK ?_;refine cD (ms:=[.s]) (hv:=cL) cJ B.len_ ?_;refine aG (aJ 0) aC;refine aO ?_ ?_;refine bH (i:=3) lz.nd rfl (.inl rfl) ?_;refine bz ?_ ?_;refine aK ?_;refine dJ 4 ?_;refine aR aD ?_;refine aR aD ?_
 refine aR aD ?_;refine aR aD aC;refine aK ?_;refine aW dY ?_ (ao aD);refine ao ?_;refine bz (ao (az 2)) ?_;refine aK ?_;refine pL (ao aD);refine aO ?_ ?_;refine bH (i:=4) lz.nd rfl (.inl rfl) ?_;refine bf (dJ 0 aC);refine aO ?_ ?_;refine eU rfl ?_ (bL (i:=5) lz.nd rfl (.inl rfl)) ?_;refine pX ?_;refine pO ?_;refine bf ?_;refine km (ao (az 2)) Ho ?_;refine gj ?_;refine bf ?_;refine pL (ao aD);refine aO ?_ ?_;refine bH (i:=6) lz.nd rfl (.inl rfl) ?_;refine bf ?_;refine cD (ms:=[.s]) (hv:=cL) cJ B.len_ ?_;refine aG (ao (az 4)) aC;refine aQ ?_;refine bR ?_ ?_ cC
 refine bT jw (ao (az 6)) ?_ (bG _);refine aK ?_;refine cD (ms:=[.s]) (hv:=cL) cJ B.len_ ?_;refine aG (aJ 0) aC;refine aO ?_ ?_;refine bH (i:=7) lz.nd rfl (.inl rfl) ?_;refine bf ?_;refine aW bU (ao aD) ?_;refine aK ?_;refine pM (ms:=[.s]) (hv:=rR) Hq B.int_ ?_;refine aG ?_ aC;refine ao ?_;refine lW ?_ ?_;refine bf ?_;refine jH jw ?_ ?_ (bG _);refine aK ?_;refine aW bU (ao (az 6)) (ao aD);refine aK ?_;refine cD (ms:=[.s]) (hv:=cL) cJ B.len_ ?_;refine aG (aJ 0) aC;refine nG ?_;refine bf ?_;refine jH (dR a) ?_ (ao (dg [])) (bG _);refine ao ?_
 refine bz ?_ (ao aD);refine ao ?_;refine bz (aJ 0) ?_;refine aK ?_;refine aW bU (ao (az 6)) (ao aD);refine aQ ?_;refine bR ?_ ?_ ?_;refine gU ?_;refine pF ?_ ?_;refine bT (kj a) ?_ (ao (dg [])) (bG _);refine ao ?_;refine bz ?_ (ao aD);refine ao ?_;refine bz (aJ 0) (ao (az 6));refine pC ?_;refine bT nM ?_ (ao aD) (bG _);refine aK ?_;refine aW dY (ao (az 5)) (ao (az 3));refine aQ ?_;refine bH (i:=4) lz.nd rfl (.inl rfl) ?_;refine bf ?_;refine aW bU (ao (az 4)) ?_;refine aK ?_;refine km (aJ 0) (gj (az 6)) ?_;refine gj ?_;refine bf ?_;refine aW bU (ao (az 6)) (ao (az 7))
 refine aQ ?_;refine bH (i:=4) lz.nd rfl (.inl rfl) ?_;refine bf ?_;refine aW bU (ao (az 4)) ?_;refine aK ?_;refine gW c (a.mono (by decide)) ?_;refine aG ?_ ?_;refine aK ?_;refine aW j9 (ao (az 5)) (ao (az 3));refine aG ?_ aC;refine aK ?_;refine aW yo ?_ (ao (az 6));refine aK ?_;refine cD (ms:=[.s]) (hv:=cL) cJ B.len_ ?_;refine aG (aJ 0) aC;refine aQ (cj (az 4))
abbrev Cm:Stmt:=top 25
theorem tY:cg ["_law_script","_law_cell_here","_law_high","_law_wide"] ["_law_script"] (bu Cm):=by trivial
def wD:MS :=
  (aB (aF 1 (aM gb (aj (aa 0) (aj (mC (.int 0)) aq))))
  (aB (aF 2 (ak aN (mC (.int 1)) (ak bD (aM gk (aj (aa 1) (aj (mC (.int 1)) aq))) (ak gIx (bF (aj (mC (.int 3)) (aj (mC (.int 4)) (aj (mC (.int 3)) (aj (mC (.int 12)) aq))))) (ak bD (aM gk (aj (aa 1) (aj (mC (.int 2)) aq))) (mC (.int 4)))))))
  (aB (aF 3 (ak aN (mC (.int 2)) (ak bD (aM gk (aj (aa 1) (aj (mC (.int 3)) aq))) (ak gIx (bF (aj (mC (.int 6)) (aj (mC (.int 11)) (aj (mC (.int 11)) (aj (mC (.int 39)) aq))))) (ak bD (aM gk (aj (aa 1) (aj (mC (.int 4)) aq))) (mC (.int 4)))))))
  (aB (aY (aH (ak gGt (aa 2) (mC (.int 4)))) (aF 3 (aL pN (aj (aa 3) (aj (mC (.int 16)) aq)))) bx)
  (aZ (bA (aj (aa 2) (aj (aa 3) aq))))))))
def wF:List D->au->Res D:=bZ 4 wD
abbrev Km(Pr:Program)(w:World)(K:Frag)(mg:Str->Option Value)(base:Heap):Prop:=Can Pr w K mg base "_law_size" ["_law_script"] 2 (vSp K mg [.s] (rV K) wF)
theorem YQ(g:Def K mg "_law_size" Cm)
  (B:cN mg)
  (j:bY K=true)
  (d:Bu Pr w K mg base)
  (c:Bx Pr w K mg base):
  Km Pr w K mg base:=by
 refine dD (k:=1) (b:=wD) g tY (λ_ _ _ _ _ _=>bB λ_=>cU rfl) [.s] [.v,.v,.v] dw (λ_ _ _ _=>Rp.non) (body:=λf h A outer s H E a P=>?_);refine aO ?_ ?_;refine bH (i:=1) tY.nd rfl (.inl rfl) ?_;refine cY d (a.mono (by decide)) ?_;refine aG (aJ 0) ?_;refine aG (ao aD) aC;refine aO ?_ ?_;refine bH (i:=2) tY.nd rfl (.inl rfl) ?_;refine bf ?_;refine aW bU (ao aD) ?_;refine aK ?_;refine aW dY ?_ ?_;refine ao ?_;refine cY c (a.mono (by decide)) ?_;refine aG (ao (az 1)) ?_;refine aG (ao aD) aC;refine ao ?_;refine bz ?_ ?_;refine aK ?_;refine dJ 4 ?_
 refine aR aD ?_;refine aR aD ?_;refine aR aD ?_;refine aR aD aC;refine aK ?_;refine aW dY ?_ (ao aD);refine ao ?_;refine cY c (a.mono (by decide)) ?_;refine aG (ao (az 1)) ?_;refine aG (ao aD) aC;refine aO ?_ ?_;refine bH (i:=3) tY.nd rfl (.inl rfl) ?_;refine bf ?_;refine aW bU (ao aD) ?_;refine aK ?_;refine aW dY ?_ ?_;refine ao ?_;refine cY c (a.mono (by decide)) ?_;refine aG (ao (az 1)) ?_;refine aG (ao aD) aC;refine ao ?_;refine bz ?_ ?_;refine aK ?_;refine dJ 4 ?_;refine aR aD ?_;refine aR aD ?_;refine aR aD ?_;refine aR aD aC
 refine aK ?_;refine aW dY ?_ (ao aD);refine ao ?_;refine cY c (a.mono (by decide)) ?_;refine aG (ao (az 1)) ?_;refine aG (ao aD) aC;refine aO ?_ ?_;refine bR ?_ ?_ cC;refine bT nM (ao (az 2)) (ao aD) (bG _);refine aQ ?_;refine bH (i:=3) tY.nd rfl (.inl rfl) ?_;refine bf ?_;refine cD (ms:=[.s,.s]) (hv:=Va) (U9 rfl) B.min_ ?_;refine aG (ao (az 3)) ?_;refine aG (ao aD) aC;refine aQ ?_;refine cj ?_;refine cX 2 ?_;refine aR (az 2) ?_;refine aR (az 3) aC
abbrev tZ:Stmt:=top 26
theorem lC:cg ["_law_script","_law_high","_law_wide","_law_one","_law_other","_law_row_here","_law_cell_here","_law_way"] ["_law_script"] (bu tZ):=by trivial
def Ko:MS :=
  (aB (iw (aM wF (aj (aa 0) aq)) (dM 2 (bC (mgN 1) (bC (mgN 2) dU))))
  (aB (aF 3 (dB (dq (aj (aa 1) aq)) 1 [0,2] (mgN 0) eQ (aM lu (aj (aM gb (aj (aa 1) (aj (ak aN (mC (.int 1)) (aa 0)) aq))) (aj (aa 2) aq)))))
  (aB (aF 4 (bF aq))
  (aB (bO (dq (aj (aa 1) aq)) (mgN 5) (aB (aF 6 (aM gb (aj (aa 0) (aj (ak aN (mC (.int 13)) (aa 5)) aq))))
  (aB (aF 7 (ak bD (aM gk (aj (aa 6) (aj (mC (.int 0)) aq))) (mC (.int 6))))
  (aY (aH (ak gEq (aa 7) (mC (.int 0)))) (cM 4 (aL iy (aj (ak gIx (aa 3) (aa 5)) aq))) (aY (aH (ak gEq (aa 7) (mC (.int 1)))) (cM 4 (aM lu (aj (aa 6) (aj (aa 2) aq)))) (aY (aH (ak gEq (aa 7) (mC (.int 2)))) (cM 4 (ak cI (bF (aj (bA (aj (mC (.str [32])) (aj (mC (.str [46])) (aj (mC (.str [46])) aq)))) aq)) (aa 2))) (cM 4 (aM tX (aj (ak gIx (aa 3) (aa 5)) (aj (aa 6) aq))))))))))
  (aB (aY (aH (ak gEq (ak bD (aM gk (aj (aM gb (aj (aa 0) (aj (mC (.int 0)) aq))) (aj (mC (.int 5)) aq))) (mC (.int 5))) (mC (.int 1)))) (aF 3 (dB (cA (aa 3)) 1 [2] (mgN 0) eQ (ak cI (bF (aj (bA (aj (mC (.str [32])) (aj (mC (.str [46])) (aj (mC (.str [46])) aq)))) aq)) (aa 1)))) bx)
  (nU (aZ (bA (aj (aa 3) (aj (aa 4) aq))))))))))
def wG:List D->au->Res D:=bZ 8 Ko
abbrev Kp(Pr:Program)(w:World)(K:Frag)(mg:Str->Option Value)(base:Heap):Prop:=Can Pr w K mg base "_law_pictures" ["_law_script"] 3 (vSp K mg [.s] (rV K) wG)
theorem YS(l:Def K mg "_law_pictures" tZ)
  (B:cN mg)
  (n:bY K=true)
  (j:Km Pr w K mg base)
  (d:Kg Pr w K mg base)
  (c:Bu Pr w K mg base)
  (g:Bx Pr w K mg base)
  (h:Kl Pr w K mg base):
  Kp Pr w K mg base:=by
 refine dD (k:=2) (b:=Ko) l lC (λ_ _ _ _ _ _=>bB λ_=>cU rfl) [.s] [.v,.v,.v,.o,.v,.v,.v] dw (λ_ _ _ _=>Rp.non) (body:=λf m A outer s H E a P=>?_);refine aO ?_ ?_;refine rQ ?_ ?_;refine cY j (a.mono (by decide)) ?_;refine aG (aJ 0) aC;refine iR 2 rfl ?_;refine dz (bL (i:=1) lC.nd rfl (.inl rfl)) ?_;refine dz (bL (i:=2) lC.nd rfl (.inr rfl)) iQ;refine aO ?_ ?_;refine yj (i:=3) (bu tZ) ["_law_script","_law_high","_law_wide","_law_one","_law_other","_law_row_here","_law_cell_here","_law_way"] ["_law_row_here"] [0,2] lC.nd rfl (.inl rfl) rfl ?_ (λ_ _ _ _ P=>?_) (λ_ _ _ _ P=>?_) (λ_ _ _ _ P=>?_)
 refine ye ?_;refine iB B.range_ ?_;refine aG (ao (az 1)) aC;exact bL (i:=0) (show(bQ ["_law_script","_law_high","_law_wide","_law_one","_law_other","_law_row_here","_law_cell_here","_law_way"] ["_law_row_here"] [0,2]).Nodup by decide +kernel) rfl (.inl rfl);exact nH;refine cY d (a.mono (by decide)) ?_;refine aG ?_ ?_;refine ao ?_;refine cY c (a.mono (by decide)) ?_;refine aG (aJ 1) ?_;refine aG ?_ aC;refine aK ?_;refine aW bU (ao aD) (ao (az 0));refine aG (ao (az 2)) aC;refine aO ?_ ?_;refine jt (i:=4) lC.nd rfl (.inl rfl) (dJ 0 aC);refine aO ?_ ?_;refine eU rfl ?_ (bL (i:=5) lC.nd rfl (.inl rfl)) ?_
 refine iB B.range_ ?_;refine aG (ao (az 1)) aC;refine aO ?_ ?_;refine bH (i:=6) lC.nd rfl (.inl rfl) ?_;refine cY c (a.mono (by decide)) ?_;refine aG (aJ 0) ?_;refine aG ?_ aC;refine aK ?_;refine aW bU (ao aD) (ao (az 5));refine aO ?_ ?_;refine bH (i:=7) lC.nd rfl (.inl rfl) ?_;refine bf ?_;refine aW dY ?_ (ao aD);refine ao ?_;refine cY g (a.mono (by decide)) ?_;refine aG (ao (az 6)) ?_;refine aG (ao aD) aC;refine aQ ?_;refine bR ?_ ?_ ?_;refine bT (dR a) (ao (az 7)) (ao aD) (bG _);refine aQ ?_;refine iC 4 ?_;refine bf ?_;refine pM (ms:=[.s]) (hv:=mq) uV B.list_ ?_
 refine aG ?_ aC;refine ao ?_;refine bz (ao (az 3)) (ao (az 5));refine aQ ?_;refine bR ?_ ?_ ?_;refine bT (dR a) (ao (az 7)) (ao aD) (bG _);refine aQ ?_;refine iC 4 ?_;refine cY d (a.mono (by decide)) ?_;refine aG (ao (az 6)) ?_;refine aG (ao (az 2)) aC;refine aQ ?_;refine bR ?_ ?_ ?_;refine bT (dR a) (ao (az 7)) (ao aD) (bG _);refine aQ ?_;refine iC 4 ?_;refine bf ?_;refine aW iT ?_ (ao (az 2));refine aK ?_;refine dJ 1 ?_;refine aR ?_ aC;refine cX 3 ?_;refine aR (dg [32]) ?_;refine aR (dg [46]) ?_;refine aR (dg [46]) aC;refine aQ ?_
 refine iC 4 ?_;refine cY h (a.mono (by decide)) ?_;refine aG ?_ ?_;refine ao ?_;refine bz (ao (az 3)) (ao (az 5));refine aG (ao (az 6)) aC;refine aO ?_ ?_;refine bR ?_ ?_ cC;refine bT (dR a) ?_ (ao aD) (bG _);refine aK ?_;refine aW dY ?_ (ao aD);refine ao ?_;refine cY g (a.mono (by decide)) ?_;refine aG ?_ ?_;refine ao ?_;refine cY c (a.mono (by decide)) ?_;refine aG (aJ 0) ?_;refine aG (ao aD) aC;refine aG (ao aD) aC;refine aQ ?_;refine yj (i:=3) (bu tZ) ["_law_script","_law_high","_law_wide","_law_one","_law_other","_law_row_here","_law_cell_here","_law_way"] ["_law_row_here"] [2] lC.nd rfl (.inl rfl) rfl ?_ (λ_ _ _ _ P=>?_) (λ_ _ _ _ P=>?_) (λ_ _ _ _ P=>?_)
 refine mz (ao (az 3));exact bL (i:=0) (show(bQ ["_law_script","_law_high","_law_wide","_law_one","_law_other","_law_row_here","_law_cell_here","_law_way"] ["_law_row_here"] [2]).Nodup by decide +kernel) rfl (.inl rfl);exact nH;refine bf ?_;refine aW iT ?_ (ao (az 1));refine aK ?_;refine dJ 1 ?_;refine aR ?_ aC;refine cX 3 ?_;refine aR (dg [32]) ?_;refine aR (dg [46]) ?_;refine aR (dg [46]) aC;refine aQ ?_;refine HX 4 rfl ?_;refine cj ?_;refine cX 2 ?_;refine aR (az 3) ?_;refine aR (az 4) aC
abbrev Cy:Stmt:=top 27
theorem Cz:cg ["_law_row_here","_law_found","_law_col"] ["_law_row_here"] (bu Cy):=by trivial
def Kq:MS :=
  (aB (aF 1 (bF aq))
  (aB (bO (dq (aj (aL aU (aj (aa 0) aq)) aq)) (mgN 2) (aY (aH (ak gNe (ak gIx (ak gIx (aa 0) (aa 2)) (mC (.int 0))) (mC (.str [])))) (cM 1 (bA (aj (aa 2) (aj (ak aN (mC (.int 1)) (aL nP (aj (fL (ak gLt (ak aN (aa 2) (mC (.int 1))) (aL aU (aj (aa 0) aq))) (ak gEq (ak gIx (ak gIx (aa 0) (ak aN (aa 2) (mC (.int 1)))) (mC (.int 0))) (mC (.str [])))) aq))) aq)))) bx))
  (aZ (aa 1))))
def t7:List D->au->Res D:=bZ 3 Kq
abbrev Kr(Pr:Program)(w:World)(K:Frag)(mg:Str->Option Value)(base:Heap):Prop:=Can Pr w K mg base "_law_spots" ["_law_row_here"] 1 (vSp K mg [.s] (rO K) t7)
theorem YT(c:Def K mg "_law_spots" Cy)
  (B:cN mg)
  (g:bY K=true):
  Kr Pr w K mg base:=by
 refine dD (k:=0) (b:=Kq) c Cz (λ_ _ _ _ _ _=>bB λ_=>cU rfl) [.s] [.o,.v] fV (λ_ _ _ _=>.inl ⟨rfl,Rp.non⟩) (body:=λf d A outer s H E a P=>?_);refine aO ?_ ?_;refine jt (i:=1) Cz.nd rfl (.inl rfl) (dJ 0 aC);refine aO ?_ (aQ (pH 1));refine eU rfl ?_ (bL (i:=2) Cz.nd rfl (.inl rfl)) ?_;refine iB B.range_ ?_;refine aG ?_ aC;refine aK ?_;refine cD (ms:=[.s]) (hv:=cL) cJ B.len_ ?_;refine aG (aJ 0) aC;refine aQ ?_;refine bR ?_ ?_ cC;refine bT (kj a) ?_ (ao (dg [])) (bG _);refine ao ?_;refine bz ?_ (ao aD);refine ao ?_;refine bz (aJ 0) (ao (az 2))
 refine aQ ?_;refine iC 1 ?_;refine cX 2 ?_;refine aR (az 2) ?_;refine aR ?_ aC;refine bf ?_;refine aW bU (ao aD) ?_;refine aK ?_;refine pM (ms:=[.s]) (hv:=rR) Hq B.int_ ?_;refine aG ?_ aC;refine ao ?_;refine lW ?_ ?_;refine bf ?_;refine jH jw ?_ ?_ (bG _);refine aK ?_;refine aW bU (ao (az 2)) (ao aD);refine aK ?_;refine cD (ms:=[.s]) (hv:=cL) cJ B.len_ ?_;refine aG (aJ 0) aC;refine nG ?_;refine bf ?_;refine jH (dR a) ?_ (ao (dg [])) (bG _);refine ao ?_;refine bz ?_ (ao aD);refine ao ?_;refine bz (aJ 0) ?_;refine aK ?_;refine aW bU (ao (az 2)) (ao aD)
abbrev CJ:Stmt:=top 28
theorem oK:cg ["_law_one","_law_other","_law_spots_here","_law_node","_law_at","_law_state","_law_col","_law_size_here","_law_found"] ["_law_one","_law_other","_law_spots_here","_law_node"] (bu CJ):=by trivial
def wI:MS :=
  (aB (iw (mG (aa 3)) (dM 2 (bC (mgN 4) (bC (mgN 5) dU))))
  (aB (aY (aH (ak gEq (aa 4) (aL aU (aj (aa 2) aq)))) (aZ (bF aq)) bx)
  (aB (iw (ak gIx (aa 2) (aa 4)) (dM 2 (bC (mgN 6) (bC (mgN 7) dU))))
  (aB (aF 8 (bF (aj (bA (aj (aa 7) (aj (mC (.str [111,110])) (aj (bA (aj (ak aN (aa 4) (mC (.int 1))) (aj (mC (.int 1)) aq))) aq)))) aq)))
  (aB (aY (aH (ak gEq (aa 5) (mC (.int 0)))) (aF 8 (bF (aj (bA (aj (ak aN (mC (.int 4)) (aa 7)) (aj (mC (.str [98,101,103,105,110])) (aj (bA (aj (ak aN (aa 4) (mC (.int 1))) (aj (mC (.int 1)) aq))) aq)))) aq))) bx)
  (aB (aY (aH (ak gEq (mSl (aa 0) (moS (aa 6)) (moS (ak aN (aa 6) (aa 7)))) (mSl (aa 1) (moS (aa 6)) (moS (ak aN (aa 6) (aa 7)))))) (cM 8 (bA (aj (mC (.int 0)) (aj (mC (.str [112,97,115,115])) (aj (bA (aj (ak aN (aa 4) (mC (.int 1))) (aj (mC (.int 0)) aq))) aq))))) bx)
  (aZ (aL nZ (aj (aa 8) aq)))))))))
def oM:List D->au->Res D:=bZ 9 wI
abbrev Ks(Pr:Program)(w:World)(K:Frag)(mg:Str->Option Value)(base:Heap):Prop:=Can Pr w K mg base "_law_moves" ["_law_one","_law_other","_law_spots_here","_law_node"] 1 (vSp K mg [.s,.s,.s,.s] (rO K) oM)
theorem YW(c:Def K mg "_law_moves" CJ)
  (B:cN mg)
  (g:bY K=true):
  Ks Pr w K mg base:=by
 refine dD (k:=0) (b:=wI) c oK (λ_ _ _ _ _ _=>bB λ_=>bB λ_=>bB λ_=>bB λ_=>cU rfl) [.s,.s,.s,.s] [.v,.v,.v,.v,.o] fV (λ_ _ _ _=>.inl ⟨rfl,Rp.non⟩) (body:=λf d A outer s H E a P=>?_);refine aO ?_ ?_;refine rQ (dX (aJ 3)) ?_;refine iR 2 rfl ?_;refine dz (bL (i:=4) oK.nd rfl (.inl rfl)) ?_;refine dz (bL (i:=5) oK.nd rfl (.inl rfl)) iQ;refine aO ?_ ?_;refine bR ?_ ?_ cC;refine bT (dR a) (ao (az 4)) ?_ (bG _);refine aK ?_;refine cD (ms:=[.s]) (hv:=cL) cJ B.len_ ?_;refine aG (aJ 2) aC;refine aQ ?_;refine jK (dJ 0 aC);refine aO ?_ ?_
 refine rQ ?_ ?_;refine bz (aJ 2) (ao (az 4));refine iR 2 rfl ?_;refine dz (bL (i:=6) oK.nd rfl (.inl rfl)) ?_;refine dz (bL (i:=7) oK.nd rfl (.inl rfl)) iQ;refine aO ?_ ?_;refine jt (i:=8) oK.nd rfl (.inl rfl) ?_;refine dJ 1 ?_;refine aR ?_ aC;refine cX 3 ?_;refine aR (az 7) ?_;refine aR (dg [111,110]) ?_;refine aR ?_ aC;refine cX 2 ?_;refine aR ?_ ?_;refine bf ?_;refine aW bU (ao (az 4)) (ao aD);refine aR aD aC;refine aO ?_ ?_;refine bR ?_ ?_ cC;refine bT (dR a) (ao (az 5)) (ao aD) (bG _);refine aQ ?_;refine jt (i:=8) oK.nd rfl (.inl rfl) ?_
 refine dJ 1 ?_;refine aR ?_ aC;refine cX 3 ?_;refine aR ?_ ?_;refine bf ?_;refine aW bU (ao aD) (ao (az 7));refine aR (dg [98,101,103,105,110]) ?_;refine aR ?_ aC;refine cX 2 ?_;refine aR ?_ ?_;refine bf ?_;refine aW bU (ao (az 4)) (ao aD);refine aR aD aC;refine aO ?_ ?_;refine bR ?_ ?_ cC;refine bT (dR a) ?_ ?_ (bG _);refine aK ?_;refine km (aJ 0) (gj (az 6)) ?_;refine gj ?_;refine bf ?_;refine aW bU (ao (az 6)) (ao (az 7));refine aK ?_;refine km (aJ 1) (gj (az 6)) ?_;refine gj ?_;refine bf ?_;refine aW bU (ao (az 6)) (ao (az 7));refine aQ ?_
 refine iC 8 ?_;refine cX 3 ?_;refine aR aD ?_;refine aR (dg [112,97,115,115]) ?_;refine aR ?_ aC;refine cX 2 ?_;refine aR ?_ ?_;refine bf ?_;refine aW bU (ao (az 4)) (ao aD);refine aR aD aC;refine aQ ?_;refine jK ?_;refine cD (ms:=[.s]) (hv:=V8) V7 B.sorted_ ?_;refine aG (aJ 8) aC
abbrev CN:Stmt:=top 29
theorem qJ:cg ["_law_picture","_law_writes","_law_found","_law_row_here","_law_col","_law_cells_here","_law_k"] ["_law_picture","_law_writes"] (bu CN):=by trivial
def Ku:MS :=
  (aB (aF 2 (aM mY (aj (aa 0) aq)))
  (aB (bO (cA (aa 1)) (dM 3 (bC (mgN 3) (bC (mgN 4) (bC (mgN 5) dU)))) (bO (dq (aj (aL aU (aj (aa 5) aq)) aq)) (mgN 6) (mD (ak gIx (aa 2) (aa 3)) (ak aN (aa 4) (aa 6)) (ak gIx (aa 5) (aa 6)))))
  (aZ (aa 2))))
def t8:List D->au->Res D:=bZ 7 Ku
abbrev Kv(Pr:Program)(w:World)(K:Frag)(mg:Str->Option Value)(base:Heap):Prop:=Can Pr w K mg base "_law_laid" ["_law_picture","_law_writes"] 2 (vSp K mg [.s,.s] (rO K) t8)
theorem YX(d:Def K mg "_law_laid" CN)
  (B:cN mg)
  (h:bY K=true)
  (a:BR Pr w K mg base):
  Kv Pr w K mg base:=by
 refine dD (k:=1) (b:=Ku) d qJ (λ_ _ _ _ _ _=>bB λ_=>bB λ_=>cU rfl) [.s,.s] [.o,.v,.v,.v,.v] fV (λ_ _ _ _=>.inl ⟨rfl,Rp.non⟩) (body:=λf g A outer s H E c P=>?_);refine aO ?_ ?_;refine jt (i:=2) qJ.nd rfl (.inl rfl) ?_;refine gW a (c.mono (by decide)) ?_;refine aG (aJ 0) aC;refine aO ?_ (aQ (pH 2));refine eU rfl (pX (uZ 1)) ?_ ?_;refine iR 3 rfl ?_;refine dz (bL (i:=3) qJ.nd rfl (.inl rfl)) ?_;refine dz (bL (i:=4) qJ.nd rfl (.inl rfl)) ?_;refine dz (bL (i:=5) qJ.nd rfl (.inl rfl)) iQ;refine aQ ?_;refine eU rfl ?_ (bL (i:=6) qJ.nd rfl (.inl rfl)) ?_
 refine iB B.range_ ?_;refine aG ?_ aC;refine aK ?_;refine cD (ms:=[.s]) (hv:=cL) cJ B.len_ ?_;refine aG (ao (az 5)) aC;refine aQ ?_;refine VP ?_ ?_ ?_;refine bz (ao (az 5)) (ao (az 6));refine bz (aJ 2) (ao (az 3));refine bf ?_;refine aW bU (ao (az 4)) (ao (az 6))
abbrev CT:Stmt:=top 30
theorem jT:cg ["_law_prices","_law_one","_law_other","_law_spots_here","_law_at","_law_state","_law_price","_law_cost","_law_name","_law_beyond"] ["_law_prices","_law_one","_law_other"] (bu CT):=by trivial
def Kw:MS :=
  (aB (aF 3 (aM t7 (aj (aa 2) aq)))
  (aB (aY (cR (cB (bK (qb (mG (aa 0))))) (aH (ak gNe (n6 (mG (aa 0))) (ak aN (ak cI (mC (.int 2)) (aL aU (aj (aa 3) aq))) (mC (.int 2)))))) (aZ (mC (.bl false))) bx)
  (aB (bO (dq (aj (ak aN (aL aU (aj (aa 3) aq)) (mC (.int 1))) aq)) (mgN 4) (bO (dq (aj (mC (.int 2)) aq)) (mgN 5) (aB (aF 6 (qd (mG (aa 0)) (bA (aj (aa 4) (aj (aa 5) aq)))))
  (aY (cR (cB (bK (aM lq (aj (aa 6) aq)))) (cR (aH (ak gLt (aa 6) (mC (.int 0)))) (fW (aH (ak gEq (aa 4) (aL aU (aj (aa 3) aq)))) (aH (ak gNe (aa 6) (mC (.int 0))))))) (aZ (mC (.bl false))) bx))))
  (aB (bO (dq (aj (aL aU (aj (aa 3) aq)) aq)) (mgN 4) (bO (dq (aj (mC (.int 2)) aq)) (mgN 5) (bO (cA (aM oM (aj (aa 1) (aj (aa 2) (aj (aa 3) (aj (bA (aj (aa 4) (aj (aa 5) aq))) aq)))))) (dM 3 (bC (mgN 7) (bC (mgN 8) (bC (mgN 9) dU)))) (aY (aH (ak gGt (dF (mG (aa 0)) (bA (aj (aa 4) (aj (aa 5) aq)))) (ak aN (aa 7) (dF (mG (aa 0)) (aa 9))))) (aZ (mC (.bl false))) bx))))
  (aZ (mC (.bl true)))))))
def wJ:List D->au->Res D:=bZ 10 Kw
abbrev Ky(Pr:Program)(w:World)(K:Frag)(mg:Str->Option Value)(base:Heap):Prop:=Can Pr w K mg base "_law_fair" ["_law_prices","_law_one","_law_other"] 2 (vSp K mg [.s,.s,.s] (rV K) wJ)
theorem YZ(j:Def K mg "_law_fair" CT)
  (B:cN mg)
  (c:bY K=true)
  (h:Kr Pr w K mg base)
  (d:BK Pr w K mg base)
  (g:Ks Pr w K mg base):
  Ky Pr w K mg base:=by
 refine dD (k:=1) (b:=Kw) j jT (λ_ _ _ _ _ _=>bB λ_=>bB λ_=>bB λ_=>cU rfl) [.s,.s,.s] [.v,.v,.v,.v,.v,.v,.v] dw (λ_ _ _ _=>Rp.non) (body:=λf l A outer s H E a P=>?_);refine aO ?_ ?_;refine bH (i:=3) jT.nd rfl (.inl rfl) ?_;refine bf ?_;refine gW h (a.mono (by decide)) ?_;refine aG (aJ 2) aC;refine aO ?_ ?_;refine bR ?_ ?_ cC;refine gU ?_;refine gR ?_ ?_;refine gq ?_;refine fC ?_;refine aK ?_;refine W9 B.isinstance_ B.dict_ (dX (aJ 0));refine lV ?_;refine bT (kj a) ?_ ?_ (bG _);refine aK ?_;refine W7 B.len_ (dX (aJ 0));refine aK ?_;refine aW bU ?_ (ao aD)
 refine aK ?_;refine aW iT (ao aD) ?_;refine aK ?_;refine cD (ms:=[.s]) (hv:=cL) cJ B.len_ ?_;refine aG (ao (az 3)) aC;refine aQ (cj fB);refine aO ?_ ?_;refine eU rfl ?_ (bL (i:=4) jT.nd rfl (.inl rfl)) ?_;refine iB B.range_ ?_;refine aG ?_ aC;refine aK ?_;refine aW bU ?_ (ao aD);refine aK ?_;refine cD (ms:=[.s]) (hv:=cL) cJ B.len_ ?_;refine aG (ao (az 3)) aC;refine aQ ?_;refine eU rfl ?_ (bL (i:=5) jT.nd rfl (.inl rfl)) ?_;refine iB B.range_ ?_;refine aG (ao aD) aC;refine aO ?_ ?_;refine bH (i:=6) jT.nd rfl (.inl rfl) ?_;refine Xa c a (dX (aJ 0)) ?_
 refine cX 2 ?_;refine aR (az 4) ?_;refine aR (az 5) aC;refine aQ ?_;refine bR ?_ ?_ cC;refine gU ?_;refine gR ?_ ?_;refine gq ?_;refine fC ?_;refine ao ?_;refine cY d (a.mono (by decide)) ?_;refine aG (ao (az 6)) aC;refine gR ?_ ?_;refine bT jw (ao (az 6)) (ao aD) (bG _);refine lV ?_;refine gU ?_;refine pF ?_ ?_;refine bT (dR a) (ao (az 4)) ?_ (bG _);refine aK ?_;refine cD (ms:=[.s]) (hv:=cL) cJ B.len_ ?_;refine aG (ao (az 3)) aC;refine pC ?_;refine bT (kj a) (ao (az 6)) (ao aD) (bG _);refine aQ (cj fB);refine aO ?_ ?_;refine eU rfl ?_ (bL (i:=4) jT.nd rfl (.inl rfl)) ?_
 refine iB B.range_ ?_;refine aG ?_ aC;refine aK ?_;refine cD (ms:=[.s]) (hv:=cL) cJ B.len_ ?_;refine aG (ao (az 3)) aC;refine aQ ?_;refine eU rfl ?_ (bL (i:=5) jT.nd rfl (.inl rfl)) ?_;refine iB B.range_ ?_;refine aG (ao aD) aC;refine aQ ?_;refine eU rfl ?_ ?_ ?_;refine pX ?_;refine pO ?_;refine bf ?_;refine gW g (a.mono (by decide)) ?_;refine aG (aJ 1) ?_;refine aG (aJ 2) ?_;refine aG (ao (az 3)) ?_;refine aG ?_ aC;refine ao ?_;refine cX 2 ?_;refine aR (az 4) ?_;refine aR (az 5) aC;refine iR 3 rfl ?_;refine dz (bL (i:=7) jT.nd rfl (.inl rfl)) ?_
 refine dz (bL (i:=8) jT.nd rfl (.inl rfl)) ?_;refine dz (bL (i:=9) jT.nd rfl (.inl rfl)) iQ;refine aQ ?_;refine bR ?_ ?_ cC;refine bT nM ?_ ?_ (bG _);refine ao ?_;refine mH c a (dX (aJ 0)) ?_;refine cX 2 ?_;refine aR (az 4) ?_;refine aR (az 5) aC;refine aK ?_;refine aW bU (ao (az 7)) ?_;refine ao ?_;refine mH c a (dX (aJ 0)) (az 9);refine aQ (cj fB);refine aQ (cj fB)
abbrev Dc:Stmt:=top 31
theorem m5:cg ["_law_writes","_law_other","_law_ahead","_law_write","_law_row_here","_law_col","_law_cells_here","_law_behind"] ["_law_writes","_law_other"] (bu Dc):=by trivial
def Kz:MS :=
  (aB (aF 2 (bA (aj (mUn f9 (mC (.int 1))) (aj (mC (.int 0)) aq))))
  (aB (bO (cA (aa 0)) (mgN 3) (aB (aY (cR (cB (bK (cH "tuple" (aa 3)))) (cR (aH (ak gNe (aL aU (aj (aa 3) aq)) (mC (.int 3)))) (cR (cB (bK (aM lq (aj (ak gIx (aa 3) (mC (.int 0))) aq)))) (cB (bK (aM lq (aj (ak gIx (aa 3) (mC (.int 1))) aq))))))) (aZ (mC (.bl false))) bx)
  (aB (iw (aa 3) (dM 3 (bC (mgN 4) (bC (mgN 5) (bC (mgN 6) dU)))))
  (aB (aY (cR (cB (bK (cH "list" (aa 6)))) (cR (aH (ak gEq (aL aU (aj (aa 6) aq)) (mC (.int 0)))) (cR (cB (aH (lU gLe gLt (mC (.int 0)) (aa 4) (aL aU (aj (aa 1) aq))))) (aH (ak gLt (aa 5) (mC (.int 0))))))) (aZ (mC (.bl false))) bx)
  (aB (aY (cR (aH (ak gLt (aa 4) (ak gIx (aa 2) (mC (.int 0))))) (fW (aH (ak gEq (aa 4) (ak gIx (aa 2) (mC (.int 0))))) (aH (ak gLe (aa 5) (ak gIx (aa 2) (mC (.int 1))))))) (aZ (mC (.bl false))) bx)
  (aB (aY (cR (cB (bK (aM mW (aj (aa 6) (aj (mSl (ak gIx (aa 1) (aa 4)) (moS (aa 5)) (moS (ak aN (aa 5) (aL aU (aj (aa 6) aq))))) aq))))) (aH (ak gEq (ak gIx (ak gIx (aa 6) (mC (.int 0))) (mC (.int 0))) (mC (.str []))))) (aZ (mC (.bl false))) bx)
  (aB (aF 7 (ak aN (aa 5) (aL aU (aj (aa 6) aq))))
  (aB (aY (fW (aH (ak gLt (aa 7) (aL aU (aj (ak gIx (aa 1) (aa 4)) aq)))) (aH (ak gEq (ak gIx (ak gIx (ak gIx (aa 1) (aa 4)) (aa 7)) (mC (.int 0))) (mC (.str []))))) (aZ (mC (.bl false))) bx)
  (aF 2 (bA (aj (aa 4) (aj (aa 7) aq))))))))))))
  (aZ (mC (.bl true)))))
def uc:List D->au->Res D:=bZ 8 Kz
abbrev KD(Pr:Program)(w:World)(K:Frag)(mg:Str->Option Value)(base:Heap):Prop:=Can Pr w K mg base "_law_formed" ["_law_writes","_law_other"] 8 (vSp K mg [.s,.s] (rV K) uc)
theorem Y0(g:Def K mg "_law_formed" Dc)
  (B:cN mg)
  (j:bY K=true)
  (c:BK Pr w K mg base)
  (d:J9 Pr w K mg base):
  KD Pr w K mg base:=by
 refine dD (k:=7) (b:=Kz) g m5 (λ_ _ _ _ _ _=>bB λ_=>bB λ_=>cU rfl) [.s,.s] [.v,.v,.v,.v,.v,.v] dw (λ_ _ _ _=>Rp.non) (body:=λf h A outer s H E a P=>?_);refine aO ?_ ?_;refine bH (i:=2) m5.nd rfl (.inl rfl) ?_;refine cX 2 ?_;refine aR ?_ ?_;refine bf ?_;refine pL (ao aD);refine aR aD aC;refine aO ?_ ?_;refine eU rfl (pX (uZ 0)) (bL (i:=3) m5.nd rfl (.inl rfl)) ?_;refine aO ?_ ?_;refine bR ?_ ?_ cC;refine gU ?_;refine gR ?_ ?_;refine gq ?_;refine fC ?_;refine aK ?_;refine gG "tuple" (hb:=yq) B.isinstance_ B.tuple_ (ao (az 3));refine gR ?_ ?_
 refine bT (kj a) ?_ (ao aD) (bG _);refine aK ?_;refine cD (ms:=[.s]) (hv:=cL) cJ B.len_ ?_;refine aG (ao (az 3)) aC;refine gR ?_ ?_;refine gq ?_;refine fC ?_;refine ao ?_;refine cY c (a.mono (by decide)) ?_;refine aG ?_ aC;refine ao ?_;refine bz (ao (az 3)) (ao aD);refine lV ?_;refine gq ?_;refine fC ?_;refine ao ?_;refine cY c (a.mono (by decide)) ?_;refine aG ?_ aC;refine ao ?_;refine bz (ao (az 3)) (ao aD);refine aQ (cj fB);refine aO ?_ ?_;refine rQ (az 3) ?_;refine iR 3 rfl ?_;refine dz (bL (i:=4) m5.nd rfl (.inl rfl)) ?_;refine dz (bL (i:=5) m5.nd rfl (.inl rfl)) ?_
 refine dz (bL (i:=6) m5.nd rfl (.inl rfl)) iQ;refine aO ?_ ?_;refine bR ?_ ?_ cC;refine gU ?_;refine gR ?_ ?_;refine gq ?_;refine fC ?_;refine aK ?_;refine gG "list" (hb:=mq) B.isinstance_ B.list_ (ao (az 6));refine gR ?_ ?_;refine bT (dR a) ?_ (ao aD) (bG _);refine aK ?_;refine cD (ms:=[.s]) (hv:=cL) cJ B.len_ ?_;refine aG (ao (az 6)) aC;refine gR ?_ ?_;refine gq ?_;refine Ur Hj jw (ao aD) (ao (az 4)) ?_;refine aK ?_;refine cD (ms:=[.s]) (hv:=cL) cJ B.len_ ?_;refine aG (aJ 1) aC;refine lV ?_;refine bT jw (ao (az 5)) (ao aD) (bG _);refine aQ (cj fB)
 refine aO ?_ ?_;refine bR ?_ ?_ cC;refine gU ?_;refine gR ?_ ?_;refine bT jw (ao (az 4)) ?_ (bG _);refine ao ?_;refine bz (ao (az 2)) (ao aD);refine lV ?_;refine gU ?_;refine pF ?_ ?_;refine bT (dR a) (ao (az 4)) ?_ (bG _);refine ao ?_;refine bz (ao (az 2)) (ao aD);refine pC ?_;refine bT Hj (ao (az 5)) ?_ (bG _);refine ao ?_;refine bz (ao (az 2)) (ao aD);refine aQ (cj fB);refine aO ?_ ?_;refine bR ?_ ?_ cC;refine gU ?_;refine gR ?_ ?_;refine gq ?_;refine fC ?_;refine ao ?_;refine cY d (a.mono (by decide)) ?_;refine aG (ao (az 6)) ?_
 refine aG ?_ aC;refine aK ?_;refine km ?_ (gj (az 5)) ?_;refine ao ?_;refine bz (aJ 1) (ao (az 4));refine gj ?_;refine bf ?_;refine aW bU (ao (az 5)) ?_;refine aK ?_;refine cD (ms:=[.s]) (hv:=cL) cJ B.len_ ?_;refine aG (ao (az 6)) aC;refine lV ?_;refine bT (dR a) ?_ (ao (dg [])) (bG _);refine ao ?_;refine bz ?_ (ao aD);refine ao ?_;refine bz (ao (az 6)) (ao aD);refine aQ (cj fB);refine aO ?_ ?_;refine bH (i:=7) m5.nd rfl (.inl rfl) ?_;refine bf ?_;refine aW bU (ao (az 5)) ?_;refine aK ?_;refine cD (ms:=[.s]) (hv:=cL) cJ B.len_ ?_;refine aG (ao (az 6)) aC
 refine aO ?_ ?_;refine bR ?_ ?_ cC;refine gU ?_;refine pF ?_ ?_;refine bT jw (ao (az 7)) ?_ (bG _);refine aK ?_;refine cD (ms:=[.s]) (hv:=cL) cJ B.len_ ?_;refine aG ?_ aC;refine ao ?_;refine bz (aJ 1) (ao (az 4));refine pC ?_;refine bT (dR a) ?_ (ao (dg [])) (bG _);refine ao ?_;refine bz ?_ (ao aD);refine ao ?_;refine bz ?_ (ao (az 7));refine ao ?_;refine bz (aJ 1) (ao (az 4));refine aQ (cj fB);refine aQ ?_;refine bH (i:=2) m5.nd rfl (.inl rfl) ?_;refine cX 2 ?_;refine aR (az 4) ?_;refine aR (az 7) aC;refine aQ (cj fB)
abbrev jD:Stmt:=top 32
theorem jU:cg ["_law_script","_law_one","_law_other","_law_handed","_law_writes","_law_due","_law_row_here","_law_prices","_law_spent"] ["_law_script"] (bu jD):=by trivial
def KH:MS :=
  (aB (iw (aM wG (aj (aa 0) aq)) (dM 2 (bC (mgN 1) (bC (mgN 2) dU))))
  (aB (aF 3 (bF (aj (mMl (aM mY (aj (aa 1) aq))) (aj (mMl (aM mY (aj (aa 2) aq))) aq))))
  (aB (aF 4 (aM tR (aj (ak gIx (aa 3) (mC (.int 0))) (aj (ak gIx (aa 3) (mC (.int 1))) aq))))
  (aB (aY (cR (cB (bK (cH "list" (aa 4)))) (cR (aH (iU true 7 (aa 3) (bF (aj (aa 1) (aj (aa 2) aq))))) (cB (bK (aM uc (aj (aa 4) (aj (aa 2) aq))))))) (aZ (mC (.bl false))) bx)
  (aB (aY (aH (iU true 7 (aM t8 (aj (aa 1) (aj (aa 4) aq))) (aa 2))) (aZ (mC (.bl false))) bx)
  (aB (aF 5 (mC (.int 0)))
  (aB (bO (dq (aj (aL aU (aj (aa 1) aq)) aq)) (mgN 6) (aB (aF 7 (aM qy (aj (jN "Change" mV (aj (aL iy (aj (ak gIx (aa 1) (aa 6)) aq)) (aj (aL iy (aj (ak gIx (aa 2) (aa 6)) aq)) aq))) aq)))
  (aB (aY (cB (bK (aM wJ (aj (aa 7) (aj (ak gIx (aa 1) (aa 6)) (aj (ak gIx (aa 2) (aa 6)) aq)))))) (aZ (mC (.bl false))) bx)
  (aF 5 (ak aN (aa 5) (dF (aa 7) (bA (aj (mC (.int 0)) (aj (mC (.int 0)) aq)))))))))
  (aB (aF 8 (aL mj (aj (dB (cA (aa 4)) 3 [] (dM 3 (bC (mgN 0) (bC (mgN 1) (bC (mgN 2) dU)))) eQ (ak aN (mC (.int 4)) (aL aU (aj (aa 2) aq)))) aq)))
  (aZ (fL (ak gEq (aa 8) (aa 5)) (aM mW (aj (aM tU (aj (aa 4) aq)) (aj (aa 5) aq)))))))))))))
def KJ:List D->au->Res D:=bZ 9 KH
abbrev Y4(Pr:Program)(w:World)(K:Frag)(mg:Str->Option Value)(base:Heap):Prop:=Can Pr w K mg base "law" ["_law_script"] 9 (vSp K mg [.s] (rV K) KJ)
theorem Y5(z:Def K mg "law" jD)
  (B:cN mg)
  (j:bY K=true)
  (y:Kp Pr w K mg base)
  (c:BR Pr w K mg base)
  (x:JV Pr w K mg base)
  (u:KD Pr w K mg base)
  (n:Kv Pr w K mg base)
  (d:Ao Pr w K mg base)
  (g:Bg Pr w K mg base)
  (m:Ky Pr w K mg base)
  (h:J9 Pr w K mg base)
  (l:JX Pr w K mg base):
  Y4 Pr w K mg base:=by
 refine dD (k:=8) (b:=KH) z jU (λ_ _ _ _ _ _=>bB λ_=>cU rfl) [.s] [.v,.v,.v,.o,.v,.v,.v,.v] dw (λ_ _ _ _=>Rp.non) (body:=λf F A outer s H E a P=>?_);refine aO ?_ ?_;refine rQ ?_ ?_;refine cY y (a.mono (by decide)) ?_;refine aG (aJ 0) aC;refine iR 2 rfl ?_;refine dz (bL (i:=1) jU.nd rfl (.inl rfl)) ?_;refine dz (bL (i:=2) jU.nd rfl (.inl rfl)) iQ;refine aO ?_ ?_;refine bH (i:=3) jU.nd rfl (.inl rfl) ?_;refine bf ?_;refine dJ 2 ?_;refine aR ?_ ?_;refine u6 ?_;refine gW c (a.mono (by decide)) ?_;refine aG (ao (az 1)) aC;refine aR ?_ aC;refine u6 ?_
 refine gW c (a.mono (by decide)) ?_;refine aG (ao (az 2)) aC;refine aO ?_ ?_;refine jt (i:=4) jU.nd rfl (.inl rfl) ?_;refine gW x (a.mono (by decide)) ?_;refine aG ?_ ?_;refine ao ?_;refine bz (ao (az 3)) (ao aD);refine aG ?_ aC;refine ao ?_;refine bz (ao (az 3)) (ao aD);refine aO ?_ ?_;refine bR ?_ ?_ cC;refine gU ?_;refine gR ?_ ?_;refine gq ?_;refine fC ?_;refine aK (gG "list" (hb:=mq) B.isinstance_ B.list_ (aJ 4));refine gR ?_ ?_;refine Ie 7 a (ao (az 3)) ?_;refine aK ?_;refine dJ 2 ?_;refine aR (az 1) ?_;refine aR (az 2) aC;refine lV ?_
 refine gq ?_;refine fC ?_;refine ao ?_;refine cY u (a.mono (by decide)) ?_;refine aG (aJ 4) ?_;refine aG (ao (az 2)) aC;refine aQ (cj fB);refine aO ?_ ?_;refine bR ?_ ?_ cC;refine Ie 7 a ?_ (ao (az 2));refine aK ?_;refine gW n (a.mono (by decide)) ?_;refine aG (ao (az 1)) ?_;refine aG (aJ 4) aC;refine aQ (cj fB);refine aO (bH (i:=5) jU.nd rfl (.inl rfl) aD) ?_;refine aO ?_ ?_;refine eU rfl ?_ (bL (i:=6) jU.nd rfl (.inl rfl)) ?_;refine iB B.range_ ?_;refine aG ?_ aC;refine aK ?_;refine cD (ms:=[.s]) (hv:=cL) cJ B.len_ ?_;refine aG (ao (az 1)) aC
 refine aO ?_ ?_;refine bH (i:=7) jU.nd rfl (.inl rfl) ?_;refine cY d (a.mono (by decide)) ?_;refine aG ?_ aC;refine ao ?_;refine HJ g (a.mono (by decide)) ?_;refine aG ?_ ?_;refine aK ?_;refine pM (ms:=[.s]) (hv:=mq) uV B.list_ ?_;refine aG ?_ aC;refine ao ?_;refine bz (ao (az 1)) (ao (az 6));refine aG ?_ aC;refine aK ?_;refine pM (ms:=[.s]) (hv:=mq) uV B.list_ ?_;refine aG ?_ aC;refine ao ?_;refine bz (ao (az 2)) (ao (az 6));refine aO ?_ ?_;refine bR ?_ ?_ cC;refine gq ?_;refine fC ?_;refine ao ?_;refine cY m (a.mono (by decide)) ?_;refine aG (ao (az 7)) ?_
 refine aG ?_ ?_;refine ao ?_;refine bz (ao (az 1)) (ao (az 6));refine aG ?_ aC;refine ao ?_;refine bz (ao (az 2)) (ao (az 6));refine aQ (cj fB);refine aQ ?_;refine bH (i:=5) jU.nd rfl (.inl rfl) ?_;refine bf ?_;refine aW bU (ao (az 5)) ?_;refine ao ?_;refine mH j a (az 7) ?_;refine cX 2 ?_;refine aR aD ?_;refine aR aD aC;refine aO ?_ ?_;refine bH (i:=8) jU.nd rfl (.inl rfl) ?_;refine bf ?_;refine cD (ms:=[.s]) (hv:=Hs) (Hr rfl) B.sum_ ?_;refine aG ?_ aC;refine aK ?_;refine pI (bu jD) ["_law_script","_law_one","_law_other","_law_handed","_law_writes","_law_due","_law_row_here","_law_prices","_law_spent"] ["_law_row_here","_law_col","_law_cells_here"] [] rfl (mz (aJ 4)) (λ_ _ _ _ P=>?_) (λ_ _ _ _ P=>?_) (λ_ _ _ _ P=>?_)
 refine iR 3 rfl ?_;refine dz (bL (i:=0) (show(bQ ["_law_script","_law_one","_law_other","_law_handed","_law_writes","_law_due","_law_row_here","_law_prices","_law_spent"] ["_law_row_here","_law_col","_law_cells_here"] []).Nodup by decide +kernel) rfl (.inl rfl)) ?_;refine dz (bL (i:=1) (show(bQ ["_law_script","_law_one","_law_other","_law_handed","_law_writes","_law_due","_law_row_here","_law_prices","_law_spent"] ["_law_row_here","_law_col","_law_cells_here"] []).Nodup by decide +kernel) rfl (.inl rfl)) ?_;refine dz (bL (i:=2) (show(bQ ["_law_script","_law_one","_law_other","_law_handed","_law_writes","_law_due","_law_row_here","_law_prices","_law_spent"] ["_law_row_here","_law_col","_law_cells_here"] []).Nodup by decide +kernel) rfl (.inl rfl)) iQ
 exact nH
 refine bf ?_;refine aW bU (ao aD) ?_;refine aK ?_;refine cD (ms:=[.s]) (hv:=cL) cJ B.len_ ?_;refine aG (ao (az 2)) aC;refine aQ ?_;refine cj ?_;refine lW ?_ ?_;refine bf ?_;refine jH (dR a) (ao (az 8)) (ao (az 5)) (bG _);refine nG ?_;refine cY h (a.mono (by decide)) ?_;refine aG ?_ ?_;refine ao ?_;refine cY l (a.mono (by decide)) ?_;refine aG (aJ 4) aC;refine aG (ao (az 5)) aC
end
theorem bc{g:D->D->Option D}{a b:L2.M D}{ρ:aA}{O:au}{x y z:D}(c:a ρ O=.ok x O)(hb:b ρ O=.ok y O)(h:g (bw O x) (bw O y)=some z):ak g a b ρ O=.ok z O:=by
 rw[IV,c,aV,hb,aV,h,n8]
theorem ma1{a:L2.M D}{ρ:aA}{O:au}{x:D}(h:a ρ O=.ok x O):aj a aq ρ O=.ok [x] O:=by
 rw[qg,h,aV,vp,aV]
theorem maS{a:L2.M D}{r:L2.M (List D)}{ρ:aA}{O:au}{x:D}{xs:List D}(h:a ρ O=.ok x O)(h2:r ρ O=.ok xs O):aj a r ρ O=.ok (x::xs) O:=by
 rw[qg,h,aV,h2,aV]
theorem jV{m:L2.M (List D)}{ρ:aA}{O:au}{xs:List D}(h:m ρ O=.ok xs O)(a:xs.length<=1000000):bA m ρ O=.ok (.tup xs) O:=by
 rw[Xj,h,aV,if_pos a]
theorem lD{m:L2.M (List D)}{ρ:aA}{O:au}{xs:List D}(h:m ρ O=.ok xs O)(a:xs.length<=1000000):bF m ρ O=.ok (.lst xs) O:=by
 rw[Jb,h,aV,if_pos a]
theorem gJ{g:List D->Option D}{m:L2.M (List D)}{ρ:aA}{O:au}{xs:List D}{z:D}(h:m ρ O=.ok xs O)(a:g (xs.map (bw O))=some z):aL g m ρ O=.ok z O:=by
 rw[Jc,h,aV,a,n8]
theorem m6{i:Nat}{m:L2.M D}{ρ:aA}{O:au}{d:D}{ds:List D}(a:m ρ O=.ok d O)(h:ρ[i]?=some (some (.lst ds)))(b:ds.length<1000000):cM i m ρ O=.nx (ρ.set i (some (.lst (ds++[d])))) O:=by
 rw[Jv,a,Jw h b]
theorem bV{i:Nat}{m:L2.M D}{ρ:aA}{O:au}{d:D}(h:m ρ O=.ok d O):aF i m ρ O=.nx (ρ.set i (some d)) O:=by
 rw[Je,h,Jf]
theorem cV{c:List D->au->Res D}{ma:L2.M (List D)}{ρ:aA}{O:au}{ds:List D}(h:ma ρ O=.ok ds O):aM c ma ρ O=c ds O:=by
 rw[yO,h,aV]
theorem fJ{m:L2.M D}{ρ:aA}{O:au}{b:Bool}(h:m ρ O=.ok (.bl b) O):aH m ρ O=.ok b O:=by
 rw[yM,h,aV,IW]
theorem dG{t:L2.M Bool}{a b:MS}{ρ:aA}{O:au}(h:t ρ O=.ok true O):aY t a b ρ O=a ρ O:=by
 rw[vC,h,vD,if_pos rfl]
theorem bN{t:L2.M Bool}{a b:MS}{ρ:aA}{O:au}(h:t ρ O=.ok false O):aY t a b ρ O=b ρ O:=by
 rw[vC,h,vD,if_neg zp]
theorem qK{m:L2.M D}{ρ:aA}{O:au}{l:List D}(h:m ρ O=.ok (.lst l) O):aL aU (aj m aq) ρ O=.ok (.int (l.length:Int)) O:=gJ (ma1 h) rfl
theorem jE{m:L2.M D}{ρ:aA}{O:au}{n:Nat}(h:m ρ O=.ok (.int (n:Int)) O)(a:n<=1000000):dq (aj m aq) ρ O=.ok (eE 0 n) O:=by
 rw[Xo,ma1 h,aV];show(if(n:Int)<=1000000000/\-1000000000<=(n:Int) then Res.ok (eE 0 (n:Int).toNat) O else .no)=_;rw[if_pos ⟨by omega,by omega⟩,Int.toNat_natCast]
theorem gf{a b:L2.M D}{ρ:aA}{O:au}{i j:Int}(d:a ρ O=.ok (.int i) O)(hb:b ρ O=.ok (.int j) O)(c:0<j):ak bD a b ρ O=.ok (.int (i % j)) O:=bc d hb (by rw[mJ,mJ,Xv,if_pos c])
theorem dW{a b:L2.M D}{ρ:aA}{O:au}{i j:Int}(c:a ρ O=.ok (.int i) O)(hb:b ρ O=.ok (.int j) O):ak aN a b ρ O=.ok (.int (i+j)) O:=bc c hb rfl
theorem Dm{a b:L2.M D}{ρ:aA}{O:au}{i j:Int}(c:a ρ O=.ok (.int i) O)(hb:b ρ O=.ok (.int j) O):ak jL a b ρ O=.ok (.int (i - j)) O:=bc c hb rfl
theorem qL{a b:L2.M D}{ρ:aA}{O:au}{i j:Int}(c:a ρ O=.ok (.int i) O)(hb:b ρ O=.ok (.int j) O):aH (ak gLt a b) ρ O=.ok (decide (i<j)) O:=fJ (bc c hb rfl)
theorem jW{a b:L2.M D}{ρ:aA}{O:au}{i j:Int}(c:a ρ O=.ok (.int i) O)(hb:b ρ O=.ok (.int j) O):aH (ak gEq a b) ρ O=.ok (decide (i=j)) O:=fJ (bc c hb rfl)
theorem qM{a b:L2.M D}{ρ:aA}{O:au}{c k:Int}(d:a ρ O=.ok (.int c) O)(hb:b ρ O=.ok (.int k) O)(h0:0<=k)(h1:k<=1000000):aM gk (aj a (aj b aq)) ρ O=.ok (.int (mix c k)) O:=by
 rw[cV (maS d (ma1 hb))];exact XH c k h0 h1 O
theorem Y6{a b:L2.M D}{ρ:aA}{O:au}{i j:Int}(c:a ρ O=.ok (.int i) O)(hb:b ρ O=.ok (.int j) O):aH (ak gLe a b) ρ O=.ok (decide (i<=j)) O:=fJ (bc c hb rfl)
theorem not_no{m:L2.M D}{s:MS}{ρ:aA}{O:au}(h:m ρ O=.ok (.bl true) O):aY (cB (bK m)) s bx ρ O=.nx ρ O:=by
 rw[vC,sW,sS,h,aV,oh,sU,sO,aV,vD,if_neg (by decide)];rfl
theorem or_f{b a:L2.M Bool}{ρ:aA}{O:au}(h1:b ρ O=.ok false O)(h2:a ρ O=.ok false O):cR b a ρ O=.ok false O:=by
 rw[yN,h1,aV,if_neg zp,h2]
theorem g8{m:L2.M D}{ρ:aA}{O:au}{l:List D}(h:m ρ O=.ok (.lst l) O):cA m ρ O=.ok l O:=by
 rw[Xq,h,aV,Xr,Xp]
theorem jX{m:L2.M (List D)}{own:Nat}{cap:List Nat}{g:MG}{t:L2.M Bool}{e:L2.M D}{ρ ρ0:aA}{O O1:au}{ds a:List D}(h:m ρ O=.ok ds O)(b:ds.length<=1000000)(h0:ju own cap ρ=ρ0)(c:cT g t e ds ρ0 O []=.ok a O1):dB m own cap g t e ρ O=.ok (.lst a) O1:=by
 rw[Xu,h,aV,if_pos b,h0,c,aV]
theorem wK{m:L2.M D}{ρ:aA}{O:au}{d:D}{l:List D}(h:m ρ O=.ok d O)(hd:bw O d=.lst l):aL iy (aj m aq) ρ O=.ok (.lst l) O:=by
 rw[Jc,ma1 h,aV,zl,zQ,hd,X7,n8]
theorem KQ(n:Nat):eE 0 n=(List.range n).map λi:Nat=>D.int ((i:Nat):Int):=by
 unfold eE;simp
theorem jY{n i:Nat}{d:D}(h:(eE 0 n)[i]?=some d):i<n/\d=.int (i:Int):=by
 have hi:i<n:=by
  have:=(zg.mp h).1
  rwa [mR] at this
 rw[KQ,zq,List.getElem?_range hi] at h;cases h;exact⟨hi,rfl⟩
theorem iW{l:List D}{i:Nat}{d:D}(h:l[i]?=some d):gIx (.lst l) (.int (i:Int))=some d:=by
 rw[mO,ou,h]
abbrev C:=List Nat×List Nat×List Nat
def dC(c:C):D:=.tup [.str c.1,.str c.2.1,.str c.2.2]
def bl:C:=([32],[46],[46])
def mk:C:=([33],[97],[97])
abbrev Row:=List C
def bJ(r:Row):Ob:=.ml (r.map dC)
def ids(b n:Nat):List Nat:=(List.range n).map (b + ·)
theorem oR(b n:Nat):(ids b n).length=n:=by unfold ids;rw[zd,List.length_range]
structure Pc(O:au)(is:List Nat)(P:List Row)(lo hi:Nat):Prop where
 eq:is.map (λi=>O[i]?)=P.map λr=>some (bJ r)
 lo:∀i∈is,lo<=i/\i<hi
 hi:hi<=O.length
def pD(is:List Nat):D:=.lst (is.map D.ob)
theorem Pc.at{O:au}{is:List Nat}{P:List Row}{lo hi k i:Nat}(h:Pc O is P lo hi)(e:is[k]?=some i):∃r,P[k]?=some r/\O[i]?=some (bJ r):=by
 have q:=congrArg (λl=>l[k]?) h.eq;simp only[zq,e,Option.map_some] at q
 cases hp:P[k]? with
 |none=>rw[hp] at q;cases q
 |some r=>rw[hp] at q;exact⟨r,rfl,zA q⟩
theorem KR(O:au)(P:List Row):Pc (O++P.map bJ) (ids O.length P.length) P O.length (O.length+P.length):=by
 refine⟨?_,λi hi=>?_,by rw[zh,zd];exact zc _⟩
 ·refine List.ext_getElem (by rw[zd,oR,zd]) λk h1 h2=>?_
  rw[zd,oR] at h1;rw[List.getElem_map,List.getElem_map];unfold ids;rw[List.getElem_map,List.getElem_range,zE (by omega),Nat.add_sub_cancel_left,zq,zj h1];rfl
 ·obtain⟨k,a,rfl⟩:=zL.mp hi
  have:=List.mem_range.mp a
  omega
theorem lE{O:au}{i:Nat}{l:List D}(h:O[i]?=some (.ml l)):bw O (.ob i)=.lst l:=by
 unfold bw;dsimp only;rw[h]
theorem KY{α:Type}{g:MG}{t:L2.M Bool}{m:L2.M D}(b:aA->Prop)(f:α->D)(h:α->List D)(O:au):∀(xs:List α) (ρ:aA) (E:au) (acc:List D),b ρ ->
  (∀x∈xs,∀ρ,b ρ->∀E,∃a,g (f x) ρ=some a/\b a/\t a (O++E)=.ok true (O++E)/\m a (O++E)=.ok (.lst (h x)) (O++E)) ->
  cT g t (mMl m) (xs.map f) ρ (O++E) acc=.ok (acc++(ids (O.length+E.length) xs.length).map D.ob) (O++(E++xs.map λx=>Ob.ml (h x)))
 | [],ρ,E,acc,_,_=>by
  unfold ids;simp[cT]
 |x::xs,ρ,E,acc,hp,hs=>by
  obtain⟨a,n,h1,l,j⟩:=hs x zo ρ hp E
  have i:mMl m a (O++E)=.ok (.ob (O.length+E.length)) (O++(E++[Ob.ml (h x)])):=by
   unfold mMl;rw[j,aV,zh];dsimp only;rw[zP]
  rw[zl];unfold cT;rw[n];dsimp only;rw[l];dsimp only;rw[i];dsimp only;rw[KY b f h O xs a (E++[Ob.ml (h x)]) _ h1 λu d=>hs u (zv _ d)]
  have c:ids (O.length+E.length) (xs.length+1)=(O.length+E.length)::ids (O.length+E.length+1) xs.length:=by
   unfold ids;rw[List.range_succ_eq_map,zl,zX];congr 1
   refine jl λk _=>?_
   show O.length+E.length+(k+1)=O.length+E.length+1+k;omega
  rw[zC,c,zh,je,<-Nat.add_assoc];simp
theorem Y7(d:D)(w:Nat)(hw:w<=1000):cI (.lst [d]) (.int (w:Int))=some (.lst (List.replicate w d)):=by
 show(if -1000000<(w:Int)/\(w:Int)<1000000/\[d].length * (w:Int).toNat<=1000000 then some (D.lst (List.replicate (w:Int).toNat [d]).flatten) else none)=_;rw[if_pos ⟨by omega,by omega,by simp;omega⟩];simp
def ck(left:Nat)(a:List C):Nat->Row->Row
 | 0,row=>row
 |j+1,row=>(ck left a j row).set (left+j) ((a[j]?).getD bl)
theorem wL(left:Nat)(a:List C):∀(j:Nat) (row:Row),(ck left a j row).length=row.length
 | 0,row=>rfl
 |j+1,row=>by show(List.set _ _ _).length=_;rw[zU,wL left a j row]
theorem KZ(left i:Nat)(a:List C):∀(j:Nat) (row:Row),i<row.length->(ck left a j row)[i]?=if left<=i/\i<left+j then some ((a[i - left]?).getD bl) else row[i]?
 | 0,row,hi=>by rw[if_neg (by omega)];rfl
 |j+1,row,hi=>by
  show((ck left a j row).set (left+j) ((a[j]?).getD bl))[i]?=_;rw[List.getElem?_set,KZ left i a j row hi]
  by_cases h:left+j=i
  ·rw[if_pos h,if_pos (by rw[wL];omega),if_pos (by omega),show i - left=j by omega]
  ·rw[if_neg h]
   by_cases h2:left<=i/\i<left+j
   ·rw[if_pos h2,if_pos (by omega)]
   ·rw[if_neg h2,if_neg (by omega)]
theorem Y8{O R:au}(i:Nat):(O++R)[O.length+i]?=R[i]?:=by
 rw[zE (by omega),Nat.add_sub_cancel_left]
theorem Y9{O R:au}(i:Nat)(o:Ob):(O++R).set (O.length+i) o=O++R.set i o:=by
 rw[List.set_append_right _ _ (by omega),Nat.add_sub_cancel_left]
theorem Za{mo mi m:L2.M D}{ρ:aA}{O:au}{d:D}{n j:Nat}{ds:List D}(h:m ρ O=.ok d O)(a:mo ρ O=.ok (.ob n) O)(hi:mi ρ O=.ok (.int (j:Int)) O)(b:O[n]?=some (.ml ds))(c:j<ds.length):mD mo mi m ρ O=.nx ρ (O.set n (.ml (ds.set j d))):=by
 have q:ixN ds.length (j:Int)=some j:=by
  unfold ixN;rw[if_pos (by omega),if_pos (by omega),Int.toNat_natCast]
 unfold mD;rw[h];dsimp only;rw[a];dsimp only;rw[hi];dsimp only;rw[b];dsimp only;rw[q]
theorem setC{mo mi m:L2.M D}{ρ:aA}{O:au}{Q:List Row}{t j:Nat}{row:Row}{c:C}(a:Q[t]?=some row)(h:m ρ (O++Q.map bJ)=.ok (dC c) (O++Q.map bJ))(b:mo ρ (O++Q.map bJ)=.ok (.ob (O.length+t)) (O++Q.map bJ))(hi:mi ρ (O++Q.map bJ)=.ok (.int (j:Int)) (O++Q.map bJ))(d:j<row.length):
  mD mo mi m ρ (O++Q.map bJ)=.nx ρ (O++(Q.set t (row.set j c)).map bJ):=by
 rw[Za (ds:=row.map dC) h b hi (by rw[Y8,zq,a];rfl) (by rw[zd];exact d),Y9,List.map_set,<-List.map_set];rfl
theorem Zb{α:Type}{l:List α}{t:Nat}{x:α}(h:l[t]?=some x):l.set t x=l:=by
 refine jp λi=>?_
 rw[List.getElem?_set]
 by_cases e:t=i
 ·subst e;rw[if_pos rfl,if_pos (zg.mp h).1,h]
 ·rw[if_neg e]
theorem Zc(b n k:Nat)(h:k<n):(ids b n)[k]?=some (b+k):=by
 unfold ids;rw[zq,List.getElem?_range h];rfl
theorem K1{α:Type}(l:List α)(a b:Nat):fD l (some (a:Int)) (some (b:Int))=(l.drop a).take (b - a):=by
 unfold fD;rw[HT.sIx_nat,HT.sIx_nat]
 by_cases h:a<=l.length
 ·rw[Nat.min_eq_left h]
  by_cases c:b<=l.length
  ·rw[Nat.min_eq_left c]
  ·rw[Nat.min_eq_right (by omega),List.take_of_length_le (by rw[List.length_drop];omega),List.take_of_length_le (by rw[List.length_drop];omega)]
 ·rw[Nat.min_eq_right (show l.length<=a by omega),List.drop_eq_nil_of_le (show l.length<=l.length by omega),List.drop_eq_nil_of_le (show l.length<=a by omega)];simp
theorem Zd{α:Type}(l:List α)(a:Nat):fD l (some (a:Int)) none=l.drop a:=by
 unfold fD;rw[HT.sIx_nat,HT.sIx_none]
 by_cases h:a<=l.length
 ·rw[Nat.min_eq_left h,List.take_of_length_le (by rw[List.length_drop];omega)]
 ·rw[Nat.min_eq_right (by omega),List.drop_eq_nil_of_le (by omega),List.drop_eq_nil_of_le (by omega)];simp
theorem jF{m:L2.M D}{ρ:aA}{O:au}{d:D}{n t:String}(h:m ρ O=.ok d O)(a:tyD (bw O d)=some t):cH n m ρ O=.ok (.bl (cF t n)) O:=by
 rw[Xl,h,aV,a,Xk]
theorem ud{m:L2.M D}{ρ:aA}{O:au}{b:Bool}(h:m ρ O=.ok (.bl b) O):bK m ρ O=.ok b O:=by
 rw[sS,h,aV,oh,sU,sO]
theorem y1:cF "str" "bool" = false:=by decide
theorem y2:cF "str" "int" = false:=by decide
theorem y3:cF "list" "bool" = false:=by decide
theorem y4:cF "list" "int" = false:=by decide
theorem y5:cF "list" "str" = false:=by decide
theorem y6:cF "tuple" "bool" = false:=by decide
theorem y7:cF "tuple" "int" = false:=by decide
theorem y8:cF "tuple" "str" = false:=by decide
theorem y9:cF "list" "tuple" = false:=by decide
theorem Ze(n:Nat)(a:List Nat)(O:au):gZ (n+1) [.str a,.str a] O=.ok (.bl true) O:=by
 have b:∀q,bK (cH q (aa 1)) [some (.str a),some (.str a),none] O=.ok (cF "str" q) O:=λq=>ud (jF (d:=.str a) rfl rfl)
 have c:fL (cH "str" (aa 0)) (ak gEq (aa 0) (aa 1)) [some (.str a),some (.str a),none] O=.ok (.bl true) O:=by
  rw[kY,jF (d:=.str a) (t:="str") rfl rfl,aV,Jm,kW,if_pos rfl,bc (x:=.str a) (y:=.str a) (z:=.bl true) rfl rfl (by rw[IK,sY,zn rfl])]
 show bI (lr (gZ n) [some (.str a),some (.str a),none] O)=_;unfold lr;rw[bh,bN (by rw[b,y1]),fY,bj,bh,bN (by rw[b,y2]),fY,bj,bh,dG (by rw[b,Jm]),jO,c];rfl
def K3(self:List D->au->Res D):MS:=aY (cB (bK (aM self (aj (ak gIx (aa 0) (aa 2)) (aj (ak gIx (aa 1) (aa 2)) aq))))) (aZ (mC (.bl false))) bx
theorem K4(self:List D->au->Res D)(d e:D)(l m:List D)(O:au)(hd:bw O d=.lst l/\bw O e=.lst m\/bw O d=.tup l/\bw O e=.tup m)(T:l.length=m.length)(W:m.length<=1000)
  (R:∀(i:Nat) (x y:D),l[i]?=some x->m[i]?=some y->self [x,y] O=.ok (.bl true) O):bI (lr self [some d,some e,none] O)=.ok (.bl true) O:=by
 have P:∀(i:Nat) (x:D),l[i]?=some x->gIx (bw O d) (.int (i:Int))=some x:=λi x h=>by
  rcases hd with⟨a,_⟩ | ⟨a,_⟩
  ·rw[a,mO,ou,h]
  ·rw[a,Jj,ou,h]
 have L:∀(i:Nat) (x:D),m[i]?=some x->gIx (bw O e) (.int (i:Int))=some x:=λi x h=>by
  rcases hd with⟨_,a⟩ | ⟨_,a⟩
  ·rw[a,mO,ou,h]
  ·rw[a,Jj,ou,h]
 have ln:aL aU (aj (aa 0) aq) [some d,some e,none] O=.ok (.int (m.length:Int)) O:=gJ (xs:=[d]) rfl (by
  rw[zl,zQ,<-T]
  rcases hd with⟨a,_⟩ | ⟨a,_⟩<;>rw[a]<;>rfl)
 have le:aL aU (aj (aa 1) aq) [some d,some e,none] O=.ok (.int (m.length:Int)) O:=gJ (xs:=[e]) rfl (by
  rw[zl,zQ]
  rcases hd with⟨_,a⟩ | ⟨_,a⟩<;>rw[a]<;>rfl)
 obtain⟨U,X,F,u,k,rfl⟩:=fP (g:=mgN 2) (b:=K3 self)
  (λ_ ρ G=>G=O/\∃k,ρ=[some d,some e,k]) (eE 0 m.length) 0 [some d,some e,none] O ⟨rfl,none,rfl⟩ (by
   rintro i x ρ G hi ⟨hO',k,rfl⟩;obtain⟨n,rfl⟩:=jY hi;rw[hO'];have E:l[i]?=some l[i]:=zj (by omega);have B:m[i]?=some m[i]:=zj n
   have c:aM self (aj (ak gIx (aa 0) (aa 2)) (aj (ak gIx (aa 1) (aa 2)) aq)) [some d,some e,some (.int (i:Int))] O=.ok (.bl true) O:=by
    rw[cV (maS (bc (x:=d) (y:=.int (i:Int)) rfl rfl (P i _ E)) (ma1 (bc (x:=e) (y:=.int (i:Int)) rfl rfl (L i _ B)))),R i _ _ E B]
   exact⟨_,rfl,_,_,.inl (not_no (s:=aZ (mC (.bl false))) c),rfl,some (.int (i:Int)),rfl⟩)
 rw[u] at F;have ne:aH (ak gNe (aL aU (aj (aa 0) aq)) (aL aU (aj (aa 1) aq))) [some d,some e,none] O=.ok false O:=fJ (bc ln le (by rw[mJ,yQ,zn rfl];rfl))
 have pre:∃t:String,(t = "list"\/t = "tuple")/\tyD (bw O d)=some t/\tyD (bw O e)=some t:=by
  rcases hd with⟨a,b⟩ | ⟨a,b⟩
  ·exact⟨"list",.inl rfl,by rw[a];rfl,by rw[b];rfl⟩
  ·exact⟨"tuple",.inr rfl,by rw[a];rfl,by rw[b];rfl⟩
 obtain⟨t,Q,J,I⟩:=pre
 have H:∀q,bK (cH q (aa 0)) [some d,some e,none] O=.ok (cF t q) O:=λq=>ud (jF (d:=d) rfl J)
 have f:∀q,bK (cH q (aa 1)) [some d,some e,none] O=.ok (cF t q) O:=λq=>ud (jF (d:=e) rfl I)
 have j:bI (aB (aY (aH (ak gNe (aL aU (aj (aa 0) aq)) (aL aU (aj (aa 1) aq)))) (aZ (mC (.bl false))) bx) (aB (bO (dq (aj (aL aU (aj (aa 1) aq)) aq)) (mgN 2) (K3 self)) (aZ (mC (.bl true)))) [some d,some e,none] O)=.ok (.bl true) O:=by
  rw[bh,bN ne,fY,bj,bh,fM,jE le (by omega),fO,F,bj];rfl
 have z:∀q,cF t q=true->aY (cB (bK (cH q (aa 0)))) (aZ (mC (.bl false))) bx [some d,some e,none] O=.nx [some d,some e,none] O:=λq h=>by
  rw[bN (by rw[sW,H,h,aV];rfl)];rfl
 unfold lr
 rcases Q with rfl | rfl
 ·rw[bh,bN (by rw[f,y3]),fY,bj,bh,bN (by rw[f,y4]),fY,bj,bh,bN (by rw[f,y5]),fY,bj,bh,bN (by rw[f,y9]),z "list" XF,bj];exact j
 ·rw[bh,bN (by rw[f,y6]),fY,bj,bh,bN (by rw[f,y7]),fY,bj,bh,bN (by rw[f,y8]),fY,bj,bh,dG (by rw[f,Jo]),z "tuple" Jo,bj];exact j
theorem K5(n:Nat)(d e:D)(O:au):gZ (n+1) [d,e] O=bI (lr (gZ n) [some d,some e,none] O):=rfl
theorem Zf(n:Nat)(c:C)(O:au):gZ (n+2) [dC c,dC c] O=.ok (.bl true) O:=by
 refine(K5 (n+1) (dC c) (dC c) O).trans (K4 (gZ (n+1)) (dC c) (dC c) [.str c.1,.str c.2.1,.str c.2.2] [.str c.1,.str c.2.1,.str c.2.2] O (.inr ⟨rfl,rfl⟩) rfl (show(3:Nat)<=1000 by decide) λi x y b a=>?_);rw[b] at a;cases a;have d:=zD b;simp only[zm,List.not_mem_nil,or_false] at d
 rcases d with rfl | rfl | rfl<;>exact Ze _ _ _
theorem Zg(n:Nat)(d e:D)(r:Row)(f:r.length<=1000)(O:au)(hd:bw O d=.lst (r.map dC))(g:bw O e=.lst (r.map dC)):gZ (n+3) [d,e] O=.ok (.bl true) O:=by
 refine(K5 (n+2) d e O).trans (K4 (gZ (n+2)) d e (r.map dC) (r.map dC) O (.inl ⟨hd,g⟩) rfl (by rw[zd];exact f) λi x y b a=>?_);rw[b] at a;cases a;obtain⟨c,_,rfl⟩:=zL.mp (zD b);exact Zf _ _ _
theorem K6(n k j:Int)(h:0<j):0<=mix n k % j/\mix n k % j<j:=⟨jh _ (by omega),ji _ h⟩
@[simp] theorem K7{i:Int}:cI (.int i) (.int 48271)=some (.int (i * 48271)):=mL (.inr ⟨by decide,by decide⟩)
@[simp] theorem QyJ{i:Int}:cI (.int i) (.int 7919)=some (.int (i * 7919)):=mL (.inr ⟨by decide,by decide⟩)
@[simp] theorem Qy0{i:Int}:cI (.int 7) (.int i)=some (.int (7 * i)):=mL (.inl ⟨by decide,by decide⟩)
theorem Zh(ns:List Int)(k:Int)(h0:0<=k)(h1:k<=1000)(O:au):∃v,gb [.lst (ns.map D.int),.int k] O=.ok (.int v) O:=by
 by_cases c:k<ns.length
 ·obtain⟨x,b,ex⟩:=sZ (xs:=ns.map D.int) h0 (by simpa using c);obtain⟨n,_,rfl⟩:=zL.mp ex;exact⟨n,by simp[gb,tV,c,mO,b]⟩
 ·have a:=mL (i:=k) (j:=k) (.inl ⟨by omega,by omega⟩)
  by_cases d:0<ns.length
  ·have hn':(0:Int)<ns.length:=by omega
   obtain⟨x,b,ex⟩:=sZ (xs:=ns.map D.int) (i:=k % (ns.length:Int)) (jh _ (by omega)) (by simpa using ji k hn');obtain⟨n,_,rfl⟩:=zL.mp ex;exact⟨(k * k * 7919+104729+n % 1000003 * 48271) * 48271 % 2147483647,by simp[gb,tV,c,a,mO,b,d]⟩
  ·have:ns=[]:=List.eq_nil_of_length_eq_zero (by omega)
   subst this;exact⟨(k * k * 7919+104729) * 48271 % 2147483647,by simp[gb,tV,a];omega⟩
theorem Zi{m:Int}(h0:0<=m)(h1:m<2147483629):cI (.int m) (.int m)=some (.int (m * m)):=mL (.inl ⟨by omega,by omega⟩)
theorem Zj{l:List Nat}{v:Int}(a:l.length<=1000000)(b:0<l.length):∃c,c∈l/\gIx (.str l) (.int (v % (l.length:Int)))=some (.str [c]):=by
 obtain⟨c,h1,h2⟩:=sZ (xs:=l) (i:=v % (l.length:Int)) (jh _ (by omega)) (ji _ (by omega));exact⟨c,h2,by rw[Jk,if_pos a,h1];rfl⟩
theorem ixS{l:List Nat}{v n:Int}(b:l.length<=1000000)(h:(l.length:Int)=n)(a:0<n):∃c,c∈l/\gIx (.str l) (.int (v % n))=some (.str [c]):=by
 obtain⟨c,h1,h2⟩:=sZ (xs:=l) (i:=v % n) (jh _ (by omega)) (by rw[h];exact ji _ a);exact⟨c,h2,by rw[Jk,if_pos b,h1];rfl⟩
theorem ixL{l:List D}{v n:Int}(h:(l.length:Int)=n)(a:0<n):∃c,c∈l/\gIx (.lst l) (.int (v % n))=some c:=by
 obtain⟨c,h1,h2⟩:=sZ (xs:=l) (i:=v % n) (jh _ (by omega)) (by rw[h];exact ji _ a);exact⟨c,h2,h1⟩
theorem wM(xs:List Int){a b:L2.M D}{ρ:aA}{O:au}{k:Int}(c:a ρ O=.ok (.lst (xs.map D.int)) O)(hb:b ρ O=.ok (.int k) O)(h0:0<=k)(h1:k<=1000):∃v,aM gb (aj a (aj b aq)) ρ O=.ok (.int v) O:=by
 obtain⟨v,e⟩:=Zh xs k h0 h1 O;exact⟨v,by rw[cV (maS c (ma1 hb)),e]⟩
theorem ints4{a b c d:Int}(v:Int)(lo hi:Int)(h:∀x∈[a,b,c,d],lo<=x/\x<=hi):∃x,lo<=x/\x<=hi/\gIx (.lst [.int a,.int b,.int c,.int d]) (.int (v % 4))=some (.int x):=by
 obtain⟨y,g,f⟩:=ixL (l:=[.int a,.int b,.int c,.int d]) (v:=v) (n:=4) rfl (by decide);simp only[zm,List.not_mem_nil,or_false] at g
 rcases g with rfl | rfl | rfl | rfl
 ·exact⟨a,(h a (by simp)).1,(h a (by simp)).2,f⟩
 ·exact⟨b,(h b (by simp)).1,(h b (by simp)).2,f⟩
 ·exact⟨c,(h c (by simp)).1,(h c (by simp)).2,f⟩
 ·exact⟨d,(h d (by simp)).1,(h d (by simp)).2,f⟩
def qN:MS:=aY (aH (ak gGt (aa 0) (ak fG (mC (.int 10)) (mC (.int 18))))) (aB (cM 4 (ak bD (aa 3) (ak fG (mC (.int 10)) (mC (.int 9)))))
  (aF 3 (ak dj (aa 3) (ak fG (mC (.int 10)) (mC (.int 9)))))) (aB (aF 2 (ak bD (ak aN (ak cI (aa 2) (mC (.int 48271))) (mC (.int 104729))) (mC (.int 2147483629))))
  (cM 4 (ak dj (ak bD (ak cI (aa 2) (aa 2)) (mC (.int 998244353))) (mC (.int 11)))))
theorem wN{a b:L2.M D}{ρ:aA}{O:au}{i j:Int}(d:a ρ O=.ok (.int i) O)(hb:b ρ O=.ok (.int j) O)(c:0<j/\j<1073741824):ak dj a b ρ O=.ok (.int (i / j)) O:=bc d hb (by rw[mJ,mJ,Xw,if_pos c])
theorem p9{ρ:aA}{O:au}:ak fG (mC (.int 10)) (mC (.int 9)) ρ O=.ok (.int 1000000000) O:=bc rfl rfl XD
theorem K8(c:Int)(n:Nat)(J:n<=1000)(O:au):∃xs:List Int,xs.length=n/\qG [.int c,.int (n:Int)] O=.ok (.lst (xs.map D.int)) O:=by
 obtain⟨H,L,G,B,m,r,a,u,rfl,k⟩:=fP (g:=mgN 5) (b:=qN)
  (λi ρ f=>f=O/\∃m r a u,ρ=[some (.int c),some (.int (n:Int)),some (.int m),some (.int r),some (.lst (a.map D.int)),u]/\a.length=i) (eE 0 n) 0
  [some (.int c),some (.int (n:Int)),some (.int ((c % 2147483647+7919) * 48271+104729)),some (.int c),some (.lst []),none] O ⟨rfl,_,_,[],_,rfl,rfl⟩ (by
   rintro i d ρ f hi ⟨hO',m,r,a,u,rfl,k⟩;obtain⟨I,rfl⟩:=jY hi;have t:aH (ak gGt (aa 0) (ak fG (mC (.int 10)) (mC (.int 18)))) [some (.int c),some (.int (n:Int)),some (.int m),some (.int r),some (.lst (a.map D.int)),some (.int (i:Int))] f=.ok (decide (1000000000000000000<c)) f:=fJ (bc (x:=.int c) (y:=.int 1000000000000000000) rfl (bc rfl rfl XC) rfl)
   by_cases F:1000000000000000000<c
   ·have z:=m6 (i:=4) (m:=ak bD (aa 3) (ak fG (mC (.int 10)) (mC (.int 9)))) (ρ:=[some (.int c),some (.int (n:Int)),some (.int m),some (.int r),some (.lst (a.map D.int)),some (.int (i:Int))]) (O:=f) (ds:=a.map D.int) (gf (i:=r) rfl p9 (by decide)) rfl (by rw[zd];omega);have E:=bV (i:=3) (m:=ak dj (aa 3) (ak fG (mC (.int 10)) (mC (.int 9)))) (ρ:=[some (.int c),some (.int (n:Int)),some (.int m),some (.int r),some (.lst ((a++[r % 1000000000]).map D.int)),some (.int (i:Int))]) (O:=f) (wN (i:=r) rfl p9 (by decide));refine⟨_,rfl,_,_,.inl ?_,hO',m,r / 1000000000,a++[r % 1000000000],some (.int (i:Int)),rfl,by rw[zh,k];rfl⟩
    show qN [some (.int c),some (.int (n:Int)),some (.int m),some (.int r),some (.lst (a.map D.int)),some (.int (i:Int))] f=_;unfold qN;rw[dG (by rw[t,zn F]),bh,z,bj];rw[zG] at E ⊢;exact E
   ·have h0:0<=(m * 48271+104729) % 2147483629:=jh _ (by decide);have h1:=ji (m * 48271+104729) (show(0:Int)<2147483629 by decide);have l:=bV (i:=2) (m:=ak bD (ak aN (ak cI (aa 2) (mC (.int 48271))) (mC (.int 104729))) (mC (.int 2147483629))) (ρ:=[some (.int c),some (.int (n:Int)),some (.int m),some (.int r),some (.lst (a.map D.int)),some (.int (i:Int))]) (O:=f) (gf (j:=2147483629) (dW (i:=m * 48271) (j:=104729) (bc (x:=.int m) (y:=.int 48271) rfl rfl K7) rfl) rfl (by decide))
    generalize (m * 48271+104729) % 2147483629=h at l h0 h1
    have z:=m6 (i:=4) (m:=ak dj (ak bD (ak cI (aa 2) (aa 2)) (mC (.int 998244353))) (mC (.int 11))) (ρ:=[some (.int c),some (.int (n:Int)),some (.int h),some (.int r),some (.lst (a.map D.int)),some (.int (i:Int))]) (O:=f) (ds:=a.map D.int) (wN (j:=11) (gf (i:=h * h) (j:=998244353) (bc (x:=.int h) (y:=.int h) rfl rfl (Zi h0 h1)) rfl (by decide)) rfl (by decide)) rfl (by rw[zd];omega);refine⟨_,rfl,_,_,.inl ?_,hO',h,r,a++[h * h % 998244353 / 11],some (.int (i:Int)),rfl,by rw[zh,k];rfl⟩;show qN [some (.int c),some (.int (n:Int)),some (.int m),some (.int r),some (.lst (a.map D.int)),some (.int (i:Int))] f=_
    unfold qN;rw[bN (by rw[t,zf F]),bh,l,bj];rw[zG]
    exact z)
 rw[B] at G;rw[mR,zy] at k;refine⟨a,k,?_⟩;have l:=bV (i:=2) (m:=ak aN (ak cI (ak aN (ak bD (aa 0) (mC (.int 2147483647))) (mC (.int 7919))) (mC (.int 48271))) (mC (.int 104729))) (ρ:=[some (.int c),some (.int (n:Int)),none,none,none,none]) (O:=O) (dW (i:=(c % 2147483647+7919) * 48271) (j:=104729) (bc (x:=.int (c % 2147483647+7919)) (y:=.int 48271) (dW (gf (i:=c) (j:=2147483647) rfl rfl (by decide)) rfl) rfl K7) rfl);show bI (aB _ (aB (aF 3 (mG (aa 0))) (aB (aF 4 (bF aq)) (aB (bO (dq (aj (aa 1) aq)) (mgN 5) qN) (aZ (aa 4))))) [some (.int c),some (.int (n:Int)),none,none,none,none] O)=_
 rw[bh,l,bj,bh,show aF 3 (mG (aa 0)) ([some (.int c),some (.int (n:Int)),none,none,none,none].set 2 (some (.int ((c % 2147483647+7919) * 48271+104729)))) O=.nx [some (.int c),some (.int (n:Int)),some (.int ((c % 2147483647+7919) * 48271+104729)),some (.int c),none,none] O from rfl,bj,bh,show aF 4 (bF aq) [some (.int c),some (.int (n:Int)),some (.int ((c % 2147483647+7919) * 48271+104729)),some (.int c),none,none] O=.nx [some (.int c),some (.int (n:Int)),some (.int ((c % 2147483647+7919) * 48271+104729)),some (.int c),some (.lst []),none] O from rfl,bj,bh,fM,jE (m:=aa 1) (n:=n) rfl (by omega),fO,G,bj]
 rfl
theorem K9{α β:Type}{g:MG}{t:L2.M Bool}{m:L2.M D}(c:aA->Prop)(f:α->D)(F:β->D)(Q:β->Prop):∀(xs:List α) (ρ:aA) (O:au) (acc:List D),c ρ ->
  (∀x∈xs,∀ρ,c ρ->∃a,g (f x) ρ=some a/\c a/\t a O=.ok true O/\∃b,Q b/\m a O=.ok (F b) O)->∃bs:List β,bs.length=xs.length/\(∀b∈bs,Q b)/\cT g t m (xs.map f) ρ O acc=.ok (acc++bs.map F) O
 | [],ρ,O,acc,_,_=>⟨[],rfl,λb h=>(nomatch h),by simp[cT]⟩
 |x::xs,ρ,O,acc,hp,hs=>by
  obtain⟨a,z,h1,u,b,h,n⟩:=hs x zo ρ hp
  obtain⟨bs,l,k,j⟩:=K9 c f F Q xs a O (acc++[F b]) h1 λB i=>hs B (zv _ i)
  refine⟨b::bs,by rw[zC,zC,l],λy d=>?_,?_⟩
  ·rcases zm.mp d with rfl | d
   ·exact h
   ·exact k y d
  ·rw[zl];unfold cT;rw[z];dsimp only;rw[u];dsimp only;rw[n];dsimp only;rw[j];simp
theorem La{α:Type}(f:α->Int):∀l:List α,iz (l.map λx=>.int (f x))=some (l.map f)
 | []=>rfl
 |x::l=>by
  show(iz (l.map λx=>D.int (f x))).map _=_;rw[La f l];rfl
theorem Lb{α:Type}(f:α->Int)(l:List α)(h:∀x∈l,0<=f x/\f x<=1000000)(c:l.length<=1000000):mj [.lst (l.map λx=>.int (f x))]=some (.int (l.map f).sum):=by
 unfold mj;dsimp only;rw[La];show(if _ then _ else _)=_;rw[if_pos];rw[zu,jo];refine⟨λn b=>?_,zn (by rw[zd];exact c)⟩;obtain⟨x,a,rfl⟩:=zL.mp b
 have:=h x a
 simp[this]
theorem wQ{a b:L2.M D}{ρ:aA}{O:au}{i j:Int}(c:a ρ O=.ok (.int i) O)(hb:b ρ O=.ok (.int j) O):aH (ak gGt a b) ρ O=.ok (decide (j<i)) O:=fJ (bc c hb rfl)
theorem ue{d a:L2.M Bool}{ρ:aA}{O:au}{b c:Bool}(h1:d ρ O=.ok b O)(h2:a ρ O=.ok c O):fW d a ρ O=.ok (b&&c) O:=by
 rw[sV,h1,aV];cases b
 ·rw[if_neg zp];rfl
 ·rw[if_pos rfl,h2];rfl
def NOk(l:List Nat):Prop:=∀c∈l,c<1114112
def COk(c:C):Prop:=NOk c.1/\NOk c.2.1/\NOk c.2.2
def ROk(r:Row):Prop:=∀c∈r,COk c
abbrev gK:List Nat:=[97,98,99,100,101,102,103,104,105,106,107,108,109,110,111,112,113,114,115,116,117,118,119,120,121,122,48,49,50,51,52,53,54,55,56,57,33,34,35,36,38,39,40,41,42,43,44,45,46,47,58,59,60,61,62,63,64,91,92,93,94,95,96,123,124,125]
abbrev wR:List Nat:=[65,66,67,68,69,70,71,72,73,74,75,76,77,78,79,80,81,82,83,84,85,86,87,88,89,90]
abbrev lF:List Nat:=[97,98,99,100,101,102,103,104,46]
theorem lG{c:Nat}(h:c<1114112):NOk [c]:=λx a=>by rw[zk.mp a];exact h
theorem Zk:NOk []:=λx a=>nomatch a
theorem Zm:∀c∈gK,c<1114112:=by decide
theorem Zn:∀c∈wR,c<1114112:=by decide
theorem Ld:∀c∈lF,c<1114112:=by decide
theorem Le:COk bl:=⟨lG (by decide),lG (by decide),lG (by decide)⟩
theorem Dn{c:C}(h:COk c):ROk [c]:=λx a=>by rw[zk.mp a];exact h
def eC(n room:Int)(a2 c b a:Option D):aA:=[some (.int n),some (.int room),a2,c,b,a]
theorem wU{m:L2.M D}{ρ:aA}{O:au}{c:C}(h:m ρ O=.ok (dC c) O):bF (aj m aq) ρ O=.ok (.lst ([c].map dC)) O:=lD (ma1 h) (show(1:Nat)<=1000000 by decide)
theorem Zo{b a:L2.M D}{ρ:aA}{O:au}{c d:C}(h:b ρ O=.ok (dC c) O)(h2:a ρ O=.ok (dC d) O):bF (aj b (aj a aq)) ρ O=.ok (.lst ([c,d].map dC)) O:=lD (maS h (ma1 h2)) (show(2:Nat)<=1000000 by decide)
theorem qO{g f d:L2.M D}{ρ:aA}{O:au}{a b c:List Nat}(h1:g ρ O=.ok (.str a) O)(h2:f ρ O=.ok (.str b) O)(h3:d ρ O=.ok (.str c) O):bA (aj g (aj f (aj d aq))) ρ O=.ok (dC (a,b,c)) O:=jV (maS h1 (maS h2 (ma1 h3))) (show(3:Nat)<=1000000 by decide)
theorem m7{m:L2.M D}{ρ:aA}{O O1:au}{d:D}(h:m ρ O=.ok d O1):aZ m ρ O=.rt d O1:=by rw[jO,h];rfl
def Bl(b:Row):Prop:=(∃c:C,b=[c]/\c.1≠[])\/∃c d:C,b=[c,d]/\c.1≠[]/\d.1=[]
def Wf(r:Row):Prop:=∃bs:List Row,(∀b∈bs,Bl b)/\r=bs.flatten
theorem Do:Wf []:=⟨[],λb a=>(nomatch a),rfl⟩
theorem Wf.snoc{r b:Row}(h:Wf r)(hb:Bl b):Wf (r++b):=by
 obtain⟨bs,h1,rfl⟩:=h;refine⟨bs++[b],λx a=>?_,by rw[jm,List.flatten_singleton]⟩
 rcases zz.mp a with a | a
 ·exact h1 x a
 ·rw[zk.mp a];exact hb
theorem Lf(n room:Int)(h1:1<=room)(O:au):∃m:Row,1<=m.length/\(m.length:Int)<=room/\m.length<=2/\ROk m/\Bl m/\oJ [.int n,.int room] O=.ok (.lst (m.map dC)) O:=by
 obtain⟨f,R,e3⟩:=ixS (l:=lF) (v:=n) (n:=9) (by decide) rfl (by decide);obtain⟨g,Q,e4⟩:=ixS (l:=lF) (v:=n / 9) (n:=9) (by decide) rfl (by decide);obtain⟨Y,P,e5⟩:=ixS (l:=wR) (v:=n / 486) (n:=26) (by decide) rfl (by decide);obtain⟨X,L,e6⟩:=Zj (l:=gK) (v:=n / 486) (by decide) (by decide)
 have B:∀(j:Int) (a2 a3 a4 a5:Option D),0<j/\j<1073741824->ak dj (aa 0) (mC (.int j)) (eC n room a2 a3 a4 a5) O=.ok (.int (n / j)) O:=λj a2 a3 a4 a5 hj=>wN rfl rfl hj
 have s2:aF 2 (mC (.str gK)) (eC n room none none none none) O=.nx (eC n room (some (.str gK)) none none none) O:=rfl;have s3:aF 3 (ak gIx (mC (.str lF)) (ak bD (aa 0) (mC (.int 9)))) (eC n room (some (.str gK)) none none none) O=.nx (eC n room (some (.str gK)) (some (.str [f])) none none) O:=bV (bc (x:=.str lF) rfl (gf (i:=n) (j:=9) rfl rfl (by decide)) e3);have s4:aF 4 (ak gIx (mC (.str lF)) (ak bD (ak dj (aa 0) (mC (.int 9))) (mC (.int 9)))) (eC n room (some (.str gK)) (some (.str [f])) none none) O=.nx (eC n room (some (.str gK)) (some (.str [f])) (some (.str [g])) none) O:=bV (bc (x:=.str lF) rfl (gf (i:=n / 9) (j:=9) (B 9 _ _ _ _ (by decide)) rfl (by decide)) e4)
 have U:aF 5 (ak bD (ak dj (aa 0) (mC (.int 81))) (mC (.int 6))) (eC n room (some (.str gK)) (some (.str [f])) (some (.str [g])) none) O=.nx (eC n room (some (.str gK)) (some (.str [f])) (some (.str [g])) (some (.int (n / 81 % 6)))) O:=bV (gf (B 81 _ _ _ _ (by decide)) rfl (by decide))
 generalize n / 81 % 6=d at U
 obtain⟨ρ,c⟩:∃ρ,ρ=eC n room (some (.str gK)) (some (.str [f])) (some (.str [g])) (some (.int d)):=⟨_,rfl⟩
 have G:aa 3 ρ O=.ok (.str [f]) O:=by rw[c];rfl
 have u:aa 4 ρ O=.ok (.str [g]) O:=by rw[c];rfl
 have h:∀k:Int,aH (ak gEq (aa 5) (mC (.int k))) ρ O=.ok (decide (d=k)) O:=λk=>by rw[c];exact jW rfl rfl
 have W:aH (ak gGt (aa 1) (mC (.int 1))) ρ O=.ok (decide (1<room)) O:=by rw[c];exact wQ rfl rfl
 have g5:ak gIx (mC (.str wR)) (ak bD (ak dj (aa 0) (mC (.int 486))) (mC (.int 26))) ρ O=.ok (.str [Y]) O:=by rw[c];exact bc (x:=.str wR) rfl (gf (i:=n / 486) (j:=26) (B 486 _ _ _ _ (by decide)) rfl (by decide)) e5
 have g6:ak gIx (aa 2) (ak bD (ak dj (aa 0) (mC (.int 486))) (aL aU (aj (aa 2) aq))) ρ O=.ok (.str [X]) O:=by rw[c];exact bc (x:=.str gK) rfl (gf (i:=n / 486) (j:=(gK.length:Int)) (B 486 _ _ _ _ (by decide)) (gJ (xs:=[.str gK]) rfl (by rw[zl,zQ,IK,Xz,if_pos (by decide)])) (by decide)) e6
 have pre:∀Z:MS,bI (aB (aF 2 (mC (.str gK))) (aB (aF 3 (ak gIx (mC (.str lF)) (ak bD (aa 0) (mC (.int 9))))) (aB (aF 4 (ak gIx (mC (.str lF)) (ak bD (ak dj (aa 0) (mC (.int 9))) (mC (.int 9))))) (aB (aF 5 (ak bD (ak dj (aa 0) (mC (.int 81))) (mC (.int 6)))) Z))) (eC n room none none none none) O)=bI (Z ρ O):=λZ=>by
  rw[bh,s2,bj,bh,s3,bj,bh,s4,bj,bh,U,bj,c]
 have I:=lG (Ld _ R);have y:=lG (Ld _ Q);have k5:=lG (Zn _ P);have k6:=lG (Zm _ L)
 by_cases F:d=0/\1<room
 ·refine⟨[([Y],[f],[g]),([],[f],[g])],Nat.le_of_ble_eq_true rfl,by show(2:Int)<=room;omega,Nat.le_of_ble_eq_true rfl,λx J=>?_,.inr ⟨_,_,rfl,(λz=>nomatch z),rfl⟩,(pre _).trans ?_⟩
  ·rcases zm.mp J with rfl | J
   ·exact⟨k5,I,y⟩
   ·rw[zk.mp J];exact⟨Zk,I,y⟩
  ·rw[bh,dG (by rw[ue (h 0) W,zn F.1,zn F.2];rfl),m7 (Zo (qO g5 G u) (qO rfl G u))];rfl
 ·have H:(fW (aH (ak gEq (aa 5) (mC (.int 0)))) (aH (ak gGt (aa 1) (mC (.int 1))))) ρ O=.ok false O:=by
   rw[ue (h 0) W]
   by_cases a:d=0
   ·rw[zf (λb=>F ⟨a,b⟩),Bool.and_false]
   ·rw[zf a,Bool.false_and]
  by_cases E:d=1
  ·refine⟨[([32],[46],[g])],Nat.le_of_ble_eq_true rfl,by show(1:Int)<=room;omega,Nat.le_of_ble_eq_true rfl,Dn ⟨lG (by decide),lG (by decide),y⟩,.inl ⟨_,rfl,λz=>nomatch z⟩,(pre _).trans ?_⟩;rw[bh,bN H,fY,bj,bh,dG (by rw[h,zn E]),m7 (wU (qO rfl rfl u))];rfl
  ·by_cases T:d=2
   ·refine⟨[bl],Nat.le_of_ble_eq_true rfl,by show(1:Int)<=room;omega,Nat.le_of_ble_eq_true rfl,Dn Le,.inl ⟨_,rfl,λz=>nomatch z⟩,(pre _).trans ?_⟩;rw[bh,bN H,fY,bj,bh,bN (by rw[h,zf E]),fY,bj,bh,dG (by rw[h,zn T]),m7 (wU (qO rfl rfl rfl))];rfl
   ·refine⟨[([X],[f],[g])],Nat.le_of_ble_eq_true rfl,by show(1:Int)<=room;omega,Nat.le_of_ble_eq_true rfl,Dn ⟨k6,I,y⟩,.inl ⟨_,rfl,λz=>nomatch z⟩,(pre _).trans ?_⟩;rw[bh,bN H,fY,bj,bh,bN (by rw[h,zf E]),fY,bj,bh,bN (by rw[h,zf T]),fY,bj,m7 (wU (qO g6 G u))];rfl
def eS(X:D)(a1 a2 a:Option D):aA:=[some X,a1,a2,a]
theorem Zq(xs:List Int)(O:au):∃h w:Nat,1<=h/\h<=12/\2<=w/\w<=40/\wF [.lst (xs.map D.int)] O=.ok (.tup [.int (h:Int),.int (w:Int)]) O:=by
 obtain⟨X,y⟩:∃X,X=D.lst (xs.map D.int):=⟨_,rfl⟩;obtain⟨v,J⟩:=wM xs (a:=aa 0) (b:=mC (.int 0)) (ρ:=eS X none none none) (O:=O) (by rw[y];rfl) rfl (by decide) (by decide);obtain⟨n,a1,a2,l⟩:=ints4 (a:=3) (b:=4) (c:=3) (d:=12) (mix v 2) 3 12 (by decide);obtain⟨m,R,Q,k⟩:=ints4 (a:=6) (b:=11) (c:=11) (d:=39) (mix v 4) 6 39 (by decide);have P:=K6 v 1 n (by omega);have L:=K6 v 3 m (by omega);obtain⟨h,I⟩:∃h:Nat,1+mix v 1 % n=(h:Int):=⟨_,(Int.toNat_of_nonneg (by omega)).symm⟩;obtain⟨w,hw⟩:∃w:Nat,2+mix v 3 % m=(w:Int):=⟨_,(Int.toNat_of_nonneg (by omega)).symm⟩
 have H:aF 1 (aM gb (aj (aa 0) (aj (mC (.int 0)) aq))) (eS X none none none) O=.nx (eS X (some (.int v)) none none) O:=bV J
 have G:aF 2 (ak aN (mC (.int 1)) (ak bD (aM gk (aj (aa 1) (aj (mC (.int 1)) aq))) (ak gIx (bF (aj (mC (.int 3)) (aj (mC (.int 4)) (aj (mC (.int 3)) (aj (mC (.int 12)) aq))))) (ak bD (aM gk (aj (aa 1) (aj (mC (.int 2)) aq))) (mC (.int 4)))))) (eS X (some (.int v)) none none) O=.nx (eS X (some (.int v)) (some (.int (h:Int))) none) O:=by
  rw[<-I];exact bV (dW rfl (gf (qM (c:=v) rfl rfl (by decide) (by decide)) (bc (x:=.lst [.int 3,.int 4,.int 3,.int 12]) rfl (gf (j:=4) (qM (c:=v) rfl rfl (by decide) (by decide)) rfl (by decide)) l) (by omega)))
 have F:aF 3 (ak aN (mC (.int 2)) (ak bD (aM gk (aj (aa 1) (aj (mC (.int 3)) aq))) (ak gIx (bF (aj (mC (.int 6)) (aj (mC (.int 11)) (aj (mC (.int 11)) (aj (mC (.int 39)) aq))))) (ak bD (aM gk (aj (aa 1) (aj (mC (.int 4)) aq))) (mC (.int 4)))))) (eS X (some (.int v)) (some (.int (h:Int))) none) O=.nx (eS X (some (.int v)) (some (.int (h:Int))) (some (.int (w:Int)))) O:=by
  rw[<-hw];exact bV (dW rfl (gf (qM (c:=v) rfl rfl (by decide) (by decide)) (bc (x:=.lst [.int 6,.int 11,.int 11,.int 39]) rfl (gf (j:=4) (qM (c:=v) rfl rfl (by decide) (by decide)) rfl (by decide)) k) (by omega)))
 have t:aH (ak gGt (aa 2) (mC (.int 4))) (eS X (some (.int v)) (some (.int (h:Int))) (some (.int (w:Int)))) O=.ok (decide (4<(h:Int))) O:=wQ rfl rfl
 obtain⟨f,B,z,E⟩:∃f:Nat,2<=f/\f<=40/\aY (aH (ak gGt (aa 2) (mC (.int 4)))) (aF 3 (aL pN (aj (aa 3) (aj (mC (.int 16)) aq)))) bx (eS X (some (.int v)) (some (.int (h:Int))) (some (.int (w:Int)))) O=.nx (eS X (some (.int v)) (some (.int (h:Int))) (some (.int (f:Int)))) O:=by
  by_cases i:4<(h:Int)
  ·have g:aL pN (aj (aa 3) (aj (mC (.int 16)) aq)) (eS X (some (.int v)) (some (.int (h:Int))) (some (.int (w:Int)))) O=.ok (.int (if(16:Int)<(w:Int) then 16 else(w:Int))) O:=gJ (xs:=[.int (w:Int),.int 16]) rfl rfl
   by_cases u:(16:Int)<(w:Int)
   ·rw[if_pos u] at g;refine⟨16,by omega,by omega,?_⟩;rw[dG (by rw[t,zn i])];exact bV g
   ·rw[if_neg u] at g;refine⟨w,by omega,by omega,?_⟩;rw[dG (by rw[t,zn i])];exact bV g
  ·refine⟨w,by omega,by omega,?_⟩;rw[bN (by rw[t,zf i])];rfl
 refine⟨h,f,by omega,by omega,B,z,?_⟩;rw[<-y];show bI (wD (eS X none none none) O)=_;unfold wD;rw[bh,H,bj,bh,G,bj,bh,F,bj,bh,E,bj];rfl
theorem Dp{a b:L2.M D}{ρ:aA}{O:au}{x y:Row}(c:a ρ O=.ok (.lst (x.map dC)) O)(hb:b ρ O=.ok (.lst (y.map dC)) O)(d:x.length+y.length<=10000):ak aN a b ρ O=.ok (.lst ((x++y).map dC)) O :=
 bc c hb (by rw[kO,kO,Jh,if_pos (by rw[zd,zd];omega),zG])
theorem oU{m:L2.M D}{ρ:aA}{O:au}{r:Row}(h:m ρ O=.ok (.lst (r.map dC)) O):aL aU (aj m aq) ρ O=.ok (.int (r.length:Int)) O:=by
 have:=qK h
 rwa [zd] at this
theorem Dq{a b:Row}(h1:ROk a)(h2:ROk b):ROk (a++b):=λc d=>by
 rcases zz.mp d with d | d
 ·exact h1 c d
 ·exact h2 c d
def qP:MS:=aY (aH (ak gLt (aL aU (aj (aa 2) aq)) (aa 1))) (aF 2 (ak aN (aa 2) (aM oJ (aj (aa 3) (aj (ak jL (aa 1) (aL aU (aj (aa 2) aq))) aq))))) bx
theorem Lg(c:Int)(w:Nat)(hw:w<=100)(O:au):∃r:Row,r.length=w/\ROk r/\Wf r/\lu [.int c,.int (w:Int)] O=.ok (.lst (r.map dC)) O:=by
 obtain⟨F,a,ex⟩:=K8 c w (by omega) O;obtain⟨J,R,z,l,r,h,rfl,h1,h2,h3,h4⟩:=fP (g:=mgN 3) (b:=qP)
  (λk ρ E=>E=O/\∃(r:Row) (h:Option D),ρ=[some (.int c),some (.int (w:Int)),some (.lst (r.map dC)),h]/\r.length<=w/\(k<=r.length\/r.length=w)/\ROk r/\Wf r) (F.map D.int) 0 [some (.int c),some (.int (w:Int)),some (.lst []),none] O
  ⟨rfl,[],none,rfl,Nat.zero_le _,.inl (zc _),(λx a=>nomatch a),Do⟩ (by
   rintro i d ρ E hi ⟨hO',r,h,rfl,h1,h2,h3,h4⟩;obtain⟨n,_,rfl⟩:=zL.mp (zD hi);rw[zy] at h2;rw[hO'];have u:=oU (m:=aa 2) (ρ:=[some (.int c),some (.int (w:Int)),some (.lst (r.map dC)),some (.int n)]) (O:=O) (r:=r) rfl;have t:=qL u (b:=aa 1) (j:=(w:Int)) rfl
   by_cases y:(r.length:Int)<(w:Int)
   ·obtain⟨B,Q,P,L,I,G,H⟩:=Lf n ((w:Int) - (r.length:Int)) (by omega) O
    have f:qP [some (.int c),some (.int (w:Int)),some (.lst (r.map dC)),some (.int n)] O=.nx [some (.int c),some (.int (w:Int)),some (.lst ((r++B).map dC)),some (.int n)] O:=by
     unfold qP;rw[dG (by rw[t,zn y])];exact bV (Dp rfl (by rw[cV (maS (x:=.int n) rfl (ma1 (Dm (i:=(w:Int)) rfl u))),H]) (by omega))
    refine⟨_,rfl,_,_,.inl f,rfl,r++B,some (.int n),rfl,by rw[zh];omega,.inl (by rw[zh];omega),Dq h3 I,h4.snoc G⟩
   ·have f:qP [some (.int c),some (.int (w:Int)),some (.lst (r.map dC)),some (.int n)] O=.nx [some (.int c),some (.int (w:Int)),some (.lst (r.map dC)),some (.int n)] O:=by
     unfold qP;rw[bN (by rw[t,zf y])];rfl
    exact⟨_,rfl,_,_,.inl f,rfl,r,some (.int n),rfl,h1,.inr (by omega),h3,h4⟩)
 rw[l] at z;rw[zd,zy,a] at h2;refine⟨r,by omega,h3,h4,?_⟩;show bI (aB (aF 2 (bF aq)) (aB (bO (cA (aM qG (aj (aa 0) (aj (aa 1) aq)))) (mgN 3) qP) (aZ (aa 2))) [some (.int c),some (.int (w:Int)),none,none] O)=_;rw[bh,show aF 2 (bF aq) [some (.int c),some (.int (w:Int)),none,none] O=.nx [some (.int c),some (.int (w:Int)),some (.lst []),none] O from rfl,bj,bh,fM,g8 (by rw[cV (maS (x:=.int c) rfl (ma1 (x:=.int (w:Int)) rfl)),ex]),fO,z,bj];rfl
theorem wV{a mi:L2.M D}{ρ:aA}{O:au}{row:Row}{k:Nat}{c:C}(h0:a ρ O=.ok (.lst (row.map dC)) O)(hi:mi ρ O=.ok (.int (k:Int)) O)(b:row[k]?=some c):ak gIx (ak gIx a mi) (mC (.int 0)) ρ O=.ok (.str c.1) O :=
 bc (x:=dC c) (y:=.int 0) (bc h0 hi (iW (by rw[zq,b];rfl))) rfl rfl
def SZ(i:Nat):L2.M D:=ak aN (mC (.int 1)) (aL nP (aj (fL (ak gLt (ak aN (aa i) (mC (.int 1))) (aL aU (aj (aa 0) aq))) (ak gEq (ak gIx (ak gIx (aa 0) (ak aN (aa i) (mC (.int 1)))) (mC (.int 0))) (mC (.str [])))) aq))
theorem Zr{i:Nat}{ρ:aA}{O:au}{row:Row}{k:Nat}(h0:aa 0 ρ O=.ok (.lst (row.map dC)) O)(hi:aa i ρ O=.ok (.int (k:Int)) O)(x:k<row.length):
  ∃s:Nat,1<=s/\k+s<=row.length/\(s=1\/s=2/\∃c,row[k+1]?=some c/\c.1=[])/\SZ i ρ O=.ok (.int (s:Int)) O:=by
 have a1:ak aN (aa i) (mC (.int 1)) ρ O=.ok (.int ((k+1:Nat):Int)) O:=by
  rw[jc];exact dW hi rfl
 have l:=oU h0;have j:ak gLt (ak aN (aa i) (mC (.int 1))) (aL aU (aj (aa 0) aq)) ρ O=.ok (.bl (decide (((k+1:Nat):Int)<(row.length:Int)))) O:=bc a1 l rfl
 have a:∀b:Bool,fL (ak gLt (ak aN (aa i) (mC (.int 1))) (aL aU (aj (aa 0) aq))) (ak gEq (ak gIx (ak gIx (aa 0) (ak aN (aa i) (mC (.int 1)))) (mC (.int 0))) (mC (.str []))) ρ O=.ok (.bl b) O->SZ i ρ O=.ok (.int (1+(if b then 1 else 0))) O:=λb h=>dW rfl (gJ (xs:=[.bl b]) (ma1 h) (by rw[zl,zQ,oh,Jl]))
 by_cases m:k+1<row.length
 ·have g:row[k+1]?=some row[k+1]:=zj m;have n:=wV h0 a1 g;have u:ak gEq (ak gIx (ak gIx (aa 0) (ak aN (aa i) (mC (.int 1)))) (mC (.int 0))) (mC (.str [])) ρ O=.ok (.bl (decide ((row[k+1]).1=[]))) O:=bc n rfl sY;have f:=a (decide ((row[k+1]).1=[])) (by rw[kY,j,aV,zn (by omega),kW,if_pos rfl,u])
  by_cases d:(row[k+1]).1=[]
  ·rw[zn d] at f;exact⟨2,by decide,by omega,.inr ⟨rfl,_,g,d⟩,f⟩
  ·rw[zf d] at f;exact⟨1,by decide,by omega,.inl rfl,f⟩
 ·have f:=a false (by rw[kY,j,aV,zf (by omega),kW,if_neg zp]);exact⟨1,by decide,by omega,.inl rfl,f⟩
theorem Zt{m a b:L2.M D}{ρ:aA}{O:au}{row:Row}{k s:Nat}(d:m ρ O=.ok (.lst (row.map dC)) O)(c:a ρ O=.ok (.int (k:Int)) O)(hb:b ρ O=.ok (.int (s:Int)) O):mSl m (moS a) (moS (ak aN a b)) ρ O=.ok (.lst (((row.drop k).take s).map dC)) O:=by
 rw[vA,d,aV,vz,c,aV,vq,aV,vz,dW c hb,aV,vq,aV,kO,vB,show(k:Int)+(s:Int)=((k+s:Nat):Int) from rfl,K1,Nat.add_sub_cancel_left,n8,List.map_take,List.map_drop]
theorem uf{row:Row}{k s:Nat}(h:ROk row):ROk ((row.drop k).take s):=λc a=>h c (List.mem_of_mem_drop (List.mem_of_mem_take a))
theorem Zu{α:Type}(l:List α)(h:0<l.length):fD l none (some (-1))=l.take (l.length - 1):=by
 unfold fD;rw[HT.sIx_none,List.drop_zero,Nat.sub_zero];congr 1;show(if(-1:Int)<0 then(-1+(l.length:Int)).toNat else min (-1:Int).toNat l.length)=_;rw[if_pos (by decide)];omega
theorem Zv{xs:List Int}(h:0<xs.length):∃v:Int,gIx (.lst (xs.map D.int)) (.int (-1))=some (.int v):=by
 have q:atI (xs.map D.int) (-1)=(xs.map D.int)[xs.length - 1]?:=by
  have z:ixN (xs.map D.int).length (-1)=some (xs.length - 1):=by
   unfold ixN;rw[zd,if_neg (by omega),if_pos (by omega)];congr 1;omega
  unfold atI;rw[z];rfl
 rw[mO,q,zq,zj (by omega)];exact⟨_,rfl⟩
def ug(i:Nat):L2.M D:=ak gIx (ak gIx (aa 0) (aa i)) (mC (.int 0))
def qQ:MS:=aB (aF 6 (aL aU (aj (aa 4) aq))) (aY (aH (ak gLt (aa 6) (aL aU (aj (aa 0) aq)))) (aB (aF 7 (SZ 6)) (aY (fW (aH (ak gNe (ug 6) (mC (.str [])))) (aH (ak gGt (ak bD (aa 5) (aa 3)) (mC (.int 0))))) (aF 4 (ak aN (aa 4) (mSl (aa 0) (moS (aa 6)) (moS (ak aN (aa 6) (aa 7)))))) (aF 4 (ak aN (aa 4) (aM oJ (aj (ak dj (aa 5) (aa 3)) (aj (ak jL (aL aU (aj (aa 0) aq)) (aa 6)) aq))))))) bx)
def eH(row:Row)(c:Int)(X:D)(K:Int)(r:Row)(d b a:Option D):aA:=[some (.lst (row.map dC)),some (.int c),some X,some (.int K),some (.lst (r.map dC)),d,b,a]
theorem Zw(row:Row)(Q:row.length<=100)(hok:ROk row)(c:Int)(X:D)(K:Int)(P:0<K/\K<1073741824)(r:Row)(hr:r.length<=row.length)(f:ROk r)(d:Wf r)(n:Int)(H b:Option D)(O:au):
  ∃(h:Row) (b6 E:Option D),h.length<=row.length/\(r.length+1<=h.length\/h.length=row.length)/\ROk h/\Wf h/\qQ (eH row c X K r (some (.int n)) H b) O=.nx (eH row c X K h (some (.int n)) b6 E) O:=by
 have J:aF 6 (aL aU (aj (aa 4) aq)) (eH row c X K r (some (.int n)) H b) O=.nx (eH row c X K r (some (.int n)) (some (.int (r.length:Int))) b) O:=bV (oU (r:=r) rfl)
 have L:∀E,aL aU (aj (aa 0) aq) (eH row c X K r (some (.int n)) (some (.int (r.length:Int))) E) O=.ok (.int (row.length:Int)) O:=λE=>oU (r:=row) rfl
 have t:aH (ak gLt (aa 6) (aL aU (aj (aa 0) aq))) (eH row c X K r (some (.int n)) (some (.int (r.length:Int))) b) O=.ok (decide ((r.length:Int)<(row.length:Int))) O:=qL rfl (L b)
 by_cases B:r.length<row.length
 ·obtain⟨s,s1,s2,Y,W⟩:=Zr (i:=6) (ρ:=eH row c X K r (some (.int n)) (some (.int (r.length:Int))) b) (O:=O) (row:=row) (k:=r.length) rfl rfl B;have U:aF 7 (SZ 6) (eH row c X K r (some (.int n)) (some (.int (r.length:Int))) b) O=.nx (eH row c X K r (some (.int n)) (some (.int (r.length:Int))) (some (.int (s:Int)))) O:=bV W;obtain⟨a,g⟩:∃a,row[r.length]?=some a:=⟨_,zj B⟩;have T:aH (ak gNe (ug 6) (mC (.str []))) (eH row c X K r (some (.int n)) (some (.int (r.length:Int))) (some (.int (s:Int)))) O=.ok (!decide (a.1=[])) O:=fJ (bc (wV (row:=row) (k:=r.length) (c:=a) rfl rfl g) rfl yR)
  have R:aH (ak gGt (ak bD (aa 5) (aa 3)) (mC (.int 0))) (eH row c X K r (some (.int n)) (some (.int (r.length:Int))) (some (.int (s:Int)))) O=.ok (decide (0<n % K)) O:=wQ (gf (i:=n) (j:=K) rfl rfl P.1) rfl;have y:=ue T R
  have pre:qQ (eH row c X K r (some (.int n)) H b) O=aY (fW (aH (ak gNe (ug 6) (mC (.str [])))) (aH (ak gGt (ak bD (aa 5) (aa 3)) (mC (.int 0))))) (aF 4 (ak aN (aa 4) (mSl (aa 0) (moS (aa 6)) (moS (ak aN (aa 6) (aa 7)))))) (aF 4 (ak aN (aa 4) (aM oJ (aj (ak dj (aa 5) (aa 3)) (aj (ak jL (aL aU (aj (aa 0) aq)) (aa 6)) aq))))) (eH row c X K r (some (.int n)) (some (.int (r.length:Int))) (some (.int (s:Int)))) O:=by
   unfold qQ;rw[bh,J,bj,dG (by rw[t,zn (by omega)]),bh,U,bj]
  cases hb:(!decide (a.1=[])&&decide (0<n % K)) with
  |true =>
   rw[hb] at y
   have G:((row.drop r.length).take s).length=s:=by rw[List.length_take,List.length_drop];omega
   have u:a.1≠[]:=λz=>by
    rw[zn z] at hb;cases hb
   have m:row.drop r.length=a::row.drop (r.length+1):=by
    rw[List.drop_eq_getElem_cons B];rw[zj B] at g;cases g;rfl
   have I:Bl ((row.drop r.length).take s):=by
    rcases Y with rfl | ⟨rfl,c2,F,Z⟩
    ·exact .inl ⟨a,by rw[m];rfl,u⟩
    ·have l:=(zg.mp F).1;refine .inr ⟨a,c2,?_,u,Z⟩;rw[m,List.drop_eq_getElem_cons l];rw[zj l] at F;cases F;rfl
   refine⟨r++(row.drop r.length).take s,some (.int (r.length:Int)),some (.int (s:Int)),by rw[zh,G];omega,.inl (by rw[zh,G];omega),Dq f (uf hok),d.snoc I,pre.trans ?_⟩;rw[dG y];exact bV (Dp (x:=r) rfl (Zt (row:=row) (k:=r.length) (s:=s) rfl rfl rfl) (by rw[G];omega))
  |false =>
   rw[hb] at y;obtain⟨cs,g1,g2,g3,g4,gB,g5⟩:=Lf (n / K) ((row.length:Int) - (r.length:Int)) (by omega) O;refine⟨r++cs,some (.int (r.length:Int)),some (.int (s:Int)),by rw[zh];omega,.inl (by rw[zh];omega),Dq f g4,d.snoc gB,pre.trans ?_⟩;rw[bN y];exact bV (Dp (x:=r) rfl (by rw[cV (maS (wN (i:=n) (j:=K) rfl rfl P) (ma1 (Dm (j:=(r.length:Int)) (L _) rfl))),g5]) (by omega))
 ·refine⟨r,some (.int (r.length:Int)),b,hr,.inr (by omega),f,d,?_⟩;unfold qQ;rw[bh,J,bj,bN (by rw[t,zf (by omega)])];rfl
theorem Zx(row:Row)(f:row.length<=100)(hok:ROk row)(c:Int)(O:au):∃r:Row,r.length=row.length/\ROk r/\Wf r/\tX [.lst (row.map dC),.int c] O=.ok (.lst (r.map dC)) O:=by
 obtain⟨xs,m,ex⟩:=K8 c (row.length+1) (by omega) O;obtain⟨v,T⟩:=Zv (xs:=xs) (by omega);obtain⟨K,k1,k2,U⟩:=ints4 (a:=2) (b:=4) (c:=9) (d:=30) v 2 30 (by decide);obtain⟨X,u⟩:∃X,X=D.lst (xs.map D.int):=⟨_,rfl⟩
 have I:aF 2 (aM qG (aj (aa 1) (aj (ak aN (aL aU (aj (aa 0) aq)) (mC (.int 1))) aq))) [some (.lst (row.map dC)),some (.int c),none,none,none,none,none,none] O=.nx [some (.lst (row.map dC)),some (.int c),some X,none,none,none,none,none] O:=by
  rw[u];exact bV (by rw[cV (maS (x:=.int c) rfl (ma1 (x:=.int ((row.length+1:Nat):Int)) (by rw[jc];exact dW (oU (r:=row) rfl) rfl))),ex])
 have H:aF 3 (ak gIx (bF (aj (mC (.int 2)) (aj (mC (.int 4)) (aj (mC (.int 9)) (aj (mC (.int 30)) aq))))) (ak bD (ak gIx (aa 2) (mUn f9 (mC (.int 1)))) (mC (.int 4)))) [some (.lst (row.map dC)),some (.int c),some X,none,none,none,none,none] O=.nx [some (.lst (row.map dC)),some (.int c),some X,some (.int K),none,none,none,none] O :=
  bV (bc (x:=.lst [.int 2,.int 4,.int 9,.int 30]) rfl (gf (i:=v) (j:=4) (bc (x:=X) (y:=.int (-1)) rfl rfl (by rw[u];exact T)) rfl (by decide)) U)
 have G:aF 4 (bF aq) [some (.lst (row.map dC)),some (.int c),some X,some (.int K),none,none,none,none] O=.nx (eH row c X K [] none none none) O:=rfl
 have it:cA (mSl (aa 2) moN (moS (mUn f9 (mC (.int 1))))) (eH row c X K [] none none none) O=.ok ((xs.take row.length).map D.int) O:=by
  refine g8 ?_;rw[vA];show ofO (gSl (bw O X) none (some (-1))) O=_;rw[u,kO,vB,Zu _ (by rw[zd];omega),n8,zd,m,Nat.add_sub_cancel,List.map_take]
 obtain⟨Z,O1,E,B,r,z,l,h,rfl,h1,h2,h3,h4⟩:=fP (g:=mgN 5) (b:=qQ)
  (λk ρ F=>F=O/\∃(r:Row) (z l h:Option D),ρ=eH row c X K r z l h/\r.length<=row.length/\(k<=r.length\/r.length=row.length)/\ROk r/\Wf r) ((xs.take row.length).map D.int) 0 (eH row c X K [] none none none) O
  ⟨rfl,[],none,none,none,rfl,Nat.zero_le _,.inl (zc _),(λx m=>nomatch m),Do⟩ (by
   rintro i d ρ F hi ⟨hO',r,z,l,h,rfl,h1,h2,h3,h4⟩;obtain⟨n,_,rfl⟩:=zL.mp (zD hi);rw[zy] at h2;rw[hO'];obtain⟨J,Y,W,R,g2,Q,L,P⟩:=Zw row f hok c X K ⟨by omega,by omega⟩ r h1 h3 h4 n l h O
   exact⟨_,rfl,_,_,.inl P,rfl,J,some (.int n),Y,W,rfl,R,by omega,Q,L⟩)
 rw[B] at E;rw[zd,zy,List.length_take] at h2;refine⟨r,by omega,h3,h4,?_⟩;show bI (aB _ (aB _ (aB (aF 4 (bF aq)) (aB (bO (cA (mSl (aa 2) moN (moS (mUn f9 (mC (.int 1)))))) (mgN 5) qQ) (aZ (aa 4))))) [some (.lst (row.map dC)),some (.int c),none,none,none,none,none,none] O)=_;rw[bh,I,bj,bh,H,bj,bh,G,bj,bh,fM,it,fO,E,bj];rfl
def dS(p:Nat×Nat):D:=.tup [.int (p.1:Int),.int (p.2:Int)]
def qR:MS:=aY (aH (ak gNe (ug 2) (mC (.str [])))) (cM 1 (bA (aj (aa 2) (aj (SZ 2) aq)))) bx
def dRw(r:Row):D:=.lst (r.map dC)
def dP(P:List Row):D:=.lst (P.map dRw)
structure Pic(P:List Row)(h w:Nat):Prop where
 len:P.length=h
 wd:∀r∈P,r.length=w
 ok:∀r∈P,ROk r
 wf:∀r∈P,Wf r
def BLK(i:Nat):L2.M D:=ak cI (bF (aj (bA (aj (mC (.str [32])) (aj (mC (.str [46])) (aj (mC (.str [46])) aq)))) aq)) (aa i)
theorem Lh{i w:Nat}{ρ:aA}{O:au}(h:aa i ρ O=.ok (.int (w:Int)) O)(hw:w<=1000):BLK i ρ O=.ok (dRw (List.replicate w bl)) O:=by
 unfold BLK dRw;rw[List.map_replicate];exact bc (wU (qO rfl rfl rfl)) h (Y7 (dC bl) w hw)
theorem Li(w:Nat):ROk (List.replicate w bl):=λc a=>by rw[(List.mem_replicate.mp a).2];exact Le
theorem Dr:∀w:Nat,Wf (List.replicate w bl)
 | 0=>Do
 |w+1=>by
  rw[List.replicate_succ'];exact(Dr w).snoc (.inl ⟨_,rfl,λz=>nomatch z⟩)
def uh:MS:=aB (aF 6 (aM gb (aj (aa 0) (aj (ak aN (mC (.int 13)) (aa 5)) aq))))
  (aB (aF 7 (ak bD (aM gk (aj (aa 6) (aj (mC (.int 0)) aq))) (mC (.int 6))))
  (aY (aH (ak gEq (aa 7) (mC (.int 0)))) (cM 4 (aL iy (aj (ak gIx (aa 3) (aa 5)) aq))) (aY (aH (ak gEq (aa 7) (mC (.int 1)))) (cM 4 (aM lu (aj (aa 6) (aj (aa 2) aq)))) (aY (aH (ak gEq (aa 7) (mC (.int 2)))) (cM 4 (BLK 2)) (cM 4 (aM tX (aj (ak gIx (aa 3) (aa 5)) (aj (aa 6) aq))))))))
def eP(X:D)(h w:Nat)(d3 a d c b:Option D):aA:=[some X,some (.int (h:Int)),some (.int (w:Int)),d3,a,d,c,b]
theorem Zy(xs:List Int)(h w:Nat)(hh:h<=12)(hw:w<=40){P:List Row}(G:Pic P h w)(Q:List Row)(k:Nat)(hk:k<h)(hQ:Q.length<=100)(H z:Option D)(O:au):
  ∃(r:Row) (b6 b7:Option D),r.length=w/\ROk r/\Wf r/\uh (eP (.lst (xs.map D.int)) h w (some (dP P)) (some (dP Q)) (some (.int (k:Int))) H z) O=.nx (eP (.lst (xs.map D.int)) h w (some (dP P)) (some (dP (Q++[r]))) (some (.int (k:Int))) b6 b7) O:=by
 obtain⟨X,Z⟩:∃X,X=D.lst (xs.map D.int):=⟨_,rfl⟩;rw[<-Z];obtain⟨v,ev⟩:=wM xs (a:=aa 0) (b:=ak aN (mC (.int 13)) (aa 5)) (ρ:=eP X h w (some (dP P)) (some (dP Q)) (some (.int (k:Int))) H z) (O:=O) (k:=13+(k:Int)) (by rw[Z];rfl) (dW rfl rfl) (by omega) (by omega);have s6:aF 6 (aM gb (aj (aa 0) (aj (ak aN (mC (.int 13)) (aa 5)) aq))) (eP X h w (some (dP P)) (some (dP Q)) (some (.int (k:Int))) H z) O=.nx (eP X h w (some (dP P)) (some (dP Q)) (some (.int (k:Int))) (some (.int v)) z) O:=bV ev;have U:aF 7 (ak bD (aM gk (aj (aa 6) (aj (mC (.int 0)) aq))) (mC (.int 6))) (eP X h w (some (dP P)) (some (dP Q)) (some (.int (k:Int))) (some (.int v)) z) O=.nx (eP X h w (some (dP P)) (some (dP Q)) (some (.int (k:Int))) (some (.int v)) (some (.int (mix v 0 % 6)))) O:=bV (gf (qM rfl rfl (by decide) (by decide)) rfl (by decide))
 generalize mix v 0 % 6=c at U
 obtain⟨ρ,d⟩:∃ρ,ρ=eP X h w (some (dP P)) (some (dP Q)) (some (.int (k:Int))) (some (.int v)) (some (.int c)):=⟨_,rfl⟩
 have g:k<P.length:=by rw[G.len];exact hk
 have Y:P[k]?=some P[k]:=zj g;have E:=G.wd _ (zW g);have u:=G.ok _ (zW g);have B:=G.wf _ (zW g)
 generalize P[k]=n at Y E u B
 have W:ak gIx (aa 3) (aa 5) ρ O=.ok (dRw n) O:=by
  rw[d];exact bc (x:=dP P) (y:=.int (k:Int)) rfl rfl (iW (by rw[zq,Y];rfl))
 have f:∀j:Int,aH (ak gEq (aa 7) (mC (.int j))) ρ O=.ok (decide (c=j)) O:=λj=>by rw[d];exact jW rfl rfl
 have l:∀(m:L2.M D) (r:Row),m ρ O=.ok (dRw r) O->cM 4 m ρ O=.nx (eP X h w (some (dP P)) (some (dP (Q++[r]))) (some (.int (k:Int))) (some (.int v)) (some (.int c))) O:=λm r hm=>by
  have:=m6 (i:=4) (ds:=Q.map dRw) hm (by rw[d];rfl) (by rw[zd];omega)
  rw[this,d];unfold dP;rw[zG];rfl
 have pre:uh (eP X h w (some (dP P)) (some (dP Q)) (some (.int (k:Int))) H z) O=(aY (aH (ak gEq (aa 7) (mC (.int 0)))) (cM 4 (aL iy (aj (ak gIx (aa 3) (aa 5)) aq))) (aY (aH (ak gEq (aa 7) (mC (.int 1)))) (cM 4 (aM lu (aj (aa 6) (aj (aa 2) aq)))) (aY (aH (ak gEq (aa 7) (mC (.int 2)))) (cM 4 (BLK 2)) (cM 4 (aM tX (aj (ak gIx (aa 3) (aa 5)) (aj (aa 6) aq))))))) ρ O:=by
  unfold uh;rw[bh,s6,bj,bh,U,bj,d]
 by_cases F:c=0
 ·exact⟨n,some (.int v),some (.int c),E,u,B,pre.trans (by rw[dG (by rw[f,zn F])];exact l _ _ (wK W rfl))⟩
 ·by_cases I:c=1
  ·obtain⟨r,g1,R,J,L⟩:=Lg v w (by omega) O;refine⟨r,some (.int v),some (.int c),g1,R,J,pre.trans ?_⟩;rw[bN (by rw[f,zf F]),dG (by rw[f,zn I])];exact l _ _ (by rw[d,cV (maS (x:=.int v) rfl (ma1 (x:=.int (w:Int)) rfl)),L];rfl)
  ·by_cases T:c=2
   ·refine⟨List.replicate w bl,some (.int v),some (.int c),List.length_replicate,Li w,Dr w,pre.trans ?_⟩;rw[bN (by rw[f,zf F]),bN (by rw[f,zf I]),dG (by rw[f,zn T])];exact l _ _ (Lh (by rw[d];rfl) (by omega))
   ·obtain⟨r,g1,R,J,L⟩:=Zx n (by omega) u v O;refine⟨r,some (.int v),some (.int c),by omega,R,J,pre.trans ?_⟩;rw[bN (by rw[f,zf F]),bN (by rw[f,zf I]),bN (by rw[f,zf T])];exact l _ _ (by rw[cV (maS W (ma1 (x:=.int v) (by rw[d];rfl)))];exact L)
theorem Zz(xs:List Int)(O:au):∃(h w:Nat) (P Q:List Row),1<=h/\h<=12/\2<=w/\w<=40/\Pic P h w/\Pic Q h w/\wG [.lst (xs.map D.int)] O=.ok (.tup [dP P,dP Q]) O:=by
 obtain⟨h,w,h1,H,w2,F,es⟩:=Zq xs O;obtain⟨X,J⟩:∃X,X=D.lst (xs.map D.int):=⟨_,rfl⟩;rw[<-J] at es ⊢
 have sA:iw (aM wF (aj (aa 0) aq)) (dM 2 (bC (mgN 1) (bC (mgN 2) dU))) [some X,none,none,none,none,none,none,none] O=.nx (eP X h w none none none none none) O:=by
  rw[vI,cV (ma1 (x:=X) rfl),es,vJ vK];rfl
 obtain⟨P,I,R,ep⟩:=K9 (g:=mgN 0) (t:=eQ) (m:=aM lu (aj (aM gb (aj (aa 1) (aj (ak aN (mC (.int 1)) (aa 0)) aq))) (aj (aa 2) aq))) (λρ=>∃a,ρ=[a,some X,some (.int (w:Int))]) (λi:Nat=>D.int (i:Int)) dRw (λr=>r.length=w/\ROk r/\Wf r) (List.range h) [none,some X,some (.int (w:Int))] O [] ⟨_,rfl⟩ (by
  rintro k hk ρ ⟨a,rfl⟩;have hk':=List.mem_range.mp hk;refine⟨_,rfl,⟨_,rfl⟩,rfl,?_⟩;obtain⟨u,eu⟩:=wM xs (a:=aa 1) (b:=ak aN (mC (.int 1)) (aa 0)) (ρ:=[some (.int (k:Int)),some X,some (.int (w:Int))]) (O:=O) (k:=1+(k:Int)) (by rw[J];rfl) (dW rfl rfl) (by omega) (by omega);obtain⟨r,E,B,g4,g3⟩:=Lg u w (by omega) O;refine⟨r,⟨E,B,g4⟩,?_⟩;show aM lu _ [some (.int (k:Int)),some X,some (.int (w:Int))] O=_;rw[cV (maS eu (ma1 (x:=.int (w:Int)) rfl)),g3]
  rfl)
 rw[zM] at ep;rw[List.length_range] at I;have hP:Pic P h w:=⟨I,λr c=>(R r c).1,λr c=>(R r c).2.1,λr c=>(R r c).2.2⟩;have G:=jE (m:=aa 1) (ρ:=eP X h w none none none none none) (O:=O) (n:=h) rfl (by omega);rw[KQ] at G;have s3:aF 3 (dB (dq (aj (aa 1) aq)) 1 [0,2] (mgN 0) eQ (aM lu (aj (aM gb (aj (aa 1) (aj (ak aN (mC (.int 1)) (aa 0)) aq))) (aj (aa 2) aq)))) (eP X h w none none none none none) O=.nx (eP X h w (some (dP P)) none none none none) O :=
  bV (jX (own:=1) (cap:=[0,2]) G (by rw[zd,List.length_range];omega) (ρ0:=[none,some X,some (.int (w:Int))]) rfl ep)
 have s4:aF 4 (bF aq) (eP X h w (some (dP P)) none none none none) O=.nx (eP X h w (some (dP P)) (some (dP [])) none none none) O:=rfl;obtain⟨ρ1,O1,e1,W,Q,y,j,f,rfl,E,B⟩:=fP (g:=mgN 5) (b:=uh)
  (λk ρ O'=>O'=O/\∃(Q:List Row) (y j f:Option D),ρ=eP X h w (some (dP P)) (some (dP Q)) y j f/\Q.length=k/\(∀r∈Q,r.length=w/\ROk r/\Wf r)) (eE 0 h) 0 (eP X h w (some (dP P)) (some (dP [])) none none none) O
  ⟨rfl,[],none,none,none,rfl,rfl,λx z=>nomatch z⟩ (by
   rintro i d ρ O' hi ⟨hO',Q,y,j,f,rfl,E,B⟩;obtain⟨T,rfl⟩:=jY hi;rw[hO'];obtain⟨r,b6,b7,z1,z2,z4,Y⟩:=Zy xs h w H F hP Q i T (by omega) j f O;rw[<-J] at Y;refine⟨_,rfl,_,_,.inl Y,rfl,Q++[r],some (.int (i:Int)),b6,b7,rfl,by rw[zh,E];rfl,λx z=>?_⟩
   rcases zz.mp z with z | z
   ·exact B x z
   ·rw[zk.mp z]
    exact⟨z1,z2,z4⟩)
 rw[W] at e1;rw[mR,zy] at E;have hQ:Pic Q h w:=⟨E,λr c=>(B r c).1,λr c=>(B r c).2.1,λr c=>(B r c).2.2⟩;obtain⟨v,ev⟩:=wM xs (a:=aa 0) (b:=mC (.int 0)) (ρ:=eP X h w (some (dP P)) (some (dP Q)) y j f) (O:=O) (k:=0) (by rw[J];rfl) rfl (by decide) (by decide);have t:aH (ak gEq (ak bD (aM gk (aj (aM gb (aj (aa 0) (aj (mC (.int 0)) aq))) (aj (mC (.int 5)) aq))) (mC (.int 5))) (mC (.int 1))) (eP X h w (some (dP P)) (some (dP Q)) y j f) O=.ok (decide (mix v 5 % 5=1)) O:=jW (gf (qM ev rfl (by decide) (by decide)) rfl (by decide)) rfl
 obtain⟨L,U,s5⟩:∃L:List Row,Pic L h w/\aY (aH (ak gEq (ak bD (aM gk (aj (aM gb (aj (aa 0) (aj (mC (.int 0)) aq))) (aj (mC (.int 5)) aq))) (mC (.int 5))) (mC (.int 1)))) (aF 3 (dB (cA (aa 3)) 1 [2] (mgN 0) eQ (BLK 1))) bx (eP X h w (some (dP P)) (some (dP Q)) y j f) O=.nx (eP X h w (some (dP L)) (some (dP Q)) y j f) O:=by
  by_cases Z:mix v 5 % 5=1
  ·have ec:=vL (g:=mgN 0) (t:=eQ) (m:=BLK 1) (λρ=>∃a,ρ=[a,some (.int (w:Int))]) dRw (λ_=>dRw (List.replicate w bl)) P [none,some (.int (w:Int))] O [] ⟨_,rfl⟩ (by
    rintro r c ρ ⟨a,rfl⟩
    exact⟨_,rfl,⟨_,rfl⟩,rfl,Lh rfl (by omega)⟩)
   rw[zM] at ec;refine⟨List.replicate h (List.replicate w bl),⟨List.length_replicate,λr c=>by rw[(List.mem_replicate.mp c).2,List.length_replicate],λr c=>by rw[(List.mem_replicate.mp c).2];exact Li w,λr c=>by rw[(List.mem_replicate.mp c).2];exact Dr w⟩,?_⟩;rw[dG (by rw[t,zn Z])]
   have:=bV (i:=3) (jX (own:=1) (cap:=[2]) (g8 (m:=aa 3) (ρ:=eP X h w (some (dP P)) (some (dP Q)) y j f) (O:=O) (l:=P.map dRw) rfl) (by rw[zd,I];omega) (ρ0:=[none,some (.int (w:Int))]) rfl ec)
   rw[this,List.map_const',I];unfold dP;rw[List.map_replicate];rfl
  ·refine⟨P,hP,?_⟩;rw[bN (by rw[t,zf Z])];rfl
 refine⟨h,w,L,Q,h1,H,w2,F,U,hQ,?_⟩;show bI (aB _ (aB _ (aB (aF 4 (bF aq)) (aB (bO (dq (aj (aa 1) aq)) (mgN 5) uh) (aB (aY _ (aF 3 (dB (cA (aa 3)) 1 [2] (mgN 0) eQ (BLK 1))) bx) (nU (aZ (bA (aj (aa 3) (aj (aa 4) aq)))))))))  [some X,none,none,none,none,none,none,none] O)=_;rw[bh,sA,bj,bh,s3,bj,bh,s4,bj,bh,fM,jE (m:=aa 1) (n:=h) rfl (by omega),fO,e1,bj,bh,s5,bj];rfl
def szf(row:Row)(k:Nat):Nat:=match row[k+1]? with
 |some c=>if c.1=[] then 2 else 1
 |none=>1
theorem ZC{i:Nat}{ρ:aA}{O:au}{row:Row}{k:Nat}(h0:aa 0 ρ O=.ok (.lst (row.map dC)) O)(hi:aa i ρ O=.ok (.int (k:Int)) O)(u:k<row.length):SZ i ρ O=.ok (.int (szf row k:Int)) O:=by
 have a1:ak aN (aa i) (mC (.int 1)) ρ O=.ok (.int ((k+1:Nat):Int)) O:=by
  rw[jc];exact dW hi rfl
 have j:=oU h0;have g:ak gLt (ak aN (aa i) (mC (.int 1))) (aL aU (aj (aa 0) aq)) ρ O=.ok (.bl (decide (((k+1:Nat):Int)<(row.length:Int)))) O:=bc a1 j rfl
 have a:∀b:Bool,fL (ak gLt (ak aN (aa i) (mC (.int 1))) (aL aU (aj (aa 0) aq))) (ak gEq (ak gIx (ak gIx (aa 0) (ak aN (aa i) (mC (.int 1)))) (mC (.int 0))) (mC (.str []))) ρ O=.ok (.bl b) O->SZ i ρ O=.ok (.int (1+(if b then 1 else 0))) O:=λb h=>dW rfl (gJ (xs:=[.bl b]) (ma1 h) (by rw[zl,zQ,oh,Jl]))
 unfold szf
 by_cases l:k+1<row.length
 ·have d:row[k+1]?=some row[k+1]:=zj l;have m:=wV h0 a1 d;have n:ak gEq (ak gIx (ak gIx (aa 0) (ak aN (aa i) (mC (.int 1)))) (mC (.int 0))) (mC (.str [])) ρ O=.ok (.bl (decide ((row[k+1]).1=[]))) O:=bc m rfl sY;have f:=a (decide ((row[k+1]).1=[])) (by rw[kY,g,aV,zn (by omega),kW,if_pos rfl,n]);rw[d];dsimp only
  by_cases c:(row[k+1]).1=[]
  ·rw[zn c] at f;rw[f,if_pos c];rfl
  ·rw[zf c] at f;rw[f,if_neg c];rfl
 ·have f:=a false (by rw[kY,g,aV,zf (by omega),kW,if_neg zp]);rw[f,zV (by omega)];rfl
def bg:Nat->Row->List Nat
 | _,[]=>[]
 |k,c::r=>if c.1=[] then bg (k+1) r else k::bg (k+1) r
theorem Ds:∀(k:Nat) (a b:Row),bg k (a++b)=bg k a++bg (k+a.length) b
 |k,[],b=>rfl
 |k,c::a,b=>by
  show(if c.1=[] then bg (k+1) (a++b) else k::bg (k+1) (a++b))=(if c.1=[] then bg (k+1) a else k::bg (k+1) a)++_;rw[Ds (k+1) a b,zC,show k+1+a.length=k+(a.length+1) by omega]
  by_cases h:c.1=[]
  ·rw[if_pos h,if_pos h]
  ·rw[if_neg h,if_neg h];rfl
theorem Dt(k:Nat)(c:C):bg k [c]=if c.1=[] then[] else[k]:=rfl
def sps:Nat->List Row->List (Nat×Nat)
 | _,[]=>[]
 |k,b::bs=>(k,b.length)::sps (k+b.length) bs
theorem ZD{b:Row}(h:Bl b)(k:Nat):bg k b=[k]:=by
 rcases h with⟨c,rfl,h1⟩ | ⟨c,d,rfl,h1,h2⟩
 ·rw[Dt,if_neg h1]
 ·show(if c.1=[] then bg (k+1) [d] else k::bg (k+1) [d])=_;rw[if_neg h1,Dt,if_pos h2]
theorem Du:∀(k:Nat) (bs:List Row),(∀b∈bs,Bl b)->bg k bs.flatten=(sps k bs).map (·.1)
 |k,[],_=>rfl
 |k,b::bs,h=>by
  rw[List.flatten_cons,Ds,ZD (h b zo),Du (k+b.length) bs λx a=>h x (zv _ a)];rfl
theorem Lj:∀(pre:Row) (bs:List Row),(∀b∈bs,Bl b)->∀p∈sps pre.length bs,szf (pre++bs.flatten) p.1=p.2
 |pre,[],_,p,a=>nomatch a
 |pre,b::bs,h,p,a=>by
  have k:=h b zo
  have i:=λx j=>h x (zv b j)
  rcases zm.mp a with rfl | a
  ·show szf (pre++(b::bs).flatten) pre.length=b.length;unfold szf;rw[List.flatten_cons,zE (by omega),show pre.length+1 - pre.length=1 by omega]
   rcases k with⟨c,rfl,h1⟩ | ⟨c,d,rfl,h1,h2⟩
   ·rw[zE (by exact zc _)];show(match bs.flatten[0]? with | some c=>_ | none=>_)=1
    cases bs with
    |nil=>rfl
    |cons b2 bs2 =>
     rcases i b2 zo with⟨g,rfl,f⟩ | ⟨g,m,rfl,f,l⟩
     ·show(if g.1=[] then 2 else 1)=1;rw[if_neg f]
     ·show(if g.1=[] then 2 else 1)=1;rw[if_neg f]
   ·show(if d.1=[] then 2 else 1)=2;rw[if_pos h2]
  ·have q:=Lj (pre++b) bs i p (by rw[zh];exact a);rw[zP] at q;exact q
theorem ZF(bs:List Row)(j:∀b∈bs,Bl b)(l:bs.flatten.length<=100)(O:au):t7 [.lst (bs.flatten.map dC)] O=.ok (.lst ((sps 0 bs).map dS)) O:=by
 obtain⟨row,f⟩:∃row,row=bs.flatten:=⟨_,rfl⟩;rw[<-f] at l ⊢;obtain⟨R,B⟩:∃R,R=D.lst (row.map dC):=⟨_,rfl⟩
 have m:∀(k:Nat) (r:Row),(bg k r).length<=r.length:=λk r=>by
  induction r generalizing k with
  |nil=>exact zc _
  |cons c r ih =>
   show(if c.1=[] then bg (k+1) r else k::bg (k+1) r).length<=r.length+1
   have:=ih (k+1)
   split
   ·omega
   ·rw[zC];omega
 obtain⟨X,Y,y,H,a2,rfl⟩:=fP (g:=mgN 2) (b:=qR)
  (λk ρ T=>T=O/\∃(a2:Option D),ρ=[some R,some (.lst ((bg 0 (row.take k)).map λc=>dS (c,szf row c))),a2]) (eE 0 row.length) 0 [some R,some (.lst []),none] O
  ⟨rfl,none,rfl⟩ (by
   rintro i d ρ T hi ⟨hO',a2,rfl⟩;obtain⟨a,rfl⟩:=jY hi;rw[zy];rw[hO'];have h:row[i]?=some row[i]:=zj a;have Q:row.take (i+1)=row.take i++[row[i]]:=List.take_succ_eq_append_getElem a
   have F:(row.take i).length=i:=by rw[List.length_take];omega
   generalize row[i]=E at h Q
   have G:=m 0 (row.take i);rw[Q,Ds,F,zy,Dt]
   generalize hL:bg 0 (row.take i)=L at G
   have J:aa 0 [some R,some (.lst (L.map λc=>dS (c,szf row c))),some (.int (i:Int))] O=.ok (.lst (row.map dC)) O:=by rw[B];rfl
   have P:aH (ak gNe (ug 2) (mC (.str []))) [some R,some (.lst (L.map λc=>dS (c,szf row c))),some (.int (i:Int))] O=.ok (!decide (E.1=[])) O:=fJ (bc (wV (row:=row) (k:=i) (c:=E) J rfl h) rfl yR)
   by_cases u:E.1=[]
   ·rw[if_pos u,zT]
    have z:qR [some R,some (.lst (L.map λc=>dS (c,szf row c))),some (.int (i:Int))] O=.nx [some R,some (.lst (L.map λc=>dS (c,szf row c))),some (.int (i:Int))] O:=by
     unfold qR;rw[bN (by rw[P,zn u];rfl)];rfl
    exact⟨_,rfl,_,_,.inl z,rfl,some (.int (i:Int)),rfl⟩
   ·rw[if_neg u];have U:=ZC (i:=2) (ρ:=[some R,some (.lst (L.map λc=>dS (c,szf row c))),some (.int (i:Int))]) (O:=O) (row:=row) (k:=i) J rfl a
    have z:qR [some R,some (.lst (L.map λc=>dS (c,szf row c))),some (.int (i:Int))] O=.nx [some R,some (.lst ((L++[i]).map λc=>dS (c,szf row c))),some (.int (i:Int))] O:=by
     unfold qR;rw[dG (by rw[P,zf u];rfl),zG];exact m6 (jV (maS (x:=.int (i:Int)) rfl (ma1 U)) (show(2:Nat)<=1000000 by decide)) rfl (by rw[zd];omega)
    exact⟨_,rfl,_,_,.inl z,rfl,some (.int (i:Int)),rfl⟩)
 rw[H] at y;rw[mR,zy,List.take_of_length_le (zc _)] at y
 have I:(bg 0 row).map (λc=>dS (c,szf row c))=(sps 0 bs).map dS:=by
  rw[f,Du 0 bs j,zX]
  refine jl λp W=>?_
  have:=Lj [] bs j p W
  rw[zM] at this;show dS (p.1,szf bs.flatten p.1)=dS p;rw[this]
 rw[I] at y;rw[<-B];show bI (aB (aF 1 (bF aq)) (aB (bO (dq (aj (aL aU (aj (aa 0) aq)) aq)) (mgN 2) qR) (aZ (aa 1))) [some R,none,none] O)=_;rw[bh,show aF 1 (bF aq) [some R,none,none] O=.nx [some R,some (.lst []),none] O from rfl,bj,bh,fM,jE (n:=row.length) (oU (r:=row) (by rw[B];rfl)) (by omega),fO,y,bj];rfl
def g01:MG:=dM 2 (bC (mgN 0) (bC (mgN 1) dU))
def t01:L2.M Bool:=aH (ak gNe (ak gIx (aa 1) (mC (.int 0))) (mC (.str [])))
theorem Ln(k:Nat)(c:C)(O:au):t01 [some (.int (k:Int)),some (dC c)] O=.ok (!decide (c.1=[])) O:=fJ (bc (bc (x:=dC c) (y:=.int 0) rfl rfl rfl) rfl yR)
theorem Dv(O:au):∀(r:Row) (k:Nat) (a a1:Option D) (acc:List D),cT g01 t01 (aa 0) (fX k (r.map dC)) [a,a1] O acc=.ok (acc++(bg k r).map λc:Nat=>D.int (c:Int)) O
 | [],k,a,a1,acc=>by
  show Res.ok acc O=_;rw[show bg k []=[] from rfl,zQ,zT]
 |c::r,k,a,a1,acc=>by
  show cT g01 t01 (aa 0) (.tup [.int k,dC c]::fX (k+1) (r.map dC)) [a,a1] O acc=_;unfold cT;rw[show g01 (.tup [.int k,dC c]) [a,a1]=some [some (.int (k:Int)),some (dC c)] from rfl];dsimp only;rw[Ln];show _=Res.ok (acc++(if c.1=[] then bg (k+1) r else k::bg (k+1) r).map λc:Nat=>D.int (c:Int)) O
  by_cases h:c.1=[]
  ·rw[zn h,if_pos h];exact Dv O r (k+1) _ _ acc
  ·rw[zf h,if_neg h];show(match aa 0 [some (.int (k:Int)),some (dC c)] O with | .ok y O2=>cT g01 t01 (aa 0) (fX (k+1) (r.map dC)) [some (.int (k:Int)),some (dC c)] O2 (acc++[y]) | .ex x O'=>.ex x O' | .no=>.no)=_;rw[show aa 0 [some (.int (k:Int)),some (dC c)] O=.ok (.int (k:Int)) O from rfl];dsimp only;refine(Dv O r (k+1) _ _ (acc++[D.int (k:Int)])).trans ?_;rw[zP];rfl
theorem Lp(O:au)(n:Nat)(row:Row)(f:O[n]?=some (.ml (row.map dC))):∀(pre r:Row),row=pre++r->∀(b a1:Option D) (acc:List D),jB n (row.map dC) g01 t01 (aa 0) (r.map dC) [b,a1] O acc=.ok (acc++(bg pre.length r).map λc:Nat=>D.int (c:Int)) O
 |pre,[],hr,b,a1,acc=>by
  rw[zQ];unfold jB;rw[f];dsimp only;rw[if_pos rfl,show bg pre.length []=[] from rfl,zQ,zT]
 |pre,c::r,hr,b,a1,acc=>by
  have a:(row.map dC).length - ((r.map dC).length+1)=pre.length:=by rw[zd,zd,hr,zh,zC];omega
  have g:(row.map dC)[pre.length]?=some (dC c):=by rw[zq,hr,zE (zc _),Nat.sub_self];rfl
  have d:=Lp O n row f (pre++[c]) r (by rw[hr,zP];rfl);rw[zh,je] at d;rw[zl];unfold jB;rw[f];dsimp only;rw[a,g];dsimp only;rw[show g01 (.tup [.int (pre.length:Int),dC c]) [b,a1]=some [some (.int (pre.length:Int)),some (dC c)] from rfl];dsimp only;rw[Ln];show _=Res.ok (acc++(if c.1=[] then bg (pre.length+1) r else pre.length::bg (pre.length+1) r).map λc:Nat=>D.int (c:Int)) O
  by_cases h:c.1=[]
  ·rw[zn h,if_pos h];exact d _ _ acc
  ·rw[zf h,if_neg h];show(match aa 0 [some (.int (pre.length:Int)),some (dC c)] O with | .ok y O2=>jB n (row.map dC) g01 t01 (aa 0) (r.map dC) [some (.int (pre.length:Int)),some (dC c)] O2 (acc++[y]) | .ex x O'=>.ex x O' | .no=>.no)=_;rw[show aa 0 [some (.int (pre.length:Int)),some (dC c)] O=.ok (.int (pre.length:Int)) O from rfl];dsimp only;refine(d _ _ (acc++[D.int (pre.length:Int)])).trans ?_;rw[zP];rfl
def dZ(p:Nat×Nat):D:=.tup [.int (p.1:Int),.int ((p.1+p.2:Nat):Int)]
theorem Lq:∀(k:Nat) (bs:List Row),eO ((sps k bs).map λp=>D.int (p.1:Int)) (((sps k bs).map λp=>D.int (p.1:Int)).drop 1++[.int ((k+bs.flatten.length:Nat):Int)])=(sps k bs).map dZ
 |k,[]=>rfl
 |k,[b]=>by
  show[D.tup [.int (k:Int),.int ((k + [b].flatten.length:Nat):Int)]]=[dZ (k,b.length)];rw[List.flatten_singleton];rfl
 |k,b::a::bs=>by
  have c:=Lq (k+b.length) (a::bs)
  have d:k+(b::a::bs).flatten.length=k+b.length+(a::bs).flatten.length:=by rw[List.flatten_cons,zh];omega
  rw[d];show D.tup [.int (k:Int),.int ((k+b.length:Nat):Int)]::eO ((sps (k+b.length) (a::bs)).map λp=>D.int (p.1:Int)) (((sps (k+b.length) (a::bs)).map λp=>D.int (p.1:Int)).drop 1++[.int ((k+b.length+(a::bs).flatten.length:Nat):Int)])=_;rw[c];rfl
theorem Lr(bs:List Row)(h:∀b∈bs,Bl b)(a:bs.flatten.length<=100)(O:au)(d:D)(hd:d=.lst (bs.flatten.map dC)\/∃n,d=.ob n/\O[n]?=some (.ml (bs.flatten.map dC))):qC [d] O=.ok (.lst ((sps 0 bs).map dZ)) O:=by
 have u:bw O d=.lst (bs.flatten.map dC):=by
  rcases hd with rfl | ⟨n,rfl,g⟩
  ·rfl
  ·exact lE g
 have i:(bg 0 bs.flatten).map (λc:Nat=>D.int (c:Int))=(sps 0 bs).map λp=>D.int (p.1:Int):=by
  rw[Du 0 bs h,zX];rfl
 have j:mF (aa 0) 2 [] g01 t01 (aa 0) [some d,none] O=.ok (.lst ((sps 0 bs).map λp=>D.int (p.1:Int))) O:=by
  rw[<-i]
  rcases hd with rfl | ⟨n,rfl,g⟩
  ·show dB (pR (aa 0)) 2 [] g01 t01 (aa 0) [some (.lst (bs.flatten.map dC)),none] O=_;have q:=jX (m:=pR (aa 0)) (own:=2) (cap:=[]) (ρ:=[some (.lst (bs.flatten.map dC)),none]) (O:=O) (ds:=fX 0 (bs.flatten.map dC)) rfl (by rw[pP,zd];omega) (ρ0:=[none,none]) rfl (Dv O bs.flatten 0 none none []);rw[q,zM]
  ·unfold mF;rw[show aa 0 [some (D.ob n),none] O=.ok (.ob n) O from rfl];dsimp only;rw[g];dsimp only;rw[if_pos (by rw[zd];omega),show ju 2 [] [some (D.ob n),none]=[none,none] from rfl,Lp O n bs.flatten g [] bs.flatten rfl none none [],aV,zM];rfl
 generalize hB:(sps 0 bs).map (λp=>D.int (p.1:Int))=L at j
 have F:L.length<=100:=by
  rw[<-hB,<-i,zd]
  have f:∀(k:Nat) (r:Row),(bg k r).length<=r.length:=λk r=>by
   induction r generalizing k with
   |nil=>exact zc _
   |cons c r ih =>
    show(if c.1=[] then bg (k+1) r else k::bg (k+1) r).length<=r.length+1
    have:=ih (k+1)
    split
    ·omega
    ·rw[zC];omega
  exact zH (f 0 bs.flatten) a
 have l:aF 1 (mF (aa 0) 2 [] g01 t01 (aa 0)) [some d,none] O=.nx [some d,some (.lst L)] O:=bV j
 have E:mSl (aa 1) (moS (mC (.int 1))) moN [some d,some (.lst L)] O=.ok (.lst (L.drop 1)) O:=by
  rw[vA];show ofO (gSl (.lst L) (some 1) none) O=_;rw[vB,show(some (1:Int))=some ((1:Nat):Int) from rfl,Zd,n8]
 have ln:aL aU (aj (aa 0) aq) [some d,some (.lst L)] O=.ok (.int (bs.flatten.length:Int)) O:=gJ (xs:=[d]) rfl (by
  rw[zl,zQ,u];show some (D.int ((bs.flatten.map dC).length:Int))=_
  rw[zd])
 have B:ak aN (mSl (aa 1) (moS (mC (.int 1))) moN) (bF (aj (aL aU (aj (aa 0) aq)) aq)) [some d,some (.lst L)] O=.ok (.lst (L.drop 1++[.int (bs.flatten.length:Int)])) O :=
  bc E (lD (ma1 ln) (show(1:Nat)<=1000000 by decide)) (by rw[kO,kO,Jh,if_pos (by rw[List.length_drop,je];omega)])
 have z:=Lq 0 bs;rw[hB,zy] at z;have y:aL gLZ (aj (aa 1) (aj (ak aN (mSl (aa 1) (moS (mC (.int 1))) moN) (bF (aj (aL aU (aj (aa 0) aq)) aq))) aq)) [some d,some (.lst L)] O=.ok (.lst ((sps 0 bs).map dZ)) O :=
  gJ (maS (x:=.lst L) rfl (ma1 B)) (by
   rw[zl,zl,zQ,kO,kO];show some (D.lst (eO L (L.drop 1++[.int (bs.flatten.length:Int)])))=_
   rw[z])
 show bI (v8 [some d,none] O)=_;unfold v8;show bI (aB (aF 1 (mF (aa 0) 2 [] g01 t01 (aa 0))) (aZ _) [some d,none] O)=_;rw[bh,l,bj,m7 y];rfl
theorem Ls{b:List Str}{f c:Str}{mo a:L2.M D}{ρ:aA}{O O1:au}{n:Nat}{d:D}{fs:List (Str×D)}(hv:a ρ O=.ok d O1)(g:mo ρ O1=.ok (.ob n) O1)(j:O1[n]?=some (.ins c fs))(i:c∈b)(h:fs.length<900):
  kE b f mo a ρ O=.nx ρ (O1.set n (.ins c (putD f d fs))):=by
 rw[XM,hv,XN,g];unfold puF;dsimp only;rw[j];dsimp only;rw[if_pos ⟨i,h⟩]
theorem Dw{a:List Str}{f c:Str}{m:L2.M D}{ρ:aA}{O:au}{n:Nat}{y:D}{fs:List (Str×D)}(d:m ρ O=.ok (.ob n) O)(h:O[n]?=some (.ins c fs))(g:c∈a)(b:fs.lookup f=some y):
  fH a f m ρ O=.ok y O:=by
 rw[XJ,d,aV];unfold Js;dsimp only;rw[h];dsimp only;rw[if_pos g,b]
theorem oV{c m:Str}{a:List D->au->Res D}{mo:L2.M D}{ma:L2.M (List D)}{ρ:aA}{O:au}{n:Nat}{ds:List D}{fs:List (Str×D)}(b:mo ρ O=.ok (.ob n) O)(g:O[n]?=some (.ins c fs))(d:(fs.lookup m).isNone=true)(f:ma ρ O=.ok ds O):
  du c m a mo ma ρ O=a (.ob n::ds) O:=by
 rw[XQ,b,aV];unfold meF;dsimp only;rw[g];dsimp only;rw[if_pos ⟨rfl,d⟩,f,aV]
theorem oW{O:au}{o:Ob}:(O++[o])[O.length]?=some o:=by
 rw[zE (zc _),Nat.sub_self];rfl
theorem Lx{O:au}{o a:Ob}:(O++[o]).set O.length a=O++[a]:=by
 rw[List.set_append_right _ _ (zc _),Nat.sub_self];rfl
def seg(r:Row)(p:Nat×Nat):Row:=(r.drop p.1).take p.2
def alk(r q:Row)(p:Nat×Nat):Bool:=gh (dRw (seg r p)) (dRw (seg q p))
theorem qT{r:Row}(h:ROk r):eX (dRw r)=true/\(toP (dRw r)).canLay0=true/\(toP (dRw r)).depth<=8/\okE (dRw r)=true:=by
 have q:okE (.lst (r.map dC))=true:=yS (n:=5) (by decide) λd hd=>by
  obtain⟨x,g,rfl⟩:=zL.mp hd;obtain⟨c,b,a⟩:=h x g;refine⟨rfl,?_,Nat.le_of_ble_eq_true rfl⟩;show((PyData.str (S x.1)).canLay0&&((PyData.str (S x.2.1)).canLay0&&((PyData.str (S x.2.2)).canLay0&&true)))=true;rw[yU c,yU b,yU a];rfl
 have f:=q;unfold okE at q;rw[zu] at q;refine⟨q.1,?_,?_,f⟩
 ·have:=q.2
  unfold okD at this;rw[zu] at this;exact this.1
 ·unfold dRw;rw[toP,vG];show PyData.depthAll _+1<=8
  have z:PyData.depthAll ((r.map dC).map toP)<=5:=uP λd hd=>by
   rw[zX] at hd;obtain⟨x,_,rfl⟩:=zL.mp hd;exact Nat.le_of_ble_eq_true rfl
  omega
theorem Ly{r q:Row}(a:ROk r)(b:ROk q)(p:Nat×Nat):gEq (dRw (seg r p)) (dRw (seg q p))=some (.bl (alk r q p)):=by
 unfold alk dRw;have h1:okE (.lst ((seg r p).map dC))=true:=(qT (r:=seg r p) (uf a)).2.2.2;have h2:okE (.lst ((seg q p).map dC))=true:=(qT (r:=seg q p) (uf b)).2.2.2;rw[Xx,h1,h2,Bool.and_self,if_pos rfl]
def Is(O:au)(d:D)(r:Row):Prop:=d=.lst (r.map dC)\/∃n,d=.ob n/\O[n]?=some (.ml (r.map dC))
theorem Is.de{O:au}{d:D}{r:Row}(h:Is O d r):bw O d=.lst (r.map dC):=by
 rcases h with rfl | ⟨n,rfl,a⟩
 ·rfl
 ·exact lE a
theorem Is.app{O:au}{d:D}{r:Row}(h:Is O d r)(o:Ob):Is (O++[o]) d r:=by
 rcases h with rfl | ⟨n,rfl,a⟩
 ·exact .inl rfl
 ·refine .inr ⟨n,rfl,?_⟩;rw[zx (zg.mp a).1,a]
def fs1(bs:List Row):List (Str×D):=[("stretches",.lst ((sps 0 bs).map dZ))]
def fs2(r:Row)(bs:List Row):List (Str×D):=[("stretches",.lst ((sps 0 bs).map dZ)),("alike",.lst ((sps 0 bs).map λp=>D.bl (alk r bs.flatten p)))]
theorem pf1(bs:List Row):putD "stretches" (.lst ((sps 0 bs).map dZ)) []=fs1 bs:=rfl
theorem pf2(r:Row)(bs:List Row):putD "alike" (.lst ((sps 0 bs).map λp=>D.bl (alk r bs.flatten p))) (fs1 bs)=fs2 r bs:=rfl
theorem lk1(bs:List Row):(fs1 bs).lookup ("stretches":Str)=some (.lst ((sps 0 bs).map dZ)):=rfl
theorem lk2(r:Row)(bs:List Row):(fs2 r bs).lookup ("stretches":Str)=some (.lst ((sps 0 bs).map dZ)):=rfl
theorem lk3(r:Row)(bs:List Row):(fs2 r bs).lookup ("alike":Str)=some (.lst ((sps 0 bs).map λp=>D.bl (alk r bs.flatten p))):=rfl
theorem iG:∀(k:Nat) (bs:List Row),(sps k bs).length=bs.length
 | _,[]=>rfl
 |k,b::bs=>congrArg (· + 1) (iG _ bs)
theorem um:∀{bs:List Row},(∀b∈bs,Bl b)->bs.length<=bs.flatten.length
 | [],_=>zc _
 |b::bs,h=>by
  rw[List.flatten_cons,zh,zC]
  have f:=um (bs:=bs) λx a=>h x (zv _ a)
  have g:1<=b.length:=by
   rcases h b zo with⟨c,rfl,_⟩ | ⟨c,d,rfl,_⟩
   ·exact zc _
   ·exact Nat.le_succ _
  omega
theorem slD{m a b:L2.M D}{ρ:aA}{O:au}{d:D}{row:Row}{p:Nat×Nat}(c:m ρ O=.ok d O)(hd:bw O d=.lst (row.map dC))(f:a ρ O=.ok (.int (p.1:Int)) O)(hb:b ρ O=.ok (.int ((p.1+p.2:Nat):Int)) O):mSl m (moS a) (moS b) ρ O=.ok (dRw (seg row p)) O:=by
 unfold dRw seg;rw[vA,c,aV,vz,f,aV,vq,aV,vz,hb,aV,vq,aV,hd,vB,K1,Nat.add_sub_cancel_left,n8,List.map_take,List.map_drop]
theorem Lz(O:au){r:Row}{bs:List Row}(f:∀b∈bs,Bl b)(E:bs.flatten.length<=100)(z:ROk r)(B:ROk bs.flatten){d e:D}(hd:Is O d r)(k:Is O e bs.flatten):
  mV [.ob O.length,d,e] (O++[.ins "Change" []])=.ok .non (O++[.ins "Change" (fs2 r bs)]):=by
 have i:=Lr bs f E (O++[.ins "Change" []]) e (k.app _)
 have y:kE ["Change"] "stretches" (aa 0) (aM qC (aj (aa 2) aq)) [some (.ob O.length),some d,some e] (O++[.ins "Change" []])=.nx [some (.ob O.length),some d,some e] (O++[.ins "Change" (fs1 bs)]):=by
  rw[Ls (d:=.lst ((sps 0 bs).map dZ)) (n:=O.length) (c:="Change") (fs:=[]) (by rw[cV (ma1 (x:=e) rfl),i]) rfl oW zo (by decide),Lx,pf1]
 have j:=(hd.app (.ins "Change" (fs1 bs))).de;have h:=(k.app (.ins "Change" (fs1 bs))).de;have F:fH ["Change"] "stretches" (aa 0) [some (.ob O.length),some d,some e] (O++[.ins "Change" (fs1 bs)])=.ok (.lst ((sps 0 bs).map dZ)) (O++[.ins "Change" (fs1 bs)]):=Dw (n:=O.length) (c:="Change") (fs:=fs1 bs) rfl oW zo (lk1 _)
 have l:=vL (g:=g01) (t:=eQ) (m:=ak gEq (mSl (aa 2) (moS (aa 0)) (moS (aa 1))) (mSl (aa 3) (moS (aa 0)) (moS (aa 1)))) (λρ=>∃a b,ρ=[a,b,some d,some e]) dZ (λp=>D.bl (alk r bs.flatten p)) (sps 0 bs) [none,none,some d,some e] (O++[.ins "Change" (fs1 bs)]) [] ⟨_,_,rfl⟩ (by
  rintro p hp ρ ⟨a,b,rfl⟩;refine⟨[some (.int (p.1:Int)),some (.int ((p.1+p.2:Nat):Int)),some d,some e],rfl,⟨_,_,rfl⟩,rfl,bc (slD (p:=p) (d:=d) rfl j rfl rfl) (slD (p:=p) (d:=e) rfl h rfl rfl) ?_⟩
  exact Ly z B p)
 rw[zM] at l
 have hlen:((sps 0 bs).map dZ).length<=1000000:=by
  rw[zd,iG]
  have:=um f
  omega
 have G:=jX (own:=2) (cap:=[1,2]) (g8 F) hlen (ρ0:=[none,none,some d,some e]) rfl l
 have u:kE ["Change"] "alike" (aa 0) (dB (cA (fH ["Change"] "stretches" (aa 0))) 2 [1,2] g01 eQ (ak gEq (mSl (aa 2) (moS (aa 0)) (moS (aa 1))) (mSl (aa 3) (moS (aa 0)) (moS (aa 1))))) [some (.ob O.length),some d,some e] (O++[.ins "Change" (fs1 bs)])=.nx [some (.ob O.length),some d,some e] (O++[.ins "Change" (fs2 r bs)]):=by
  rw[Ls (n:=O.length) (c:="Change") (fs:=fs1 bs) G rfl oW zo (show(1:Nat)<900 by decide),Lx,pf2]
 show bI (wg [some (.ob O.length),some d,some e] (O++[.ins "Change" []]))=_;unfold wg;rw[bh,y,bj];exact congrArg bI u
def dN(k s:Nat):D:=.tup [.int (k:Int),.int (s:Int)]
def mvP(k:Nat):D:=.tup [.int 0,.str [112,97,115,115],dN (k+1) 0]
def mvW(k s:Nat)(p:Nat×Nat):D:=if s=0 then .tup [.int (4+(p.2:Int)),.str [98,101,103,105,110],dN (k+1) 1] else .tup [.int (p.2:Int),.str [111,110],dN (k+1) 1]
def mvL(r q:Row)(k:Nat)(p:Nat×Nat):List D:=if alk r q p=true then[mvP k] else[]
def mvs(r:Row)(bs:List Row)(k s:Nat):List D:=match(sps 0 bs)[k]? with
 |none=>[]
 |some p=>mvL r bs.flatten k p++[mvW k s p]
theorem ZG(r q:Row)(k:Nat)(p:Nat×Nat):(mvL r q k p).length<=1:=by
 unfold mvL
 split
 ·exact zc _
 ·exact Nat.zero_le _
structure Tr(O:au)(n:Nat)(r:Row)(bs:List Row):Prop where
 ob:O[n]?=some (.ins "Change" (fs2 r bs))
 bl:∀b∈bs,Bl b
 le:bs.flatten.length<=100
 r:ROk r
 q:ROk bs.flatten
section
variable {O:au}{n:Nat}{r:Row}{bs:List Row}
theorem Dy(T:Tr O n r bs){ρ:aA}(h:aa 0 ρ O=.ok (.ob n) O):fH ["Change"] "stretches" (aa 0) ρ O=.ok (.lst ((sps 0 bs).map dZ)) O:=Dw (n:=n) h T.ob zo (lk2 _ _)
theorem ZJ(T:Tr O n r bs){ρ:aA}(h:aa 0 ρ O=.ok (.ob n) O):fH ["Change"] "alike" (aa 0) ρ O=.ok (.lst ((sps 0 bs).map λp=>D.bl (alk r bs.flatten p))) O:=Dw (n:=n) h T.ob zo (lk3 _ _)
theorem Dz(T:Tr O n r bs){ρ:aA}(h:aa 0 ρ O=.ok (.ob n) O):aL aU (aj (fH ["Change"] "stretches" (aa 0)) aq) ρ O=.ok (.int (bs.length:Int)) O:=by
 have:=qK (Dy T h)
 rwa [zd,iG] at this
theorem ZK:tO [.ob n] O=.ok (dN 0 0) O:=rfl
theorem ZL(k:Nat):qj [.ob n,.int (k:Int)] O=.ok (.lst [dN k 0,dN k 1]) O:=rfl
theorem ZM(T:Tr O n r bs):tK [.ob n] O=.ok (.int (bs.length:Int)) O:=by
 show bI (vU [some (.ob n)] O)=_;unfold vU;rw[m7 (Dz T rfl)];rfl
theorem ZP(T:Tr O n r bs)(k s:Nat):jQ [.ob n,dN k s] O=.ok (.bl (decide ((k:Int)=(bs.length:Int)))) O:=by
 show bI (vQ [some (.ob n),some (dN k s)] O)=_;unfold vQ;rw[m7 (bc (x:=.int (k:Int)) (bc (x:=dN k s) (y:=.int 0) rfl rfl rfl) (Dz T rfl) yP)];rfl
theorem ZQ(T:Tr O n r bs)(k s:Nat)(H:k<=bs.length):jP [.ob n,dN k s] O=.ok (.lst (mvs r bs k s)) O:=by
 have E:aF 2 (ak gIx (aa 1) (mC (.int 0))) [some (.ob n),some (dN k s),none,none,none] O=.nx [some (.ob n),some (dN k s),some (.int (k:Int)),none,none] O:=bV (bc (x:=dN k s) (y:=.int 0) rfl rfl rfl);have u:aH (ak gEq (aa 2) (aL aU (aj (fH ["Change"] "stretches" (aa 0)) aq))) [some (.ob n),some (dN k s),some (.int (k:Int)),none,none] O=.ok (decide ((k:Int)=(bs.length:Int))) O:=jW rfl (Dz T rfl);show bI (vP [some (.ob n),some (dN k s),none,none,none] O)=_;unfold vP;rw[bh,E,bj,bh]
 by_cases b:k=bs.length
 ·rw[dG (by rw[u,zn (by omega)])]
  have:mvs r bs k s=[]:=by
   unfold mvs;rw[zV (by rw[iG];omega)]
  rw[this];rfl
 ·have g:k<(sps 0 bs).length:=by rw[iG];omega
  have a:=zj g
  generalize (sps 0 bs)[k]=p at a
  have f:mvs r bs k s=mvL r bs.flatten k p++[mvW k s p]:=by
   unfold mvs;rw[a]
  rw[f,bN (by rw[u,zf (by omega)]),fY,bj,bh,show aF 3 (bF aq) [some (.ob n),some (dN k s),some (.int (k:Int)),none,none] O=.nx [some (.ob n),some (dN k s),some (.int (k:Int)),some (.lst []),none] O from rfl,bj,bh];have l:bK (ak gIx (fH ["Change"] "alike" (aa 0)) (aa 2)) [some (.ob n),some (dN k s),some (.int (k:Int)),some (.lst []),none] O=.ok (alk r bs.flatten p) O:=ud (bc (ZJ T rfl) (y:=.int (k:Int)) rfl (iW (by rw[zq,a];rfl)))
  have F:aY (bK (ak gIx (fH ["Change"] "alike" (aa 0)) (aa 2))) (cM 3 (bA (aj (mC (.int 0)) (aj (mC (.str [112,97,115,115])) (aj (bA (aj (ak aN (aa 2) (mC (.int 1))) (aj (mC (.int 0)) aq))) aq))))) bx [some (.ob n),some (dN k s),some (.int (k:Int)),some (.lst []),none] O=.nx [some (.ob n),some (dN k s),some (.int (k:Int)),some (.lst (mvL r bs.flatten k p)),none] O:=by
   unfold mvL
   cases hb:alk r bs.flatten p with
   |false =>
    rw[bN (by rw[l,hb])];rfl
   |true =>
    rw[dG (by rw[l,hb])];rfl
  rw[F,bj,bh];have G:=ZG r bs.flatten k p
  generalize mvL r bs.flatten k p=L at G
  have b:gIx (.lst ((sps 0 bs).map dZ)) (.int (k:Int))=some (dZ p):=iW (by rw[zq,a];rfl)
  have B:aF 4 (ak jL (ak gIx (ak gIx (fH ["Change"] "stretches" (aa 0)) (aa 2)) (mC (.int 1))) (ak gIx (ak gIx (fH ["Change"] "stretches" (aa 0)) (aa 2)) (mC (.int 0)))) [some (.ob n),some (dN k s),some (.int (k:Int)),some (.lst L),none] O=.nx [some (.ob n),some (dN k s),some (.int (k:Int)),some (.lst L),some (.int (p.2:Int))] O:=by
   rw[show(p.2:Int)=((p.1+p.2:Nat):Int) - (p.1:Int) by omega];exact bV (Dm (bc (y:=.int 1) (bc (y:=.int (k:Int)) (Dy T rfl) rfl b) rfl rfl) (bc (y:=.int 0) (bc (y:=.int (k:Int)) (Dy T rfl) rfl b) rfl rfl))
  rw[B,bj,bh];have j:aH (ak gEq (ak gIx (aa 1) (mC (.int 1))) (mC (.int 0))) [some (.ob n),some (dN k s),some (.int (k:Int)),some (.lst L),some (.int (p.2:Int))] O=.ok (decide ((s:Int)=0)) O:=jW (bc (x:=dN k s) (y:=.int 1) rfl rfl rfl) rfl
  have nd:∀ρ:aA,aa 2 ρ O=.ok (.int (k:Int)) O->bA (aj (ak aN (aa 2) (mC (.int 1))) (aj (mC (.int 1)) aq)) ρ O=.ok (dN (k+1) 1) O:=λρ h=>jV (xs:=[.int ((k+1:Nat):Int),.int 1]) (maS (by rw[jc];exact dW h rfl) (ma1 (x:=.int 1) rfl)) (show(2:Nat)<=1000000 by decide)
  by_cases z:s=0
  ·rw[dG (by rw[j,zn (by omega)])]
   have c:=m6 (i:=3) (m:=bA (aj (ak aN (mC (.int 4)) (aa 4)) (aj (mC (.str [98,101,103,105,110])) (aj (bA (aj (ak aN (aa 2) (mC (.int 1))) (aj (mC (.int 1)) aq))) aq)))) (ρ:=[some (.ob n),some (dN k s),some (.int (k:Int)),some (.lst L),some (.int (p.2:Int))]) (O:=O) (d:=mvW k s p) (ds:=L) (by
    unfold mvW;rw[if_pos z]
    exact jV (maS (dW rfl rfl) (maS (x:=.str [98,101,103,105,110]) rfl (ma1 (nd _ rfl)))) (show(3:Nat)<=1000000 by decide)) rfl (by omega)
   rw[c,bj];rfl
  ·rw[bN (by rw[j,zf (by omega)])]
   have c:=m6 (i:=3) (m:=bA (aj (aa 4) (aj (mC (.str [111,110])) (aj (bA (aj (ak aN (aa 2) (mC (.int 1))) (aj (mC (.int 1)) aq))) aq)))) (ρ:=[some (.ob n),some (dN k s),some (.int (k:Int)),some (.lst L),some (.int (p.2:Int))]) (O:=O) (d:=mvW k s p) (ds:=L) (by
    unfold mvW;rw[if_neg z]
    exact jV (maS (x:=.int (p.2:Int)) rfl (maS (x:=.str [111,110]) rfl (ma1 (nd _ rfl)))) (show(3:Nat)<=1000000 by decide)) rfl (by omega)
   rw[c,bj];rfl
end
theorem ks2:∃f,W.kas_sort 2=W.KasT.ask 1 0 f/\f true=W.KasT.ret #[1,0]/\f false=W.KasT.ret #[0,1]:=⟨_,rfl,rfl,rfl⟩
theorem ZR{i j:Int}{xs a:List D}{b:Bool}(h:ltD (.int j::a) (.int i::xs)=some b):nZ [.lst [.tup (.int i::xs),.tup (.int j::a)]]=some (.lst (if b=true then[.tup (.int j::a),.tup (.int i::xs)] else[.tup (.int i::xs),.tup (.int j::a)])):=by
 obtain⟨f,k,g,d⟩:=ks2;have c:vg [.tup (.int i::xs),.tup (.int j::a)] 1 0=some b:=h;unfold nZ;dsimp only;rw[if_neg (show ¬ [D.tup (.int i::xs),.tup (.int j::a)].length<2 from zN 2),if_pos ⟨show[D.tup (.int i::xs),.tup (.int j::a)].length<64 from(by decide:(2:Nat)<64),rfl⟩,show[D.tup (.int i::xs),.tup (.int j::a)].length=2 from rfl,k];unfold pZ;rw[c];dsimp only
 cases b with
 |true=>rw[g];rfl
 |false=>rw[d];rfl
theorem ZV{k s:Nat}{p:Nat×Nat}(a:1<=p.2):∃(i:Int) (xs:List D),0<i/\mvW k s p=.tup (.int i::xs):=by
 unfold mvW
 split
 ·exact⟨_,_,by omega,rfl⟩
 ·exact⟨_,_,by omega,rfl⟩
theorem ZW(d:D):nZ [.lst [d]]=some (.lst [d]):=rfl
theorem ZX{r q:Row}{k s:Nat}{p:Nat×Nat}(a:1<=p.2):nZ [.lst ([mvW k s p]++mvL r q k p)]=some (.lst (mvL r q k p++[mvW k s p])):=by
 unfold mvL
 split
 ·obtain⟨i,c,hi,e⟩:=ZV (k:=k) (s:=s) a;rw[e];exact ZR (b:=true) (by unfold ltD;rw[if_neg (by omega),zn hi])
 ·exact ZW _
theorem LC:∀{k:Nat}{bs:List Row},(∀b∈bs,Bl b)->∀p∈sps k bs,1<=p.2
 |k,[],_,p,a=>nomatch a
 |k,b::bs,h,p,a=>by
  rcases zm.mp a with rfl | a
  ·rcases h b zo with⟨c,rfl,_⟩ | ⟨c,d,rfl,_⟩
   ·exact zc _
   ·exact Nat.le_succ _
  ·exact LC (λx f=>h x (zv _ f)) p a
theorem ZZ{r:Row}{bs:List Row}(u:∀b∈bs,Bl b)(Z:ROk r)(hq:ROk bs.flatten)(k s:Nat)(hk:k<=bs.length)(O:au):oM [dRw r,dRw bs.flatten,.lst ((sps 0 bs).map dS),dN k s] O=.ok (.lst (mvs r bs k s)) O:=by
 obtain⟨R,I⟩:∃R,R=dRw r:=⟨_,rfl⟩;obtain⟨Q,J⟩:∃Q,Q=dRw bs.flatten:=⟨_,rfl⟩;obtain⟨SP,g⟩:∃SP,SP=D.lst ((sps 0 bs).map dS):=⟨_,rfl⟩;rw[<-I,<-J,<-g]
 have T:iw (mG (aa 3)) (dM 2 (bC (mgN 4) (bC (mgN 5) dU))) [some R,some Q,some SP,some (dN k s),none,none,none,none,none] O=.nx [some R,some Q,some SP,some (dN k s),some (.int (k:Int)),some (.int (s:Int)),none,none,none] O:=by
  rw[vI,show mG (aa 3) [some R,some Q,some SP,some (dN k s),none,none,none,none,none] O=.ok (dN k s) O from rfl];unfold dN;rw[vJ vK];rfl
 have H:=qK (m:=aa 2) (ρ:=[some R,some Q,some SP,some (dN k s),some (.int (k:Int)),some (.int (s:Int)),none,none,none]) (O:=O) (l:=(sps 0 bs).map dS) (by rw[g];rfl);rw[zd,iG] at H;have F:aH (ak gEq (aa 4) (aL aU (aj (aa 2) aq))) [some R,some Q,some SP,some (dN k s),some (.int (k:Int)),some (.int (s:Int)),none,none,none] O=.ok (decide ((k:Int)=(bs.length:Int))) O:=jW rfl H;show bI (wI [some R,some Q,some SP,some (dN k s),none,none,none,none,none] O)=_;unfold wI;rw[bh,T,bj,bh]
 by_cases hz:k=bs.length
 ·rw[dG (by rw[F,zn (by omega)])]
  have:mvs r bs k s=[]:=by
   unfold mvs;rw[zV (by rw[iG];omega)]
  rw[this];rfl
 ·have c:k<(sps 0 bs).length:=by rw[iG];omega
  have f:=zj c;have a:=zW c
  generalize (sps 0 bs)[k]=p at f a
  have i:=LC u p a
  have n:mvs r bs k s=mvL r bs.flatten k p++[mvW k s p]:=by
   unfold mvs;rw[f]
  rw[n,bN (by rw[F,zf (by omega)]),fY,bj,bh]
  have P:iw (ak gIx (aa 2) (aa 4)) (dM 2 (bC (mgN 6) (bC (mgN 7) dU))) [some R,some Q,some SP,some (dN k s),some (.int (k:Int)),some (.int (s:Int)),none,none,none] O=.nx [some R,some Q,some SP,some (dN k s),some (.int (k:Int)),some (.int (s:Int)),some (.int (p.1:Int)),some (.int (p.2:Int)),none] O:=by
   have b1:ak gIx (aa 2) (aa 4) [some R,some Q,some SP,some (dN k s),some (.int (k:Int)),some (.int (s:Int)),none,none,none] O=.ok (dS p) O:=bc (x:=SP) (y:=.int (k:Int)) rfl rfl (by rw[g];exact iW (by rw[zq,f];rfl));rw[vI,b1];unfold dS;rw[vJ vK];rfl
  rw[P,bj,bh]
  have nd:∀{ρ:aA}{j:Nat},aa 4 ρ O=.ok (.int (k:Int)) O->bA (aj (ak aN (aa 4) (mC (.int 1))) (aj (mC (.int (j:Int))) aq)) ρ O=.ok (dN (k+1) j) O:=λ{ρ j} h=>jV (xs:=[.int ((k+1:Nat):Int),.int (j:Int)]) (maS (by rw[jc];exact dW h rfl) (ma1 (x:=.int (j:Int)) rfl)) (show(2:Nat)<=1000000 by decide)
  have U:aF 8 (bF (aj (bA (aj (aa 7) (aj (mC (.str [111,110])) (aj (bA (aj (ak aN (aa 4) (mC (.int 1))) (aj (mC (.int 1)) aq))) aq)))) aq)) [some R,some Q,some SP,some (dN k s),some (.int (k:Int)),some (.int (s:Int)),some (.int (p.1:Int)),some (.int (p.2:Int)),none] O=.nx [some R,some Q,some SP,some (dN k s),some (.int (k:Int)),some (.int (s:Int)),some (.int (p.1:Int)),some (.int (p.2:Int)),some (.lst [.tup [.int (p.2:Int),.str [111,110],dN (k+1) 1]])] O :=
   bV (lD (ma1 (jV (maS (x:=.int (p.2:Int)) rfl (maS (x:=.str [111,110]) rfl (ma1 (nd (j:=1) rfl)))) (show(3:Nat)<=1000000 by decide))) (show(1:Nat)<=1000000 by decide))
  rw[U,bj,bh];have E:aH (ak gEq (aa 5) (mC (.int 0))) [some R,some Q,some SP,some (dN k s),some (.int (k:Int)),some (.int (s:Int)),some (.int (p.1:Int)),some (.int (p.2:Int)),some (.lst [.tup [.int (p.2:Int),.str [111,110],dN (k+1) 1]])] O=.ok (decide ((s:Int)=0)) O:=jW rfl rfl
  have Y:aY (aH (ak gEq (aa 5) (mC (.int 0)))) (aF 8 (bF (aj (bA (aj (ak aN (mC (.int 4)) (aa 7)) (aj (mC (.str [98,101,103,105,110])) (aj (bA (aj (ak aN (aa 4) (mC (.int 1))) (aj (mC (.int 1)) aq))) aq)))) aq))) bx [some R,some Q,some SP,some (dN k s),some (.int (k:Int)),some (.int (s:Int)),some (.int (p.1:Int)),some (.int (p.2:Int)),some (.lst [.tup [.int (p.2:Int),.str [111,110],dN (k+1) 1]])] O=.nx [some R,some Q,some SP,some (dN k s),some (.int (k:Int)),some (.int (s:Int)),some (.int (p.1:Int)),some (.int (p.2:Int)),some (.lst [mvW k s p])] O:=by
   unfold mvW
   by_cases G:s=0
   ·rw[dG (by rw[E,zn (by omega)]),if_pos G];exact bV (lD (ma1 (jV (maS (dW rfl rfl) (maS (x:=.str [98,101,103,105,110]) rfl (ma1 (nd (j:=1) rfl)))) (show(3:Nat)<=1000000 by decide))) (show(1:Nat)<=1000000 by decide))
   ·rw[bN (by rw[E,zf (by omega)]),if_neg G];rfl
  rw[Y,bj,bh]
  generalize hW:mvW k s p=W
  have L:ak aN (aa 6) (aa 7) [some R,some Q,some SP,some (dN k s),some (.int (k:Int)),some (.int (s:Int)),some (.int (p.1:Int)),some (.int (p.2:Int)),some (.lst [W])] O=.ok (.int ((p.1+p.2:Nat):Int)) O:=by
   rw[jc];exact dW rfl rfl
  have B:aH (ak gEq (mSl (aa 0) (moS (aa 6)) (moS (ak aN (aa 6) (aa 7)))) (mSl (aa 1) (moS (aa 6)) (moS (ak aN (aa 6) (aa 7))))) [some R,some Q,some SP,some (dN k s),some (.int (k:Int)),some (.int (s:Int)),some (.int (p.1:Int)),some (.int (p.2:Int)),some (.lst [W])] O=.ok (alk r bs.flatten p) O :=
   fJ (bc (slD (p:=p) (d:=R) (row:=r) rfl (by rw[I];rfl) rfl L) (slD (p:=p) (d:=Q) (row:=bs.flatten) rfl (by rw[J];rfl) rfl L) (Ly Z hq p))
  have X:aY (aH (ak gEq (mSl (aa 0) (moS (aa 6)) (moS (ak aN (aa 6) (aa 7)))) (mSl (aa 1) (moS (aa 6)) (moS (ak aN (aa 6) (aa 7)))))) (cM 8 (bA (aj (mC (.int 0)) (aj (mC (.str [112,97,115,115])) (aj (bA (aj (ak aN (aa 4) (mC (.int 1))) (aj (mC (.int 0)) aq))) aq))))) bx [some R,some Q,some SP,some (dN k s),some (.int (k:Int)),some (.int (s:Int)),some (.int (p.1:Int)),some (.int (p.2:Int)),some (.lst [W])] O=.nx [some R,some Q,some SP,some (dN k s),some (.int (k:Int)),some (.int (s:Int)),some (.int (p.1:Int)),some (.int (p.2:Int)),some (.lst ([W]++mvL r bs.flatten k p))] O:=by
   unfold mvL
   cases hb:alk r bs.flatten p with
   |false =>
    rw[bN (by rw[B,hb])];rfl
   |true =>
    rw[dG (by rw[B,hb])];exact m6 (jV (maS (x:=.int 0) rfl (maS (x:=.str [112,97,115,115]) rfl (ma1 (nd (j:=0) rfl)))) (show(3:Nat)<=1000000 by decide)) rfl (show(1:Nat)<1000000 by decide)
  rw[X,bj];have z:=ZX (r:=r) (q:=bs.flatten) (k:=k) (s:=s) i;rw[hW] at z;rw[m7 (gJ (xs:=[.lst ([W]++mvL r bs.flatten k p)]) (ma1 rfl) z)];rfl
theorem sq{a b:MS}{ρ c:aA}{O d:au}(h:a ρ O=.nx c d):aB a b ρ O=b c d:=by
 rw[bh,h,bj]
theorem m8{i:Nat}{m:L2.M D}{ρ:aA}{O a:au}{d:D}(h:m ρ O=.ok d a):aF i m ρ O=.nx (ρ.set i (some d)) a:=by
 rw[Je,h,Jf]
abbrev Nd:=Int×Int
def nN(n:Nd):D:=.tup [.int n.1,.int n.2]
def key(n:Nd):List Key:=[.inl n.1,.inl n.2]
structure M3 where
 cost:Int
 name:List Nat
 other:Nd
def d3(m:M3):D:=.tup [.int m.cost,.str m.name,nN m.other]
def oD:Option Int->D
 |none=>.non
 |some i=>.int i
abbrev Tb:=List (Nd×Option Int)
def tab(ps:Tb):List (List Key×D):=ps.map λx=>(key x.1,oD x.2)
def lk(ps:Tb)(n:Nd):Option (Option Int):=(ps.find? λx=>decide (x.1=n)).map (·.2)
def pu(ps:Tb)(n:Nd)(v:Option Int):Tb:=if(ps.any λx=>decide (x.1=n))=true then ps.map (λx=>if x.1=n then(x.1,v) else x) else ps++[(n,v)]
theorem qU(n:Nd):pY (nN n)=some (key n):=rfl
theorem uo{a b:Nd}:key a=key b↔a=b:=by
 obtain⟨a1,a2⟩:=a;obtain⟨d,c⟩:=b;unfold key;simp
theorem DG(n:Nd):∀ps:Tb,gY (tab ps) (key n)=(lk ps n).map oD
 | []=>rfl
 |x::ps=>by
  have a:=DG n ps;unfold gY lk tab at *;rw[zl,List.find?_cons,List.find?_cons]
  by_cases h:x.1=n
  ·simp[h]
  ·have h':¬key x.1=key n:=λz=>h (uo.mp z)
   simp only[h,h',decide_false];exact a
theorem LK(n:Nd):∀ps:Tb,((tab ps).any λp=>decide (p.1=key n))=ps.any λx=>decide (x.1=n)
 | []=>rfl
 |x::ps=>by
  have a:=LK n ps;unfold tab at *;rw[zl,List.any_cons,List.any_cons,a];congr 1;exact decide_eq_decide.mpr uo
theorem Z0(ps:Tb)(n:Nd)(v:Option Int):nW (tab ps) (key n) (oD v)=tab (pu ps n v):=by
 unfold nW pu;rw[LK]
 split
 ·unfold tab;rw[zX,zX]
  refine jl λx _=>?_
  by_cases h:x.1=n
  ·simp[h]
  ·have h':¬key x.1=key n:=λz=>h (uo.mp z)
   simp[h,h']
 ·unfold tab;rw[zG];rfl
theorem DK{n:Nd}:∀{ps:Tb},(ps.any λx=>decide (x.1=n))=false->lk ps n=none
 | [],_=>rfl
 |x::ps,h=>by
  rw[List.any_cons,Bool.or_eq_false_iff] at h
  have:=DK h.2
  unfold lk at *;rw[List.find?_cons,h.1];exact this
theorem oX(x:Nd×Option Int)(ps:Tb)(n:Nd):lk (x::ps) n=if x.1=n then some x.2 else lk ps n:=by
 unfold lk;rw[List.find?_cons]
 by_cases h:x.1=n
 ·simp[h]
 ·simp[h]
theorem LQ(n:Nd)(y:Nd×Option Int):∀ps:Tb,lk (ps++[y]) n=if(lk ps n).isSome=true then lk ps n else if y.1=n then some y.2 else none
 | []=>by
  rw[zM,oX];rfl
 |x::ps=>by
  rw[List.cons_append,oX,oX,LQ n y ps]
  by_cases h:x.1=n
  ·simp[h]
  ·simp[h]
theorem LR(n m:Nd)(v:Option Int):∀ps:Tb,lk (ps.map λx=>if x.1=n then(x.1,v) else x) m=if m=n then(lk ps m).map λ_=>v else lk ps m
 | []=>by simp[lk]
 |x::ps=>by
  rw[zl,oX,oX,LR n m v ps]
  by_cases h:x.1=n
  ·by_cases b:m=n
   ·subst b;simp[h]
   ·have:¬n=m:=λz=>b z.symm
    simp[h,b,this]
  ·by_cases a:x.1=m
   ·have:¬m=n:=λz=>h (a.trans z)
    simp[h,a,this]
   ·simp[h,a]
theorem Ma{n:Nd}:∀{ps:Tb},(ps.any λx=>decide (x.1=n))=true->(lk ps n).isSome=true
 |x::ps,h=>by
  rw[oX]
  by_cases a:x.1=n
  ·simp[a]
  ·rw[if_neg a];rw[List.any_cons,zf a,Bool.false_or] at h;exact Ma h
theorem Mf(ps:Tb)(n m:Nd)(v:Option Int):lk (pu ps n v) m=if m=n then some v else lk ps m:=by
 unfold pu
 split
 ·rename_i h;rw[LR]
  split
  ·rename_i a;subst a
   have:=Ma h
   cases e:lk ps m with
   |none=>rw[e] at this;cases this
   |some w=>rfl
  ·rfl
 ·rename_i h;have h0:=DK (Bool.eq_false_iff.mpr h);rw[LQ]
  by_cases a:m=n
  ·subst a;simp[h0]
  ·have:¬n=m:=λz=>a z.symm
   simp[a,this]
   cases lk ps m<;>simp
theorem Z1(ps:Tb)(n:Nd)(v:Option Int):(pu ps n v).length<=ps.length+1:=by
 unfold pu
 split
 ·rw[zd];omega
 ·rw[zh];exact zc _
theorem Z2{ps:Tb}{n:Nd}{v:Option Int}(h:(lk ps n).isSome=true):(pu ps n v).length=ps.length:=by
 unfold pu
 split
 ·rw[zd]
 ·rename_i a;rw[DK (Bool.eq_false_iff.mpr a)] at h;cases h
theorem qW{mo my:L2.M D}{ρ:aA}{O:au}{p:Nat}{ps:Tb}{n:Nd}{v:Option Int}(h1:mo ρ O=.ok (.ob p) O)(h2:O[p]?=some (.dt (tab ps)))(h3:my ρ O=.ok (nN n) O)(h4:lk ps n=some v):dF mo my ρ O=.ok (oD v) O:=by
 unfold dF;rw[h1];dsimp only[aV];rw[h3];dsimp only[aV];unfold tsG;rw[qU,h2];dsimp only;unfold tsF;rw[qU,h2];dsimp only;rw[DG,h4];rfl
theorem Mg{mo my a:L2.M D}{ρ:aA}{O:au}{p:Nat}{ps:Tb}{n:Nd}{v:Option Int}(h0:a ρ O=.ok (oD v) O)(h1:mo ρ O=.ok (.ob p) O)(h2:O[p]?=some (.dt (tab ps)))(h3:my ρ O=.ok (nN n) O)(b:ps.length<1000000):iD mo my a ρ O=.nx ρ (O.set p (.dt (tab (pu ps n v)))):=by
 unfold iD;rw[h0];dsimp only;rw[h1];dsimp only;rw[h3];dsimp only;rw[qU,h2];dsimp only;rw[if_pos (by unfold tab;rw[zd];exact b),Z0]
def co(ps:Tb)(m:M3):Option Int:=match lk ps m.other with
 |some (some b)=>some (m.cost+b)
 | _=>none
def lc(ps:Tb)(ms:List M3):Option Int:=mdI none (ms.filterMap (co ps))
theorem Mh{O:au}{p:Nat}{ps:Tb}{m:M3}(d:O[p]?=some (.dt (tab ps)))(f:(lk ps m.other).isSome=true):lg [d3 m,.ob p] O=.ok (oD (co ps m)) O:=by
 obtain⟨v,a⟩:=Option.isSome_iff_exists.mp f;have c:dF (mG (aa 1)) (ak gIx (aa 0) (mC (.int 2))) [some (d3 m),some (.ob p),none] O=.ok (oD v) O:=qW rfl d (bc rfl rfl rfl) a;show bI (vM [some (d3 m),some (.ob p),none] O)=_;unfold vM;rw[sq (bV c),jO];unfold co;rw[a]
 cases v with
 |none=>rfl
 |some b=>rfl
theorem ints_map:∀is:List Int,iz (is.map D.int)=some is
 | []=>rfl
 |i::is=>by
  show(iz (is.map D.int)).map (i :: ·)=_;rw[ints_map is];rfl
theorem Mi(ps:Tb):∀ms:List M3,(ms.map λm=>oD (co ps m)).filter (λd=>!isNon d)=(ms.filterMap (co ps)).map D.int
 | []=>rfl
 |m::ms=>by
  rw[zl,List.filter_cons,List.filterMap_cons,Mi ps ms]
  cases co ps m<;>rfl
theorem Mj{O:au}{p:Nat}{ps:Tb}{ms:List M3}(g:O[p]?=some (.dt (tab ps)))(h:∀m∈ms,(lk ps m.other).isSome=true)(k:ms.length<=1000):oA [.lst (ms.map d3),.ob p] O=.ok (oD (lc ps ms)) O:=by
 have j:cT (mgN 0) eQ (aM lg (aj (aa 0) (aj (aa 1) aq))) (ms.map d3) [none,some (.ob p)] O []=.ok (ms.map λm=>oD (co ps m)) O:=by
  rw[vL (λρ=>∃a,ρ=[a,some (.ob p)]) d3 (λm=>oD (co ps m)) ms _ _ _ ⟨none,rfl⟩ (by
   rintro m hm' ρ ⟨a,rfl⟩
   exact⟨_,rfl,⟨_,rfl⟩,rfl,(cV (maS rfl (ma1 rfl))).trans (Mh g (h m hm'))⟩)]
  rw[zM]
 have f:dB (cA (aa 0)) 1 [1] (mgN 0) eQ (aM lg (aj (aa 0) (aj (aa 1) aq))) [some (.lst (ms.map d3)),some (.ob p),none] O=.ok (.lst (ms.map λm=>oD (co ps m))) O:=jX (g8 rfl) (by rw[zd];omega) rfl j
 have i:cT (mgN 0) (aH (jr (aa 0))) (aa 0) (ms.map λm=>oD (co ps m)) [none] O []=.ok ((ms.filterMap (co ps)).map D.int) O:=by
  rw[Jp (λρ=>∃a,ρ=[a]) (λd=>!isNon d) _ _ _ _ ⟨none,rfl⟩ (by
   rintro d hd ρ ⟨a,rfl⟩
   exact⟨_,rfl,⟨_,rfl⟩,rfl,rfl⟩)]
  rw[zM,Mi]
 have c:dB (cA (aa 2)) 1 [] (mgN 0) (aH (jr (aa 0))) (aa 0) [some (.lst (ms.map d3)),some (.ob p),some (.lst (ms.map λm=>oD (co ps m)))] O=.ok (.lst ((ms.filterMap (co ps)).map D.int)) O:=jX (g8 rfl) (by rw[zd];omega) rfl i
 have b:aL vm (aj (dB (cA (aa 2)) 1 [] (mgN 0) (aH (jr (aa 0))) (aa 0)) aq) [some (.lst (ms.map d3)),some (.ob p),some (.lst (ms.map λm=>oD (co ps m)))] O=.ok (oD (lc ps ms)) O:=gJ (ma1 c) (by
  show(iz ((ms.filterMap (co ps)).map D.int)).map _=_;rw[ints_map];show some (match mdI none (ms.filterMap (co ps)) with | some m=>D.int m | none=>D.non)=some (oD (mdI none (ms.filterMap (co ps))))
  cases mdI none (ms.filterMap (co ps))<;>rfl)
 show bI (vN [some (.lst (ms.map d3)),some (.ob p),none] O)=_;unfold vN;rw[sq (bV f),jO];exact congrArg (λr=>bI (mK r)) b
theorem Ml{ps a:Tb}:∀{ms:List M3},(∀m∈ms,lk a m.other=lk ps m.other)->ms.filterMap (co a)=ms.filterMap (co ps)
 | [],_=>rfl
 |m::ms,h=>by
  have e:co a m=co ps m:=by
   unfold co;rw[h m zo]
  rw[List.filterMap_cons,List.filterMap_cons,e,Ml λx b=>h x (zv _ b)]
theorem wW{ps a:Tb}{ms:List M3}(h:∀m∈ms,lk a m.other=lk ps m.other):lc a ms=lc ps ms:=by
 unfold lc;rw[Ml h]
structure Trl(t:Nat)(fs:List (Str×D))(N:Nat)(nodes:Nat->List Nd)(mv:Nd->List M3)(fin:Nd->Bool):Prop where
 na:∀(O:au) (a:Nat),O[t]?=some (.ins "Change" fs)->a<=N->qj [.ob t,.int a] O=.ok (.lst ((nodes a).map nN)) O
 mf:∀(O:au) (a:Nat) (n:Nd),O[t]?=some (.ins "Change" fs)->a<=N->n∈nodes a->jP [.ob t,nN n] O=.ok (.lst ((mv n).map d3)) O
 ie:∀(O:au) (a:Nat) (n:Nd),O[t]?=some (.ins "Change" fs)->a<=N->n∈nodes a->jQ [.ob t,nN n] O=.ok (.bl (fin n)) O
 la:∀O:au,O[t]?=some (.ins "Change" fs)->tK [.ob t] O=.ok (.int N) O
 fi:∀O:au,O[t]?=some (.ins "Change" fs)->tO [.ob t] O=.ok (nN (0,0)) O
 f0:((0,0):Nd)∈nodes 0
 nd:∀a,(nodes a).Nodup
 ln:∀a,(nodes a).length<=2
 fw:∀(a:Nat) (n:Nd),a<=N->n∈nodes a->∀m∈mv n,∃b,a<b/\b<=N/\m.other∈nodes b
 sp:∀(a b:Nat) (n:Nd),n∈nodes a->n∈nodes b->a=b
 ml:∀n,(mv n).length<=1000
 fe:∀n,fin n=true->mv n=[]
 u1:(fs.lookup ("nodes_at":Str)).isNone=true
 u2:(fs.lookup ("moves_from":Str)).isNone=true
 u3:(fs.lookup ("is_end":Str)).isNone=true
 u4:(fs.lookup ("last_at":Str)).isNone=true
 u5:(fs.lookup ("first_node":Str)).isNone=true
 hN:N<=1000
def cO(a:Nd->List M3)(ns:List Nd):List (List Key×D):=ns.map λn=>(key n,D.lst ((a n).map d3))
theorem Mm(a:Nd->List M3)(n:Nd):∀ns:List Nd,((cO a ns).any λp=>decide (p.1=key n))=decide (n∈ns)
 | []=>rfl
 |x::ns=>by
  have b:=Mm a n ns;unfold cO at *;rw[zl,List.any_cons,b]
  by_cases h:x=n
  ·subst h;simp
  ·have h1:¬key x=key n:=λz=>h (uo.mp z)
   have h2:¬n=x:=λz=>h z.symm
   simp[h1,h2]
theorem Z3{a:Nd->List M3}{ns:List Nd}{n:Nd}(h:n∉ns):nW (cO a ns) (key n) (.lst ((a n).map d3))=cO a (ns++[n]):=by
 unfold nW;rw[Mm,zf h,if_neg zp];unfold cO;rw[zG];rfl
theorem Mp(a:Nd->List M3)(n:Nd):∀ns:List Nd,n∈ns->gY (cO a ns) (key n)=some (.lst ((a n).map d3))
 |x::ns,h=>by
  unfold gY cO;rw[zl,List.find?_cons]
  by_cases b:x=n
  ·subst b;simp
  ·have h1:¬key x=key n:=λz=>b (uo.mp z)
   simp only[h1,decide_false]
   rcases zm.mp h with rfl | h
   ·exact absurd rfl b
   ·exact Mp a n ns h
theorem Z4(a:Nd->List M3)(ns:List Nd):(cO a ns).map yL=ns.map nN:=by
 unfold cO;rw[zX];rfl
def B_1:MS:=(aB (iD (aa 3) (aa 4) (du "Change" "moves_from" jP (mG (aa 0)) (aj (aa 4) aq)))
  (iD (mG (aa 2)) (aa 4) (mIf (bK (du "Change" "is_end" jQ (mG (aa 0)) (aj (aa 4) aq))) (mC (.int 0)) (mC .non))))
def ini(a:Nd->Bool)(n:Nd):Option Int:=if a n=true then some 0 else none
theorem uq{O:au}{i j:Nat}{x y:Ob}(h1:O[i]?=some x)(h2:O[j]?=some y)(h:x≠y):i≠j:=λz=>by
 rw[z,h2] at h1;exact h (zA h1).symm
theorem qX{O:au}{i:Nat}{x y:Ob}(e:O[i]?=some x):(O.set i y)[i]?=some y:=by
 obtain⟨h,_⟩:=zg.mp e;simp[h]
section
variable {t:Nat}{fs:List (Str×D)}{N:Nat}{nodes:Nat->List Nd}{mv:Nd->List M3}{fin:Nd->Bool}{p q:Nat}
theorem Z5(T:Trl t fs N nodes mv fin){a:Nat}(u:a<=N){n:Nd}(m:n∈nodes a){pre:List Nd}(i:n∉pre){O:au}{d:Tb}(f:O[t]?=some (.ins "Change" fs))(l:O[p]?=some (.dt (tab d)))(k:O[q]?=some (.dt (cO mv pre)))(g:p≠q)(B:d.length<1000000)(j:pre.length<1000000)(c b:Option D):
  B_1 [some (.ob t),some (.int a),some (.ob p),some (.ob q),some (nN n),c,b] O=.nx [some (.ob t),some (.int a),some (.ob p),some (.ob q),some (nN n),c,b] ((O.set q (.dt (cO mv (pre++[n])))).set p (.dt (tab (pu d n (ini fin n))))):=by
 have x:t≠q:=uq f k (λz=>nomatch z);have H:t≠p:=uq f l (λz=>nomatch z);have G:du "Change" "moves_from" jP (mG (aa 0)) (aj (aa 4) aq) [some (.ob t),some (.int a),some (.ob p),some (.ob q),some (nN n),c,b] O=.ok (.lst ((mv n).map d3)) O:=(oV rfl f T.u2 (ma1 rfl)).trans (T.mf O a n f u m)
 have y:iD (aa 3) (aa 4) (du "Change" "moves_from" jP (mG (aa 0)) (aj (aa 4) aq)) [some (.ob t),some (.int a),some (.ob p),some (.ob q),some (nN n),c,b] O=.nx [some (.ob t),some (.int a),some (.ob p),some (.ob q),some (nN n),c,b] (O.set q (.dt (cO mv (pre++[n])))):=by
  unfold iD;rw[G];dsimp only;rw[show(aa 3) [some (.ob t),some (.int a),some (.ob p),some (.ob q),some (nN n),c,b] O=.ok (.ob q) O from rfl];dsimp only;rw[show(aa 4) [some (.ob t),some (.int a),some (.ob p),some (.ob q),some (nN n),c,b] O=.ok (nN n) O from rfl];dsimp only;rw[qU,k];dsimp only;rw[if_pos (by unfold cO;rw[zd];exact j),Z3 i]
 have ht':(O.set q (.dt (cO mv (pre++[n]))))[t]?=some (.ins "Change" fs):=by rw[zw (Ne.symm x)];exact f
 have h:(O.set q (.dt (cO mv (pre++[n]))))[p]?=some (.dt (tab d)):=by rw[zw (Ne.symm g)];exact l
 have F:du "Change" "is_end" jQ (mG (aa 0)) (aj (aa 4) aq) [some (.ob t),some (.int a),some (.ob p),some (.ob q),some (nN n),c,b] (O.set q (.dt (cO mv (pre++[n]))))=.ok (.bl (fin n)) (O.set q (.dt (cO mv (pre++[n])))):=(oV rfl ht' T.u3 (ma1 rfl)).trans (T.ie _ a n ht' u m)
 have E:mIf (bK (du "Change" "is_end" jQ (mG (aa 0)) (aj (aa 4) aq))) (mC (.int 0)) (mC .non) [some (.ob t),some (.int a),some (.ob p),some (.ob q),some (nN n),c,b] (O.set q (.dt (cO mv (pre++[n]))))=.ok (oD (ini fin n)) (O.set q (.dt (cO mv (pre++[n])))):=by
  rw[Xi,sS,F,aV,oh,sU,sO,aV];unfold ini
  cases fin n<;>rfl
 unfold B_1;rw[sq y];exact Mg E rfl h rfl B
theorem Mq(T:Trl t fs N nodes mv fin){a:Nat}(E:a<=N)(f:p≠q)(i h:Option D):∀(rest pre:List Nd) (O:au) (b:Tb) (k:Option D),(∀n∈rest,n∈nodes a)->(pre++rest).Nodup->O[t]?=some (.ins "Change" fs)->O[p]?=some (.dt (tab b))->O[q]?=some (.dt (cO mv pre))->b.length+rest.length<1000000->pre.length+rest.length<1000000 ->
  ∃d c g,dO (mgN 4) B_1 (rest.map nN) [some (.ob t),some (.int a),some (.ob p),some (.ob q),k,i,h] O=.nx [some (.ob t),some (.int a),some (.ob p),some (.ob q),g,i,h] d/\d[p]?=some (.dt (tab c))/\d[q]?=some (.dt (cO mv (pre++rest)))/\(∀j,j≠p->j≠q->d[j]?=O[j]?)/\(∀n,lk c n=if n∈rest then some (ini fin n) else lk b n)/\c.length<=b.length+rest.length
 | [],pre,O,b,k,_,_,_,hp,hq,_,_=>⟨O,b,k,rfl,hp,by rw[zT];exact hq,λ_ _ _=>rfl,λn=>by simp,zc _⟩
 |n::rest,pre,O,b,k,hr,hd,ht,hp,hq,hl,hl2=>by
  rw[zC] at hl hl2;have H:=hr n zo
  have x:n∉pre:=λz=>(jb.mp hd).2.2 n z n zo rfl
  have u:n∉rest:=λz=>(List.nodup_cons.mp (jb.mp hd).2.1).1 z
  have I:=Z5 T E H x ht hp hq f (by omega) (by omega) i h;have F:t≠q:=uq ht hq (λz=>nomatch z);have G:t≠p:=uq ht hp (λz=>nomatch z);have J:=Z1 b n (ini fin n);obtain⟨d,c,g,e,h1,h2,h3,h4,L⟩:=Mq T E f i h rest (pre++[n]) ((O.set q (.dt (cO mv (pre++[n])))).set p (.dt (tab (pu b n (ini fin n))))) (pu b n (ini fin n)) (some (nN n)) (λm l=>hr m (zv _ l)) (by rw[zP];exact hd)
   (by rw[zw (Ne.symm G),zw (Ne.symm F)];exact ht) (qX (by rw[zw (Ne.symm f)];exact hp)) (by rw[zw f];exact qX hq) (by omega) (by rw[zh,je];omega)
  refine⟨d,c,g,?_,h1,by rw[zP] at h2;exact h2,λj B y=>?_,λm=>?_,by rw[zC];omega⟩
  ·rw[zl];unfold dO;rw[mg_n];dsimp only
   show(match B_1 [some (.ob t),some (.int a),some (.ob p),some (.ob q),some (nN n),i,h] O with
    | .nx ρ' d=>dO _ _ (rest.map nN) ρ' d | .ct ρ' d=>dO _ _ (rest.map nN) ρ' d | .bk ρ' d=>Fl.nx ρ' d | r=>r)=_
   rw[I];exact e
  ·rw[h3 j B y,zw (Ne.symm B),zw (Ne.symm y)]
  ·rw[h4 m,Mf]
   by_cases l:m=n
   ·subst l;simp[u]
   ·simp[l]
end
theorem Z6{mo my:L2.M D}{ρ:aA}{O:au}{q:Nat}{a:List (List Key×D)}{n:Nd}{d:D}(h1:mo ρ O=.ok (.ob q) O)(h2:O[q]?=some (.df a))(h3:my ρ O=.ok (nN n) O)(h4:gY a (key n)=some d):dF mo my ρ O=.ok d O:=by
 unfold dF;rw[h1];dsimp only[aV];rw[h3];dsimp only[aV];unfold tsG;rw[qU,h2];dsimp only;rw[h4]
def B_r:MS:=(aB (aF 6 (aM oA (aj (dF (aa 3) (aa 4)) (aj (aa 2) aq))))
  (aY (fW (aH (jr (aa 6))) (cR (aH (jJ (dF (mG (aa 2)) (aa 4)))) (aH (ak gLt (aa 6) (dF (mG (aa 2)) (aa 4)))))) (aB (iD (mG (aa 2)) (aa 4) (aa 6))
  (aF 5 (mC (.bl true)))) bx))
def better(v L:Option Int):Bool:=match L with
 |none=>false
 |some c=>match v with
  |none=>true
  |some w=>decide (c<w)
section
variable {t:Nat}{fs:List (Str×D)}{N:Nat}{nodes:Nat->List Nd}{mv:Nd->List M3}{fin:Nd->Bool}{p q:Nat}
theorem Z7{ns:List Nd}{n:Nd}(E:n∈ns){O:au}{a:Tb}{v:Option Int}(j:O[p]?=some (.dt (tab a)))(B:O[q]?=some (.df (cO mv ns)))(hv:lk a n=some v)(F:∀m∈mv n,(lk a m.other).isSome=true)(k:(mv n).length<=1000)(G:a.length<1000000)(b:Bool)(d a1 i:Option D):
  B_r [d,a1,some (.ob p),some (.ob q),some (nN n),some (.bl b),i] O=.nx [d,a1,some (.ob p),some (.ob q),some (nN n),some (.bl (b || better v (lc a (mv n)))),some (oD (lc a (mv n)))] (if better v (lc a (mv n))=true then O.set p (.dt (tab (pu a n (lc a (mv n))))) else O):=by
 have z:dF (aa 3) (aa 4) [d,a1,some (.ob p),some (.ob q),some (nN n),some (.bl b),i] O=.ok (.lst ((mv n).map d3)) O:=Z6 rfl B rfl (Mp mv n ns E);have y:aM oA (aj (dF (aa 3) (aa 4)) (aj (aa 2) aq)) [d,a1,some (.ob p),some (.ob q),some (nN n),some (.bl b),i] O=.ok (oD (lc a (mv n))) O:=(cV (maS z (ma1 rfl))).trans (Mj j F k)
 have u:∀g:Option D,dF (mG (aa 2)) (aa 4) [d,a1,some (.ob p),some (.ob q),some (nN n),some (.bl b),g] O=.ok (oD v) O:=λg=>qW rfl j rfl hv
 unfold B_r;rw[sq (bV y)];show aY _ _ _ [d,a1,some (.ob p),some (.ob q),some (nN n),some (.bl b),some (oD (lc a (mv n)))] O=_
 cases hL:lc a (mv n) with
 |none =>
  refine(bN ?_).trans ?_
  ·rw[sV];rfl
  ·show Fl.nx _ O=_;simp[better]
 |some c =>
  have f:(aB (iD (mG (aa 2)) (aa 4) (aa 6)) (aF 5 (mC (.bl true)))) [d,a1,some (.ob p),some (.ob q),some (nN n),some (.bl b),some (oD (some c))] O=.nx [d,a1,some (.ob p),some (.ob q),some (nN n),some (.bl true),some (oD (some c))] (O.set p (.dt (tab (pu a n (some c))))):=by
   rw[sq (Mg (v:=some c) rfl rfl j rfl G)];rfl
  have l:aH (jr (aa 6)) [d,a1,some (.ob p),some (.ob q),some (nN n),some (.bl b),some (oD (some c))] O=.ok true O:=rfl
  have tB:aH (jJ (dF (mG (aa 2)) (aa 4))) [d,a1,some (.ob p),some (.ob q),some (nN n),some (.bl b),some (oD (some c))] O=.ok (isNon (oD v)) O:=by
   rw[yM,Xg,u,aV,aV,IW]
  cases v with
  |none =>
   refine(dG ?_).trans ?_
   ·rw[sV,l,aV,if_pos rfl,yN,tB,aV];rfl
   ·rw[f];simp[better]
  |some w =>
   have tC:aH (ak gLt (aa 6) (dF (mG (aa 2)) (aa 4))) [d,a1,some (.ob p),some (.ob q),some (nN n),some (.bl b),some (oD (some c))] O=.ok (decide (c<w)) O:=fJ (bc (x:=.int c) rfl (u _) rfl)
   have h:fW (aH (jr (aa 6))) (cR (aH (jJ (dF (mG (aa 2)) (aa 4)))) (aH (ak gLt (aa 6) (dF (mG (aa 2)) (aa 4))))) [d,a1,some (.ob p),some (.ob q),some (nN n),some (.bl b),some (oD (some c))] O=.ok (decide (c<w)) O:=by
    rw[sV,l,aV,if_pos rfl,yN,tB,aV];exact tC
   by_cases hw:c<w
   ·rw[zn hw] at h;rw[dG h,f];simp[better,hw]
   ·rw[zf hw] at h;rw[bN h];show Fl.nx _ O=_;simp[better,hw]
def fnl(fin:Nd->Bool)(L:Nd->Option Int)(n:Nd):Option Int:=if fin n=true then some 0 else L n
theorem Z8{fin:Nd->Bool}{L:Nd->Option Int}{n:Nd}{v:Option Int}(a:fin n=true->L n=none)(hv:v=ini fin n\/v=fnl fin L n):(if better v (L n)=true then L n else v)=fnl fin L n:=by
 unfold fnl ini at *
 cases h:fin n with
 |true =>
  have:=a h
  rw[this];rw[h] at hv
  rcases hv with rfl | rfl<;>rfl
 |false =>
  rw[h] at hv
  rcases hv with rfl | rfl
  ·cases L n<;>rfl
  ·simp only[Bool.false_eq_true,if_false]
   split<;>rfl
theorem Z9{fin:Nd->Bool}{L:Nd->Option Int}{n:Nd}(a:fin n=true->L n=none):better (fnl fin L n) (L n)=false:=by
 unfold fnl
 cases h:fin n with
 |true =>
  rw[a h];rfl
 |false =>
  simp only[Bool.false_eq_true,if_false]
  cases L n with
  |none=>rfl
  |some c=>simp[better]
theorem Mr(T:Trl t fs N nodes mv fin){a:Nat}(U:a<=N){base:Tb}(hb:∀n∈nodes a,∀m∈mv n,(lk base m.other).isSome=true)(st:Nd->Option Int)(H:∀n∈nodes a,st n=ini fin n\/st n=fnl fin (λn=>lc base (mv n)) n)(y a1:Option D):
  ∀(rest:List Nd) (O:au) (c:Tb) (b:Bool) (E x:Option D),(∀n∈rest,n∈nodes a)->rest.Nodup->O[p]?=some (.dt (tab c))->O[q]?=some (.df (cO mv (nodes a)))->p≠q->(∀m,m∉nodes a->lk c m=lk base m)->(∀n∈rest,lk c n=some (st n))->c.length<1000000 ->
  ∃i d l k,dO (mgN 4) B_r (rest.map nN) [y,a1,some (.ob p),some (.ob q),E,some (.bl b),x] O=.nx [y,a1,some (.ob p),some (.ob q),l,some (.bl (b || rest.any λn=>better (st n) (lc base (mv n)))),k] i/\i[p]?=some (.dt (tab d))/\(∀j,j≠p->i[j]?=O[j]?)/\(∀m,lk d m=if m∈rest then some (fnl fin (λn=>lc base (mv n)) m) else lk c m)/\d.length<=c.length
 | [],O,c,b,E,x,_,_,hp,_,_,_,_,_=>⟨O,c,E,x,by simp[dO],hp,λ_ _=>rfl,λm=>by simp,zc _⟩
 |n::rest,O,c,b,E,x,hr,hd,hp,hq,hpq,hc,hs,hl=>by
  have F:=hr n zo;have hd':=List.nodup_cons.mp hd
  have I:∀m∈mv n,m.other∉nodes a:=λm g z=>by
   obtain⟨b,b1,b2,b3⟩:=T.fw a n U F m g
   have:=T.sp a b _ z b3
   omega
  have eL:lc c (mv n)=lc base (mv n):=wW λm g=>hc _ (I m g)
  have g:∀m∈mv n,(lk c m.other).isSome=true:=λm g=>by rw[hc _ (I m g)];exact hb n F m g
  have W:=Z7 F hp hq (hs n zo) g (T.ml n) hl b y a1 x;rw[eL] at W;have P:=Z8 (L:=λn=>lc base (mv n)) (λh=>by show lc base (mv n)=none;rw[T.fe n h];rfl) (H n F)
  have B:(lk c n).isSome=true:=by rw[hs n zo];rfl
  have go:∀(G:au) (f:Tb),G[p]?=some (.dt (tab f))->(∀j,j≠p->G[j]?=O[j]?)->(∀m,lk f m=if m=n then some (fnl fin (λn=>lc base (mv n)) n) else lk c m)->f.length<=c.length->(if better (st n) (lc base (mv n))=true then O.set p (.dt (tab (pu c n (lc base (mv n))))) else O)=G ->
    ∃i d l k,dO (mgN 4) B_r ((n::rest).map nN) [y,a1,some (.ob p),some (.ob q),E,some (.bl b),x] O=.nx [y,a1,some (.ob p),some (.ob q),l,some (.bl (b || (n::rest).any λn=>better (st n) (lc base (mv n)))),k] i/\i[p]?=some (.dt (tab d))/\(∀j,j≠p->i[j]?=O[j]?)/\(∀m,lk d m=if m∈n::rest then some (fnl fin (λn=>lc base (mv n)) m) else lk c m)/\d.length<=c.length:=λG f Y R Q k4 X=>by
   obtain⟨i,d,l,k,e,g1,g2,Z,g4⟩:=Mr T U hb st H y a1 rest G f (b || better (st n) (lc base (mv n))) (some (nN n)) (some (oD (lc base (mv n)))) (λm g=>hr m (zv _ g)) hd'.2 Y ((R q (Ne.symm hpq)).trans hq) hpq (λm g=>by
     rw[Q m,if_neg (λz:m=n=>g (by rw[z];exact F))]
     exact hc m g) (λm g=>by
     rw[Q m,if_neg (λz:m=n=>hd'.1 (by rw[<-z];exact g))]
     exact hs m (zv _ g)) (by omega)
   refine⟨i,d,l,k,?_,g1,λj J=>(g2 j J).trans (R j J),λm=>?_,by omega⟩
   ·rw[zl];unfold dO;rw[mg_n];dsimp only
    show(match B_r [y,a1,some (.ob p),some (.ob q),some (nN n),some (.bl b),x] O with
     | .nx ρ' i=>dO _ _ (rest.map nN) ρ' i | .ct ρ' i=>dO _ _ (rest.map nN) ρ' i | .bk ρ' i=>Fl.nx ρ' i | r=>r)=_
    rw[W,X];rw[List.any_cons,<-Bool.or_assoc];exact e
   ·rw[Z m,Q m]
    by_cases u:m=n
    ·subst u;simp[hd'.1]
    ·simp[u]
  cases hbt:better (st n) (lc base (mv n)) with
  |true =>
   rw[hbt] at P;refine go (O.set p (.dt (tab (pu c n (lc base (mv n)))))) (pu c n (lc base (mv n))) (qX hp) (λj J=>by rw[zw (Ne.symm J)]) (λm=>?_) (Nat.le_of_eq (Z2 B)) (by rw[hbt];rfl);rw[Mf,<-P];rfl
  |false =>
   rw[hbt] at P;refine go O c hp (λ_ _=>rfl) (λm=>?_) (zc _) (by rw[hbt];rfl)
   split
   ·rename_i u;rw[u,<-P];exact hs n zo
   ·rfl
end
def B_n:MS:=(aB (aF 5 (mC (.bl false)))
  (p7 3 (bO (p6 (aa 3)) (mgN 4) B_r)))
section
variable {t:Nat}{fs:List (Str×D)}{N:Nat}{nodes:Nat->List Nd}{mv:Nd->List M3}{fin:Nd->Bool}{p q:Nat}
theorem Ms(T:Trl t fs N nodes mv fin){a:Nat}(Y:a<=N){base:Tb}(hb:∀n∈nodes a,∀m∈mv n,(lk base m.other).isSome=true)(st:Nd->Option Int)(E:∀n∈nodes a,st n=ini fin n\/st n=fnl fin (λn=>lc base (mv n)) n)(k a1 x P u:Option D){O:au}{c:Tb}
  (U:O[p]?=some (.dt (tab c))) (B:O[q]?=some (.dt (cO mv (nodes a)))) (i:p≠q) (I:∀m,m∉nodes a->lk c m=lk base m) (R:∀n∈nodes a,lk c n=some (st n)) (X:c.length<1000000):
  ∃l b g f,B_n [k,a1,some (.ob p),some (.ob q),x,P,u] O=.nx [k,a1,some (.ob p),some (.ob q),g,some (.bl ((nodes a).any λn=>better (st n) (lc base (mv n)))),f] l/\l[p]?=some (.dt (tab b))/\l[q]?=some (.dt (cO mv (nodes a)))/\(∀j,j≠p->j≠q->l[j]?=O[j]?)/\(∀m,m∉nodes a->lk b m=lk base m)/\(∀n∈nodes a,lk b n=some (fnl fin (λn=>lc base (mv n)) n))/\b.length<=c.length:=by
 have z:(O.set q (.df (cO mv (nodes a))))[q]?=some (.df (cO mv (nodes a))):=qX B
 have F:(O.set q (.df (cO mv (nodes a))))[p]?=some (.dt (tab c)):=by rw[zw (Ne.symm i)];exact U
 obtain⟨l,b,g,f,e,g1,L,J,Z⟩:=Mr T Y hb st E k a1 (nodes a) (O.set q (.df (cO mv (nodes a)))) c false x u (λn h=>h) (T.nd a) F z i I R X;rw[Bool.false_or] at e;have y:l[q]?=some (.df (cO mv (nodes a))):=(L q (Ne.symm i)).trans z;refine⟨l.set q (.dt (cO mv (nodes a))),b,g,f,?_,?_,qX y,λj Q G=>?_,λm H=>?_,λn W=>?_,Z⟩
 ·have ek:p6 (aa 3) [k,a1,some (.ob p),some (.ob q),x,some (.bl false),u] O=.ok ((nodes a).map nN) (O.set q (.df (cO mv (nodes a)))):=by
   unfold p6;rw[show(aa 3) [k,a1,some (.ob p),some (.ob q),x,some (.bl false),u] O=.ok (.ob q) O from rfl];dsimp only[aV];rw[B];dsimp only;rw[Z4]
  have ef:bO (p6 (aa 3)) (mgN 4) B_r [k,a1,some (.ob p),some (.ob q),x,some (.bl false),u] O=.nx [k,a1,some (.ob p),some (.ob q),g,some (.bl ((nodes a).any λn=>better (st n) (lc base (mv n)))),f] l:=by
   rw[fM,ek,fO,e]
  unfold B_n;rw[sq (bV (m_c (d:=.bl false)))];show p7 3 _ [k,a1,some (.ob p),some (.ob q),x,some (.bl false),u] O=_;unfold p7;show(match O[q]? with | some (.dt _)=>_ | _=>Fl.no)=_;rw[B];dsimp only;rw[ef];dsimp only;rw[y]
 ·rw[zw (Ne.symm i)];exact g1
 ·rw[zw (Ne.symm G),L j Q,zw (Ne.symm G)]
 ·rw[J m,if_neg H];exact I m H
 ·rw[J n,if_pos W]
theorem wX{t:L2.M Bool}{b:MS}{k:Nat}{ρ a:aA}{O c:au}(h:t ρ O=.ok true O)(hb:b ρ O=.nx a c):gD t b (k+1) ρ O=gD t b k a c:=by
 show(match t ρ O with | .ok true O1=>(match b ρ O1 with | .nx a c=>gD t b k a c | .ct a c=>gD t b k a c | .bk a c=>Fl.nx a c | r=>r) | .ok false O1=>.nx ρ O1 | .ex x O'=>.ex x O' | .no=>.no)=_;rw[h];dsimp only;rw[hb]
theorem DN{t:L2.M Bool}{b:MS}{k:Nat}{ρ:aA}{O:au}(h:t ρ O=.ok false O):gD t b (k+1) ρ O=.nx ρ O:=by
 show(match t ρ O with | .ok true O1=>(match b ρ O1 with | .nx ρ2 O2=>gD t b k ρ2 O2 | .ct ρ2 O2=>gD t b k ρ2 O2 | .bk ρ2 O2=>Fl.nx ρ2 O2 | r=>r) | .ok false O1=>.nx ρ O1 | .ex x O'=>.ex x O' | .no=>.no)=_;rw[h]
theorem Qtg(T:Trl t fs N nodes mv fin){a:Nat}(y:a<=N){O:au}{f:Tb}(ht:O[t]?=some (.ins "Change" fs))(hp:O[p]?=some (.dt (tab f)))(hb:∀n∈nodes a,∀m∈mv n,(lk f m.other).isSome=true)(hl:f.length<900000):
  ∃g c,tH [.ob t,.int a,.ob p] O=.ok .non g/\g[p]?=some (.dt (tab c))/\(∀(j:Nat) (x:Ob),j≠p->O[j]?=some x->g[j]?=some x)/\(∀m,m∉nodes a->lk c m=lk f m)/\(∀n∈nodes a,lk c n=some (fnl fin (λn=>lc f (mv n)) n))/\c.length<=f.length+2:=by
 have hln:=T.ln a;have G:=(zg.mp hp).1;have htl:=(zg.mp ht).1;have u:p≠O.length:=zB G
 have l:(O++[Ob.dt []])[t]?=some (.ins "Change" fs):=by rw[zx htl];exact ht
 have hp1:(O++[Ob.dt []])[p]?=some (.dt (tab f)):=by rw[zx G];exact hp
 have hq1:(O++[Ob.dt []])[O.length]?=some (.dt (cO mv [])):=by simp[cO]
 obtain⟨W,cur1,R,e1,f1,f2,f3,f4,f5⟩:=Mq T y u none none (nodes a) [] (O++[Ob.dt []]) f none (λn h=>h) (T.nd a) l hp1 hq1 (by omega) (by simp;omega);rw[zM] at f2
 have far:∀n∈nodes a,∀m∈mv n,m.other∉nodes a:=λn Y m Z z=>by
  obtain⟨b,b1,b2,b3⟩:=T.fw a n y Y m Z
  have:=T.sp a b _ z b3
  omega
 have hf:∀n,fin n=true->lc f (mv n)=none:=λn h=>by rw[T.fe n h];rfl
 obtain⟨O2,Q,F,E,U,g1,g2,g3,g4,g5,g6⟩:=Ms (base:=f) T y hb (ini fin) (λn _=>.inl rfl) (some (.ob t)) (some (.int a)) R (some (.bl true)) none f1 f2 u (λm Z=>by rw[f4 m,if_neg Z]) (λn Y=>by rw[f4 n,if_pos Y]) (by omega);obtain⟨O3,P,I,H,e3,k1,k2,k3,k4,k5,k6⟩:=Ms (base:=f) T y hb (fnl fin λn=>lc f (mv n)) (λn _=>.inr rfl) (some (.ob t)) (some (.int a)) F (some (.bl true)) E g1 g2 u g4 g5 (by omega)
 have z3:((nodes a).any λn=>better (fnl fin (λn=>lc f (mv n)) n) (lc f (mv n)))=false:=by
  rw[List.any_eq_false];intro n _;rw[Z9 (L:=λn=>lc f (mv n)) (hf n)];exact zp
 rw[z3] at e3;have J:sG [some (.ob t),some (.int a),some (.ob p),none,none,none,none] O=.ok (.ob O.length) (O++[Ob.dt []]):=rfl;have s2:(cA (du "Change" "nodes_at" qj (mG (aa 0)) (aj (aa 1) aq))) [some (.ob t),some (.int a),some (.ob p),some (.ob O.length),none,none,none] (O++[Ob.dt []])=.ok ((nodes a).map nN) (O++[Ob.dt []]):=g8 ((oV rfl l T.u1 (ma1 rfl)).trans (T.na _ a l y))
 have s3:bO (cA (du "Change" "nodes_at" qj (mG (aa 0)) (aj (aa 1) aq))) (mgN 4) B_1 [some (.ob t),some (.int a),some (.ob p),some (.ob O.length),none,none,none] (O++[Ob.dt []])=.nx [some (.ob t),some (.int a),some (.ob p),some (.ob O.length),R,none,none] W:=by
  rw[fM,s2,fO,e1]
 have B:∀(j:Nat) (x:Ob),j≠p->O[j]?=some x->W[j]?=some x:=λj x k i=>by
  have:=(zg.mp i).1
  rw[f3 j k (by omega),zx this];exact i
 have X:∀(j:Nat) (x:Ob),O[j]?=some x->j≠O.length:=λj x i=>zB (zg.mp i).1
 have fin':∀(g:au) (c:Tb) (x4 x6:Option D),gD (bK (aa 5)) B_n 10 [some (.ob t),some (.int a),some (.ob p),some (.ob O.length),R,some (.bl true),none] W=.nx [some (.ob t),some (.int a),some (.ob p),some (.ob O.length),x4,some (.bl false),x6] g->g[p]?=some (.dt (tab c))->(∀(j:Nat) (x:Ob),j≠p->O[j]?=some x->g[j]?=some x)->(∀m,m∉nodes a->lk c m=lk f m)->(∀n∈nodes a,lk c n=some (fnl fin (λn=>lc f (mv n)) n))->c.length<=f.length+2 ->
   ∃g c,tH [.ob t,.int a,.ob p] O=.ok .non g/\g[p]?=some (.dt (tab c))/\(∀(j:Nat) (x:Ob),j≠p->O[j]?=some x->g[j]?=some x)/\(∀m,m∉nodes a->lk c m=lk f m)/\(∀n∈nodes a,lk c n=some (fnl fin (λn=>lc f (mv n)) n))/\c.length<=f.length+2:=λg c x4 x6 hw h1 h2 h3 h4 h5=>by
  refine⟨g,c,?_,h1,h2,h3,h4,h5⟩;unfold B_1 at s3;unfold B_n B_r at hw;show bI (vR [some (.ob t),some (.int a),some (.ob p),none,none,none,none] O)=_;unfold vR;rw[sq (m8 J)];show bI (aB _ _ [some (.ob t),some (.int a),some (.ob p),some (.ob O.length),none,none,none] (O++[Ob.dt []]))=_;rw[sq s3,sq (bV (m_c (d:=.bl true)))];show bI (lY 10 _ _ [some (.ob t),some (.int a),some (.ob p),some (.ob O.length),R,some (.bl true),none] W)=_;unfold lY;rw[hw];rfl
 cases hb1:(nodes a).any λn=>better (ini fin n) (lc f (mv n)) with
 |true =>
  rw[hb1] at U;refine fin' O3 P I H ?_ k1 (λj x k i=>by rw[k3 j k (X j x i),g3 j k (X j x i)];exact B j x k i) k4 k5 (by omega);rw[wX rfl U,wX rfl e3,DN rfl]
 |false =>
  rw[hb1] at U;refine fin' O2 Q F E ?_ g1 (λj x k i=>by rw[g3 j k (X j x i)];exact B j x k i) g4 g5 (by omega);rw[wX rfl U,DN rfl]
end
theorem Mt{α:Type}{g:MG}{t:L2.M Bool}{m:L2.M D}(b:aA->Prop)(p:α->Bool)(f:α->D):∀(xs:List α) (ρ:aA) (O:au) (acc:List D),b ρ->(∀x∈xs,∀ρ,b ρ->∃a,g (f x) ρ=some a/\b a/\t a O=.ok (p x) O/\m a O=.ok (f x) O)->cT g t m (xs.map f) ρ O acc=.ok (acc++(xs.filter p).map f) O
 | [],ρ,O,acc,_,_=>by simp[cT]
 |x::xs,ρ,O,acc,h,hs=>by
  obtain⟨a,k,h1,j,i⟩:=hs x zo ρ h
  have d:=λacc=>Mt (g:=g) (t:=t) (m:=m) b p f xs a O acc h1 λl c=>hs l (zv _ c)
  rw[zl];unfold cT;rw[k];dsimp only;rw[j]
  cases q:p x with
  |true =>
   dsimp only;rw[i];dsimp only;rw[d,List.filter_cons,q];simp
  |false =>
   dsimp only;rw[d,List.filter_cons,q];simp
theorem Qq1(b:Nat):jC (((b+1:Nat):Int) - 1) (b+1)=.int (b:Int)::jC ((b:Int) - 1) b:=by
 unfold jC;rw[List.range_succ_eq_map,zl,zX];congr 1
 ·show D.int _=_;congr 1;omega
 ·refine jl λi _=>?_
  show D.int _=D.int _;congr 1;omega
def Pri(N:Nat)(nodes:Nat->List Nd)(f:Nd->List M3)(d:Nd->Bool)(b:Nat)(a:Tb):Prop:=∀c,b<=c->c<=N->∀n∈nodes c,lk a n=some (fnl d (λn=>lc a (f n)) n)
def B_p:MS:=(rP (aM tH (aj (aa 0) (aj (aa 2) (aj (aa 1) aq)))))
section
variable {t:Nat}{fs:List (Str×D)}{N:Nat}{nodes:Nat->List Nd}{mv:Nd->List M3}{fin:Nd->Bool}{p q:Nat}
theorem Mu(T:Trl t fs N nodes mv fin):∀(b:Nat) (O:au) (f:Tb) (y:Option D),b<=N+1->O[t]?=some (.ins "Change" fs)->O[p]?=some (.dt (tab f))->Pri N nodes mv fin b f->f.length+10 * b<=800000 ->
  ∃k i l,dO (mgN 2) B_p (jC ((b:Int) - 1) b) [some (.ob t),some (.ob p),y] O=.nx [some (.ob t),some (.ob p),l] k/\k[p]?=some (.dt (tab i))/\(∀(j:Nat) (x:Ob),j≠p->O[j]?=some x->k[j]?=some x)/\Pri N nodes mv fin 0 i/\i.length<=f.length+2 * b
 | 0,O,f,y,_,_,hp,hP,_=>⟨O,f,y,rfl,hp,λ_ _ _ h=>h,hP,by omega⟩
 |a+1,O,f,y,hb,ht,hp,hP,hl=>by
  have L:a<=N:=by omega
  have F:∀n∈nodes a,∀m∈mv n,(lk f m.other).isSome=true:=λn u m E=>by
   obtain⟨c,c1,B,c3⟩:=T.fw a n L u m E;rw[hP c (by omega) B _ c3];rfl
  obtain⟨R,g,e,g1,Q,P,g4,g5⟩:=Qtg T L ht hp F (by omega);have U:t≠p:=uq ht hp (λz=>nomatch z)
  have G:Pri N nodes mv fin a g:=λc c1 B n u=>by
   have H:∀m∈mv n,lk g m.other=lk f m.other:=λm E=>P _ λz=>by
    obtain⟨d,d1,d2,d3⟩:=T.fw c n B u m E
    have:=T.sp a d _ z d3
    omega
   have eL:lc g (mv n)=lc f (mv n):=wW H
   have eF:fnl fin (λn=>lc g (mv n)) n=fnl fin (λn=>lc f (mv n)) n:=by
    show(if fin n=true then some 0 else lc g (mv n))=_;rw[eL];rfl
   rw[eF]
   by_cases J:c=a
   ·subst J;exact g4 n u
   ·rw[P n λz=>J (T.sp c a n u z)];exact hP c (by omega) B n u
  obtain⟨k,i,l,e2,Y,X,W,k4⟩:=Mu T a R g (some (.int (a:Int))) (by omega) (Q t _ U ht) g1 G (by omega);refine⟨k,i,l,?_,Y,λj x I Z=>X j x I (Q j x I Z),W,by omega⟩;rw[Qq1];unfold dO;rw[mg_n];dsimp only
  have eb:B_p [some (.ob t),some (.ob p),some (.int (a:Int))] O=.nx [some (.ob t),some (.ob p),some (.int (a:Int))] R:=by
   unfold B_p;rw[Xm,cV (maS rfl (maS rfl (ma1 rfl))),e,Xn]
  show(match B_p [some (.ob t),some (.ob p),some (.int (a:Int))] O with
   | .nx ρ' k=>dO _ _ (jC ((a:Int) - 1) a) ρ' k | .ct ρ' k=>dO _ _ (jC ((a:Int) - 1) a) ρ' k | .bk ρ' k=>Fl.nx ρ' k | r=>r)=_
  rw[eb];exact e2
theorem DP(T:Trl t fs N nodes mv fin){O:au}(h:O[t]?=some (.ins "Change" fs)):∃d a,qy [.ob t] O=.ok (.ob O.length) d/\d[O.length]?=some (.dt (tab a))/\(∀(j:Nat) (x:Ob),O[j]?=some x->d[j]?=some x)/\Pri N nodes mv fin 0 a/\a.length<=2 * (N+1):=by
 have hN:=T.hN;have f:=(zg.mp h).1
 have b:(O++[Ob.dt []])[t]?=some (.ins "Change" fs):=by rw[zx f];exact h
 obtain⟨d,a,y,e,m,l,k,i⟩:=Mu (p:=O.length) T (N+1) (O++[Ob.dt []]) [] none (zc _) b (by simp[tab]) (λc u z=>absurd u (by omega)) (by simp;omega);refine⟨d,a,?_,m,λj x g=>?_,k,by rw[jn] at i;omega⟩
 ·have n:vo (aj (du "Change" "last_at" tK (mG (aa 0)) aq) (aj (mUn f9 (mC (.int 1))) (aj (mUn f9 (mC (.int 1))) aq))) [some (.ob t),some (.ob O.length),none] (O++[Ob.dt []])=.ok (jC (((N+1:Nat):Int) - 1) (N+1)) (O++[Ob.dt []]):=by
   unfold vo;rw[maS ((oV rfl b T.u4 rfl).trans (T.la _ b)) (maS (x:=.int (-1)) rfl (ma1 (x:=.int (-1)) rfl))];dsimp only[aV];rw[if_pos ⟨rfl,by omega,by omega,by decide,by decide⟩];congr 1;rw[show((N:Int) - -1).toNat=N+1 by omega,show(((N+1:Nat):Int) - 1)=(N:Int) by omega]
  unfold B_p at e;show bI (vV [some (.ob t),none,none] O)=_;unfold vV;rw[sq (m8 (show sG [some (.ob t),none,none] O=.ok (.ob O.length) (O++[Ob.dt []]) from rfl))];show bI (aB _ _ [some (.ob t),some (.ob O.length),none] (O++[Ob.dt []]))=_;rw[bh,fM,n,fO,e,bj];rfl
 ·have:=(zg.mp g).1
  exact l j x (by omega) (by rw[zx this];exact g)
theorem wY:∀(l:List Int) (b:Option Int) (c:Int),mdI b l=some c->b=some c\/c∈l
 | [],b,c,h=>.inl (by cases b<;>exact h)
 |n::r,none,c,h=>by
  rcases wY r (some n) c h with h | h
  ·exact .inr (by rw[zA h];exact zo)
  ·exact .inr (zv _ h)
 |n::r,some m,c,h=>by
  rcases wY r (some (if n<m then n else m)) c h with h | h
  ·split at h
   ·exact .inr (by rw[zA h];exact zo)
   ·exact .inl h
  ·exact .inr (zv _ h)
theorem Mv:∀(l:List Int) (b:Int),∃c,mdI (some b) l=some c
 | [],b=>⟨b,rfl⟩
 |n::r,b=>Mv r (if n<b then n else b)
theorem Qvm{l:List Int}(h:l≠[]):∃c,mdI none l=some c:=by
 cases l with
 |nil=>exact absurd rfl h
 |cons n r=>exact Mv r n
theorem QuM(x y:Option Int):gEq (oD x) (oD y)=some (.bl (decide (x=y))):=by
 cases x with
 |none=>cases y<;>rfl
 |some i =>
  cases y with
  |none=>rfl
  |some j =>
   show some (D.bl (decide (i=j)))=_;congr 2;exact decide_eq_decide.mpr ⟨λh=>by rw[h],λh=>zA h⟩
theorem Mw{α:Type}(f:α->Bool)(g:α->D)(h:α->Bool):∀(ms:List α) (m:α),ms.find? f=some m->((ms.filter f).map g)[0]?=some (g m)
 |x::ms,m,e=>by
  rw[List.find?_cons] at e
  cases hx:f x with
  |true =>
   rw[hx] at e;cases e;simp[hx]
  |false =>
   rw[hx] at e;rw[List.filter_cons,hx];exact Mw f g h ms m e
theorem Qw5{O:au}{ps:Tb}{ms:List M3}{c:Int}(k:O[p]?=some (.dt (tab ps)))(l:∀m∈ms,(lk ps m.other).isSome=true)(E:ms.length<=1000)(d:lc ps ms=some c):
  ∃m,ms.find? (λm=>decide (co ps m=lc ps ms))=some m/\m∈ms/\co ps m=some c/\tL [.lst (ms.map d3),.ob p] O=.ok (d3 m) O:=by
 obtain⟨x,B,f⟩:∃x∈ms,co ps x=some c:=by
  rcases wY _ _ _ d with h | h
  ·cases h
  ·exact List.mem_filterMap.mp h
 obtain⟨m,b⟩:∃m,ms.find? (λm=>decide (co ps m=lc ps ms))=some m:=by
  cases e:ms.find? (λm=>decide (co ps m=lc ps ms)) with
  |some m=>exact⟨m,rfl⟩
  |none =>
   have:=List.find?_eq_none.mp e x B
   rw[f,d] at this;simp at this
 have g:=List.mem_of_find?_eq_some b
 have i:co ps m=some c:=by
  have:=List.find?_some b
  rw[<-d];exact jg this
 refine⟨m,b,g,i,?_⟩;have z:aM oA (aj (aa 0) (aj (aa 1) aq)) [some (.lst (ms.map d3)),some (.ob p),none] O=.ok (oD (lc ps ms)) O:=(cV (maS rfl (ma1 rfl))).trans (Mj k l E)
 have F:cT (mgN 0) (aH (ak gEq (aM lg (aj (aa 0) (aj (aa 1) aq))) (aa 2))) (aa 0) (ms.map d3) [none,some (.ob p),some (oD (lc ps ms))] O []=.ok ((ms.filter λm=>decide (co ps m=lc ps ms)).map d3) O:=by
  rw[Mt (λρ=>∃a,ρ=[a,some (.ob p),some (oD (lc ps ms))]) (λm=>decide (co ps m=lc ps ms)) d3 ms _ _ _ ⟨none,rfl⟩ (by
   rintro m' hm' ρ ⟨a,rfl⟩
   exact⟨_,rfl,⟨_,rfl⟩,fJ (bc ((cV (maS rfl (ma1 rfl))).trans (Mh k (l m' hm'))) (y:=oD (lc ps ms)) rfl (by
    rw[show bw O (oD (co ps m'))=oD (co ps m') by cases co ps m'<;>rfl,show bw O (oD (lc ps ms))=oD (lc ps ms) by cases lc ps ms<;>rfl,QuM])),rfl⟩)]
  rw[zM]
 have u:dB (cA (aa 0)) 1 [1,2] (mgN 0) (aH (ak gEq (aM lg (aj (aa 0) (aj (aa 1) aq))) (aa 2))) (aa 0) [some (.lst (ms.map d3)),some (.ob p),some (oD (lc ps ms))] O=.ok (.lst ((ms.filter λm=>decide (co ps m=lc ps ms)).map d3)) O:=jX (g8 rfl) (by rw[zd];omega) rfl F
 have n:ak gIx (dB (cA (aa 0)) 1 [1,2] (mgN 0) (aH (ak gEq (aM lg (aj (aa 0) (aj (aa 1) aq))) (aa 2))) (aa 0)) (mC (.int 0)) [some (.lst (ms.map d3)),some (.ob p),some (oD (lc ps ms))] O=.ok (d3 m) O:=bc u m_c (by
  rw[kO,mJ,mO]
  exact(ou (j:=0)).trans (Mw _ d3 (λ_=>true) ms m b))
 show bI (vX [some (.lst (ms.map d3)),some (.ob p),none] O)=_;unfold vX;rw[sq (bV z),jO];exact congrArg (λr=>bI (mK r)) n
end
def Wy(ps:Tb)(b:Nd->List M3)(a:Nd->Bool):Nd->List M3->Prop
 |n,[]=>a n=true
 |n,m::ms=>a n=false/\(b n).find? (λm=>decide (co ps m=lc ps (b n)))=some m/\Wy ps b a m.other ms
def B_y:MS:=(aB (aF 5 (aM tL (aj (du "Change" "moves_from" jP (mG (aa 0)) (aj (aa 2) aq)) (aj (aa 1) aq))))
  (aB (cM 4 (ak gIx (aa 5) (mC (.int 1))))
  (aF 2 (ak gIx (aa 5) (mC (.int 2))))))
section
variable {t:Nat}{fs:List (Str×D)}{N:Nat}{nodes:Nat->List Nd}{mv:Nd->List M3}{fin:Nd->Bool}{p q:Nat}
theorem QvY(T:Trl t fs N nodes mv fin){ps:Tb}(I:Pri N nodes mv fin 0 ps){O:au}(y:O[t]?=some (.ins "Change" fs))(Q:O[p]?=some (.dt (tab ps)))(g:Option D):∀(k a:Nat) (n:Nd) (c:Int) (nm:List D) (f:Nat) (j:Option D),a+k=N->n∈nodes a->lk ps n=some (some c)->k<f->nm.length+k<1000000 ->
  ∃ms z h,gD (cB (bK (du "Change" "is_end" jQ (mG (aa 0)) (aj (aa 2) aq)))) B_y f [some (.ob t),some (.ob p),some (nN n),g,some (.lst nm),j] O=.nx [some (.ob t),some (.ob p),some (nN z),g,some (.lst (nm++ms.map λm=>.str m.name)),h] O/\Wy ps mv fin n ms/\ms.length<=k:=by
 intro k
 induction k using Nat.strongRecOn with
 | _ k ih =>
  intro a n c nm f j hak l R hf hl;obtain⟨E,rfl⟩:∃E,f=E+1:=⟨f - 1,by omega⟩
  have x:cB (bK (du "Change" "is_end" jQ (mG (aa 0)) (aj (aa 2) aq))) [some (.ob t),some (.ob p),some (nN n),g,some (.lst nm),j] O=.ok (!fin n) O:=by
   rw[sW,sS,(oV rfl y T.u3 (ma1 rfl)).trans (T.ie O a n y (by omega) l),aV,oh,sU,sO,aV]
  cases hfin:fin n with
  |true =>
   rw[hfin] at x;exact⟨[],n,j,by rw[DN x];simp,hfin,Nat.zero_le _⟩
  |false =>
   rw[hfin] at x
   have U:lc ps (mv n)=some c:=by
    have:=I a (Nat.zero_le _) (by omega) n l
    rw[R] at this;have h2:some c=fnl fin (λn=>lc ps (mv n)) n:=zA this;unfold fnl at h2;rw[hfin,if_neg zp] at h2;exact h2.symm
   have B:∀m∈mv n,(lk ps m.other).isSome=true:=λm B=>by
    obtain⟨b,b1,J,F⟩:=T.fw a n (by omega) l m B;rw[I b (Nat.zero_le _) J _ F];rfl
   obtain⟨m,Z,G,i,Y⟩:=Qw5 Q B (T.ml n) U;obtain⟨b,b1,J,F⟩:=T.fw a n (by omega) l m G
   obtain⟨u,H⟩:∃u,lk ps m.other=some (some u):=by
    unfold co at i;split at i
    ·rename_i u e;exact⟨u,e⟩
    ·cases i
   have P:aM tL (aj (du "Change" "moves_from" jP (mG (aa 0)) (aj (aa 2) aq)) (aj (aa 1) aq)) [some (.ob t),some (.ob p),some (nN n),g,some (.lst nm),j] O=.ok (d3 m) O:=(cV (maS ((oV rfl y T.u2 (ma1 rfl)).trans (T.mf O a n y (by omega) l)) (ma1 rfl))).trans Y
   have W:B_y [some (.ob t),some (.ob p),some (nN n),g,some (.lst nm),j] O=.nx [some (.ob t),some (.ob p),some (nN m.other),g,some (.lst (nm++[.str m.name])),some (d3 m)] O:=by
    unfold B_y;rw[sq (bV P)];show aB _ _ [some (.ob t),some (.ob p),some (nN n),g,some (.lst nm),some (d3 m)] O=_;rw[sq (m6 (d:=.str m.name) (ds:=nm) (bc rfl rfl rfl) rfl (by omega))];rfl
   obtain⟨ms,z,h,X,L,l3⟩:=ih (N - b) (by omega) b m.other u (nm++[.str m.name]) E (some (d3 m)) (by omega) F H (by omega) (by rw[zh,je];omega);refine⟨m::ms,z,h,?_,⟨hfin,Z,L⟩,by rw[zC];omega⟩;rw[wX x W,X,zP];rfl
theorem qY(T:Trl t fs N nodes mv fin)(f:∀(a:Nat) (n:Nd),a<=N->n∈nodes a->fin n=false->mv n≠[]){ps:Tb}(u:Pri N nodes mv fin 0 ps):∀(k a:Nat) (n:Nd),a+k=N->n∈nodes a->∃c,lk ps n=some (some c):=by
 intro k
 induction k using Nat.strongRecOn with
 | _ k ih =>
  intro a n B d;have h1:=u a (Nat.zero_le _) (by omega) n d
  cases hfin:fin n with
  |true =>
   refine⟨0,?_⟩;rw[h1];unfold fnl;rw[hfin,if_pos rfl]
  |false =>
   have h2:lk ps n=some (lc ps (mv n)):=by
    rw[h1];unfold fnl;rw[hfin,if_neg zp]
   obtain⟨m,i⟩:=List.exists_mem_of_ne_nil _ (f a n (by omega) d hfin);obtain⟨b,F,E,y⟩:=T.fw a n (by omega) d m i;obtain⟨c,j⟩:=ih (N - b) (by omega) b m.other (by omega) y
   have g:co ps m=some (m.cost+c):=by
    unfold co;rw[j]
   obtain⟨x,h⟩:=Qvm (l:=(mv n).filterMap (co ps)) (λz=>by
    have:=List.mem_filterMap.mpr ⟨m,i,g⟩
    rw[z] at this
    cases this)
   exact⟨x,by rw[h2];exact congrArg some h⟩
theorem Mx(T:Trl t fs N nodes mv fin)(i:∀(a:Nat) (n:Nd),a<=N->n∈nodes a->fin n=false->mv n≠[])(J:N<50){O:au}(k:O[t]?=some (.ins "Change" fs)):
  ∃b ps c ms,vZ [.ob t] O=.ok (.tup [.int c,.lst (ms.map λm=>.str m.name)]) b/\(∀(j:Nat) (x:Ob),O[j]?=some x->b[j]?=some x)/\Pri N nodes mv fin 0 ps/\lk ps (0,0)=some (some c)/\Wy ps mv fin (0,0) ms:=by
 obtain⟨b,ps,F,u,l,g,_⟩:=DP T k;obtain⟨c,f⟩:=qY T i g N 0 (0,0) (zy _) T.f0;have ht':=l t _ k;obtain⟨ms,H,G,h,y,I⟩:=QvY T g ht' u (some (.int c)) N 0 (0,0) c [] 50 none (zy _) T.f0 f (by omega) (by simp;omega);refine⟨b,ps,c,ms,?_,l,g,f,y⟩;have E:aM qy (aj (aa 0) aq) [some (.ob t),none,none,none,none,none] O=.ok (.ob O.length) b:=(cV (ma1 rfl)).trans F;have B:du "Change" "first_node" tO (mG (aa 0)) aq [some (.ob t),some (.ob O.length),none,none,none,none] b=.ok (nN (0,0)) b:=(oV rfl ht' T.u5 rfl).trans (T.fi b ht');have z:dF (aa 1) (aa 2) [some (.ob t),some (.ob O.length),some (nN (0,0)),none,none,none] b=.ok (.int c) b:=qW rfl u rfl f
 unfold B_y at h;rw[zM] at h;show bI (vY [some (.ob t),none,none,none,none,none] O)=_;unfold vY;rw[sq (m8 E)];show bI (aB _ _ [some (.ob t),some (.ob O.length),none,none,none,none] b)=_;rw[sq (bV B)];show bI (aB _ _ [some (.ob t),some (.ob O.length),some (nN (0,0)),none,none,none] b)=_;rw[sq (bV z)];show bI (aB _ _ [some (.ob t),some (.ob O.length),some (nN (0,0)),some (.int c),none,none] b)=_;rw[sq (show aY (aH (jJ (aa 3))) (aZ (mC .non)) bx [some (.ob t),some (.ob O.length),some (nN (0,0)),some (.int c),none,none] b=.nx [some (.ob t),some (.ob O.length),some (nN (0,0)),some (.int c),none,none] b from rfl)]
 rw[sq (bV (d:=.lst []) (lD rfl (Nat.zero_le _)))];show bI (aB (lY 50 _ _) _ [some (.ob t),some (.ob O.length),some (nN (0,0)),some (.int c),some (.lst []),none] b)=_;unfold lY;rw[sq h];rfl
end
theorem Qxt{a b:C}(h:gh (dC a) (dC b)=true):a=b:=by
 have h':((S a.1 == S b.1)&&((S a.2.1 == S b.2.1)&&((S a.2.2 == S b.2.2)&&true)))=true:=h;simp only[zu,Bool.and_true,beq_iff_eq] at h';obtain⟨h1,h2,h3⟩:=h';obtain⟨a1,a2,k⟩:=a;obtain⟨j,i,g⟩:=b;have f:a1=j:=uO h1;have d:a2=i:=uO h2;have c:k=g:=uO h3;rw[f,d,c]
theorem DQ:∀{a b:Row},gh (dRw a) (dRw b)=true->a=b
 | [],[],_=>rfl
 | [],y::b,h=>by cases h
 |x::a,[],h=>by cases h
 |x::a,y::b,h=>by
  have h':(gh (dC x) (dC y)&&gh (dRw a) (dRw b))=true:=h;rw[zu] at h';rw[Qxt h'.1,DQ h'.2]
def lH:List Nat:=[112,97,115,115]
def ig:List Nat:=[98,101,103,105,110]
def kOn:List Nat:=[111,110]
def ndC(a:Nat):List Nd:=[((a:Int),0),((a:Int),1)]
def mvC(r:Row)(bs:List Row)(n:Nd):List M3:=match(sps 0 bs)[n.1.toNat]? with
 |none=>[]
 |some p=>(if alk r bs.flatten p=true then[⟨0,lH,(n.1+1,0)⟩] else[])++[if n.2=0 then⟨4+(p.2:Int),ig,(n.1+1,1)⟩ else⟨(p.2:Int),kOn,(n.1+1,1)⟩]
def fnC(bs:List Row)(n:Nd):Bool:=decide (n.1=(bs.length:Int))
theorem oY{a:Nat}{n:Nd}(h:n∈ndC a):∃s:Nat,n=((a:Int),(s:Int))/\(s=0\/s=1):=by
 unfold ndC at h
 rcases zm.mp h with rfl | h
 ·exact⟨0,rfl,.inl rfl⟩
 ·rw[zk.mp h];exact⟨1,rfl,.inr rfl⟩
theorem lJ(a:Nat){s:Int}(h:s=0\/s=1):((a:Int),s)∈ndC a:=by
 unfold ndC
 rcases h with rfl | rfl<;>simp
theorem Mz(r:Row)(bs:List Row)(a s:Nat):(mvC r bs ((a:Int),(s:Int))).map d3=mvs r bs a s:=by
 unfold mvC mvs;rw[show(((a:Int),(s:Int)):Nd).1.toNat=a from Int.toNat_natCast a]
 cases(sps 0 bs)[a]? with
 |none=>rfl
 |some p =>
  dsimp only;rw[zG];unfold mvL mvW;congr 1
  ·split<;>rfl
  ·by_cases b:s=0
   ·subst b;rfl
   ·rw[if_neg b,if_neg (by omega)];rfl
theorem QrD{bs:List Row}{a:Nat}(h:bs.length<=a):(sps 0 bs)[a]?=none:=zV (by rw[iG];exact h)
theorem MF{bs:List Row}{a:Nat}(h:a<bs.length):∃p,(sps 0 bs)[a]?=some p:=⟨_,zj (by rw[iG];exact h)⟩
theorem DR{r:Row}{bs:List Row}{a s:Nat}{m:M3}(h:m∈mvC r bs ((a:Int),(s:Int))):a<bs.length/\∃p,(sps 0 bs)[a]?=some p/\((m.name=lH/\alk r bs.flatten p=true/\m.other=((a:Int)+1,0))\/(m.name=ig/\s=0/\m.other=((a:Int)+1,1))\/(m.name=kOn/\s≠0/\m.other=((a:Int)+1,1))):=by
 unfold mvC at h;rw[show(((a:Int),(s:Int)):Nd).1.toNat=a from Int.toNat_natCast a] at h
 cases hp:(sps 0 bs)[a]? with
 |none=>rw[hp] at h;cases h
 |some p =>
  rw[hp] at h;have c:=(zg.mp hp).1;rw[iG] at c;refine⟨c,p,rfl,?_⟩;dsimp only at h
  rcases zz.mp h with h | h
  ·split at h
   ·rename_i d;rw[zk.mp h];exact .inl ⟨rfl,d,rfl⟩
   ·cases h
  ·rw[zk.mp h]
   by_cases b:s=0
   ·subst b;exact .inr (.inl ⟨rfl,rfl,rfl⟩)
   ·rw[if_neg (by omega)];exact .inr (.inr ⟨rfl,b,rfl⟩)
theorem trC{r:Row}{bs:List Row}(d:∀b∈bs,Bl b)(y:bs.flatten.length<=40)(j:ROk r)(k:ROk bs.flatten)(t:Nat):Trl t (fs2 r bs) bs.length ndC (mvC r bs) (fnC bs):=by
 have g:∀O:au,O[t]?=some (.ins "Change" (fs2 r bs))->Tr O t r bs:=λO h=>⟨h,d,by omega,j,k⟩
 have bl:=um d;refine⟨λO a h f=>ZL a,λO a n h f c=>?_,λO a n h f c=>?_,λO h=>ZM (g O h),λO h=>ZK,by simp[ndC],λa=>by simp[ndC],λa=>by simp[ndC],λa n f c m l=>?_,λa b n h1 h2=>?_,λn=>?_,λn c=>?_,rfl,rfl,rfl,rfl,rfl,by omega⟩
 ·obtain⟨s,rfl,i⟩:=oY c;rw[Mz];exact ZQ (g O h) a s f
 ·obtain⟨s,rfl,i⟩:=oY c;exact ZP (g O h) a s
 ·obtain⟨s,rfl,i⟩:=oY c;obtain⟨h1,p,_,h2⟩:=DR l;refine⟨a+1,by omega,h1,?_⟩
  rcases h2 with⟨_,_,h2⟩ | ⟨_,_,h2⟩ | ⟨_,_,h2⟩
  all_goals rw[h2];exact lJ (a+1) (by simp)
 ·obtain⟨s,rfl,i⟩:=oY h1;obtain⟨x,e,u⟩:=oY h2
  have:=congrArg Prod.fst e
  have z:(a:Int)=(b:Int):=this;omega
 ·unfold mvC
  split
  ·simp
  ·rw[zh]
   split<;>simp
 ·unfold fnC at c;have hn':=jg c;unfold mvC;rw[hn',Int.toNat_natCast,QrD (zc _)]
theorem neC(r:Row)(bs:List Row):∀(a:Nat) (n:Nd),a<=bs.length->n∈ndC a->fnC bs n=false->mvC r bs n≠[]:=λa n g c d=>by
 obtain⟨s,rfl,f⟩:=oY c;have hf':=of_decide_eq_false d
 obtain⟨p,b⟩:=MF (bs:=bs) (a:=a) (by
  have:¬((a:Int)=(bs.length:Int)):=hf'
  omega)
 unfold mvC;rw[show(((a:Int),(s:Int)):Nd).1.toNat=a from Int.toNat_natCast a,b];simp
section
variable {N:Nat}{nodes:Nat->List Nd}{mv:Nd->List M3}{fin:Nd->Bool}
theorem MJ(fw:∀(a:Nat) (n:Nd),a<=N->n∈nodes a->∀m∈mv n,∃b,a<b/\b<=N/\m.other∈nodes b){ps c:Tb}(h:Pri N nodes mv fin 0 ps)(h':Pri N nodes mv fin 0 c):∀(k a:Nat) (n:Nd),a+k=N->n∈nodes a->lk c n=lk ps n:=by
 intro k
 induction k using Nat.strongRecOn with
 | _ k ih =>
  intro a n i d;rw[h a (Nat.zero_le _) (by omega) n d,h' a (Nat.zero_le _) (by omega) n d];show some (if fin n=true then some 0 else lc c (mv n))=some (if fin n=true then some 0 else lc ps (mv n))
  rw[wW λm f=>by
   obtain⟨b,l,j,g⟩:=fw a n (by omega) d m f
   exact ih (N - b) (by omega) b m.other (by omega) g]
theorem MK{α:Type}{f g:α->Bool}:∀{l:List α},(∀x∈l,f x=g x)->l.find? f=l.find? g
 | [],_=>rfl
 |x::l,h=>by
  rw[List.find?_cons,List.find?_cons,h x zo,MK λy a=>h y (zv _ a)]
theorem MN(fw:∀(a:Nat) (n:Nd),a<=N->n∈nodes a->∀m∈mv n,∃b,a<b/\b<=N/\m.other∈nodes b){ps d:Tb}(h:Pri N nodes mv fin 0 ps)(h':Pri N nodes mv fin 0 d):∀(ms c:List M3) (a:Nat) (n:Nd),a<=N->n∈nodes a->Wy ps mv fin n ms->Wy d mv fin n c->c=ms
 | [],[],_,_,_,_,_,_=>rfl
 | [],m::ms,_,n,_,_,w,w'=>by
  have f:fin n=true:=w;have z:=w'.1;rw[f] at z;cases z
 |m::ms,[],_,n,_,_,w,w'=>by
  have f:fin n=true:=w';have z:=w.1;rw[f] at z;cases z
 |m::ms,m'::c,a,n,ha,hn,w,w'=>by
  have k:∀x∈mv n,lk d x.other=lk ps x.other:=λx i=>by
   obtain⟨b,u,l,j⟩:=fw a n ha hn x i;exact MJ fw h h' (N - b) b x.other (by omega) j
  have e:=w'.2.1
  rw[MK (g:=λm=>decide (co ps m=lc ps (mv n))) λx i=>by
   rw[wW k];unfold co
   rw[k x i],w.2.1] at e
  cases e;obtain⟨b,u,l,j⟩:=fw a n ha hn m (List.mem_of_find?_eq_some w.2.1);rw[MN fw h h' ms c b m.other l j w.2.2 w'.2.2]
end
abbrev Sg:=Nat×Row
def exl(V:List Sg)(a:Row):List Sg:=match V.getLast? with
 |some x=>V.dropLast++[(x.1,x.2++a)]
 |none=>V
def stV(q:Row)(V:List Sg)(nm:List Nat)(p:Nat×Nat):List Sg:=if nm=lH then V else if nm=ig then V++[(p.1,seg q p)] else exl V (seg q p)
def rnV(q:Row):List Sg->List (List Nat)->List (Nat×Nat)->List Sg
 |V,nm::ns,p::ps=>rnV q (stV q V nm p) ns ps
 |V,_,_=>V
structure StV(r q:Row)(pos s:Nat)(V:List Sg):Prop where
 inn:∀x∈V,x.1+x.2.length<=pos/\x.2=seg q (x.1,x.2.length)
 cov:∀i,i<pos->(∃x∈V,x.1<=i/\i<x.1+x.2.length)\/r[i]?=q[i]?
 on:s=1->∃V' x,V=V'++[x]/\x.1+x.2.length=pos
theorem DW{q:Row}{a b:Nat}(h:a+b<=q.length):(seg q (a,b)).length=b:=by
 show((q.drop a).take b).length=b;rw[List.length_take,List.length_drop];omega
theorem DX{q:Row}{a b i:Nat}(h1:a<=i)(h2:i<a+b):(seg q (a,b))[i - a]?=q[i]?:=by
 show((q.drop a).take b)[i - a]?=_;rw[List.getElem?_take,if_pos (by omega),List.getElem?_drop];congr 1;omega
theorem QtM(q:Row)(a b c:Nat):seg q (a,b)++seg q (a+b,c)=seg q (a,b+c):=by
 show(q.drop a).take b++(q.drop (a+b)).take c=(q.drop a).take (b+c);rw[List.take_add,List.drop_drop]
theorem ur(V:List Sg)(x:Sg)(a:Row):exl (V++[x]) a=V++[(x.1,x.2++a)]:=by
 unfold exl;simp
section
variable {r q:Row}{pos len s:Nat}{V:List Sg}
theorem StV.pass(h:StV r q pos s V)(f:alk r q (pos,len)=true):StV r q (pos+len) 0 V:=by
 have e:=DQ f;refine⟨λx c=>⟨zH (h.inn x c).1 (zZ _ _),(h.inn x c).2⟩,λi hi=>?_,λz=>nomatch z⟩
 by_cases d:i<pos
 ·exact h.cov i d
 ·refine .inr ?_;rw[<-DX (q:=r) (a:=pos) (b:=len) (by omega) hi,e,DX (by omega) hi]
theorem StV.begn(h:StV r q pos s V)(d:pos+len<=q.length):StV r q (pos+len) 1 (V++[(pos,seg q (pos,len))]):=by
 have sl:=DW d;refine⟨λx a=>?_,λi hi=>?_,λ_=>⟨V,_,rfl,by rw[sl]⟩⟩
 ·rcases zz.mp a with a | a
  ·exact⟨zH (h.inn x a).1 (zZ _ _),(h.inn x a).2⟩
  ·rw[zk.mp a];dsimp only;rw[sl];exact⟨zc _,rfl⟩
 ·by_cases c:i<pos
  ·rcases h.cov i c with⟨x,a,b⟩ | b
   ·exact .inl ⟨x,zY _ a,b⟩
   ·exact .inr b
  ·exact .inl ⟨_,zI _ (zk.mpr rfl),by dsimp only;omega,by dsimp only;rw[sl];exact hi⟩
theorem StV.onn(h:StV r q pos 1 V)(k:pos+len<=q.length):StV r q (pos+len) 1 (exl V (seg q (pos,len)))/\∃d x,V=d++[x]:=by
 obtain⟨d,x,rfl,g⟩:=h.on rfl;refine⟨?_,d,x,rfl⟩;rw[ur];have sl:=DW k;have f:=(h.inn x (zI _ (zk.mpr rfl))).2
 have c:(x.2++seg q (pos,len)).length=x.2.length+len:=by rw[zh,sl]
 refine⟨λy a=>?_,λi hi=>?_,λ_=>⟨d,_,rfl,by dsimp only;rw[c];omega⟩⟩
 ·rcases zz.mp a with a | a
  ·exact⟨zH (h.inn y (zY _ a)).1 (zZ _ _),(h.inn y (zY _ a)).2⟩
  ·rw[zk.mp a];dsimp only;rw[c];refine⟨by omega,?_⟩;rw[<-QtM,g,<-f]
 ·by_cases j:i<pos
  ·rcases h.cov i j with⟨y,a,b⟩ | b
   ·rcases zz.mp a with a | a
    ·exact .inl ⟨y,zY _ a,b⟩
    ·rw[zk.mp a] at b;exact .inl ⟨_,zI _ (zk.mpr rfl),b.1,by dsimp only;rw[c];omega⟩
   ·exact .inr b
  ·exact .inl ⟨_,zI _ (zk.mpr rfl),by dsimp only;omega,by dsimp only;rw[c];omega⟩
end
abbrev Wr:=Nat×Nat×Row
def dH(x:Wr)(n:Nat):D:=.tup [.int (x.1:Int),.int (x.2.1:Int),.ob n]
def wO(x:Wr):Ob:=bJ x.2.2
def wr(pl:Nat)(x:Sg):Wr:=(pl,x.1,x.2)
def HW(O:au):List Wr->List Nat->Prop
 | [],[]=>True
 |x::W,n::ns=>O[n]?=some (wO x)/\HW O W ns
 | _,_=>False
def hT:List Wr->List Nat->List D
 |x::W,n::ns=>dH x n::hT W ns
 | _,_=>[]
theorem qZ{O a:au}:∀{W:List Wr}{ns:List Nat},(∀n∈ns,a[n]?=O[n]?)->HW O W ns->HW a W ns
 | [],[],_,_=>trivial
 |x::W,n::ns,k,h=>⟨(k n zo).trans h.1,qZ (λm b=>k m (zv _ b)) h.2⟩
 | [],_::_,_,h=>h.elim
 | _::_,[],_,h=>h.elim
theorem wZ{O:au}{W':List Wr}{ns':List Nat}(h':HW O W' ns'):∀{W:List Wr}{ns:List Nat},HW O W ns->HW O (W++W') (ns++ns')/\hT (W++W') (ns++ns')=hT W ns++hT W' ns'
 | [],[],_=>⟨h',rfl⟩
 |x::W,n::ns,h=>by
  obtain⟨a,b⟩:=wZ h' h.2;exact⟨⟨h.1,a⟩,congrArg (dH x n :: ·) b⟩
 | [],_::_,h=>h.elim
 | _::_,[],h=>h.elim
theorem MP{O:au}:∀{W:List Wr}{x:Wr}{ns:List Nat},HW O (W++[x]) ns->∃ms n,ns=ms++[n]/\HW O W ms/\O[n]?=some (wO x)/\hT (W++[x]) ns=hT W ms++[dH x n]
 | [],x,[n],h=>⟨[],n,rfl,trivial,h.1,rfl⟩
 | [],x,n::m::ns,h=>h.2.elim
 | [],x,[],h=>h.elim
 |y::W,x,n::ns,h=>by
  obtain⟨ms,k,rfl,h1,h2,h3⟩:=MP h.2;exact⟨n::ms,k,rfl,⟨h.1,h1⟩,h2,congrArg (dH y n :: ·) h3⟩
 |y::W,x,[],h=>h.elim
theorem lK{O:au}:∀{W:List Wr}{ns:List Nat},HW O W ns->(∀n∈ns,n<O.length)/\ns.length=W.length/\(hT W ns).length=W.length
 | [],[],_=>⟨λn f=>(nomatch f),rfl,rfl⟩
 |x::W,n::ns,h=>by
  obtain⟨a,b,c⟩:=lK h.2;refine⟨λm d=>?_,by simp[b],by simp[hT,c]⟩
  rcases zm.mp d with rfl | d
  ·exact(zg.mp h.1).1
  ·exact a m d
 | [],_::_,h=>h.elim
 | _::_,[],h=>h.elim
def lL:MS:=(aB (aY (aH (ak gEq (aa 5) (mC (.str [98,101,103,105,110])))) (cM 4 (bA (aj (mG (aa 0)) (aj (ak gIx (aa 6) (mC (.int 0))) (aj (mMl (bF aq)) aq))))) bx)
  (aY (aH (ak gNe (aa 5) (mC (.str [112,97,115,115])))) (qe (ak gIx (ak gIx (aa 4) (mUn f9 (mC (.int 1)))) (mC (.int 2))) (mSl (aa 2) (moS (ak gIx (aa 6) (mC (.int 0)))) (moS (ak gIx (aa 6) (mC (.int 1)))))) bx))
def eR(pl:Nat)(d e nm:D)(T:List D)(b a:Option D):aA:=[some (.int (pl:Int)),some d,some e,some nm,some (.lst T),b,a]
def Agr(O a:au):Prop:=∀j,j<O.length->a[j]?=O[j]?
theorem Is.agr{O b:au}{d:D}{r:Row}(h:Is O d r)(a:Agr O b):Is b d r:=by
 rcases h with h | ⟨n,h1,h2⟩
 ·exact .inl h
 ·exact .inr ⟨n,h1,(a n (zg.mp h2).1).trans h2⟩
theorem Qsg(n:Nat):ixN (n+1) (-1)=some n:=by
 unfold ixN;rw[if_neg (by decide),if_pos (by omega)];congr 1;omega
theorem Qv8(T:List D)(d:D):gIx (.lst (T++[d])) (.int (-1))=some d:=by
 rw[mO];unfold atI;rw[show(T++[d]).length=T.length+1 by simp,Qsg];simp
section
variable {pl:Nat}{d e nm:D}{q:Row}{O:au}
theorem MT{T:List D}{x:Wr}{n:Nat}{p:Nat×Nat}{k:List Nat}(b:Is O e q)(a:O[n]?=some (wO x))(g:x.2.2.length+q.length<=100000):
  qe (ak gIx (ak gIx (aa 4) (mUn f9 (mC (.int 1)))) (mC (.int 2))) (mSl (aa 2) (moS (ak gIx (aa 6) (mC (.int 0)))) (moS (ak gIx (aa 6) (mC (.int 1))))) (eR pl d e nm (T++[dH x n]) (some (.str k)) (some (dZ p))) O=.nx (eR pl d e nm (T++[dH x n]) (some (.str k)) (some (dZ p))) (O.set n (bJ (x.2.2++seg q p))):=by
 have f:ak gIx (ak gIx (aa 4) (mUn f9 (mC (.int 1)))) (mC (.int 2)) (eR pl d e nm (T++[dH x n]) (some (.str k)) (some (dZ p))) O=.ok (.ob n) O:=bc (x:=dH x n) (bc (x:=.lst (T++[dH x n])) (y:=.int (-1)) rfl rfl (Qv8 T _)) m_c rfl;have c:mSl (aa 2) (moS (ak gIx (aa 6) (mC (.int 0)))) (moS (ak gIx (aa 6) (mC (.int 1)))) (eR pl d e nm (T++[dH x n]) (some (.str k)) (some (dZ p))) O=.ok (dRw (seg q p)) O:=slD (d:=e) rfl b.de (bc (x:=dZ p) rfl rfl rfl) (bc (x:=dZ p) rfl rfl rfl)
 have sl:(seg q p).length<=q.length:=by
  unfold seg;rw[List.length_take,List.length_drop];omega
 have hn':O[n]?=some (.ml (x.2.2.map dC)):=a;unfold qe;rw[f];dsimp only;rw[hn'];dsimp only;rw[c];dsimp only;rw[hn'];show(if(x.2.2.map dC).length+((seg q p).map dC).length<=1000000 then _ else _)=_;rw[if_pos (by rw[zd,zd];omega),<-zG];rfl
theorem Qtl{T:List D}{p:Nat×Nat}:lL (eR pl d e nm T (some (.str lH)) (some (dZ p))) O=.nx (eR pl d e nm T (some (.str lH)) (some (dZ p))) O:=rfl
theorem QwX{T:List D}{x:Wr}{n:Nat}{p:Nat×Nat}(c:Is O e q)(a:O[n]?=some (wO x))(b:x.2.2.length+q.length<=100000):lL (eR pl d e nm (T++[dH x n]) (some (.str kOn)) (some (dZ p))) O=.nx (eR pl d e nm (T++[dH x n]) (some (.str kOn)) (some (dZ p))) (O.set n (bJ (x.2.2++seg q p))):=MT c a b
theorem QrL{T:List D}{p:Nat×Nat}(f:Is O e q)(h:q.length<=1000)(hT:T.length<100000):lL (eR pl d e nm T (some (.str ig)) (some (dZ p))) O=.nx (eR pl d e nm (T++[dH (pl,p.1,seg q p) O.length]) (some (.str ig)) (some (dZ p))) (O++[bJ (seg q p)]):=by
 have g:bA (aj (mG (aa 0)) (aj (ak gIx (aa 6) (mC (.int 0))) (aj (mMl (bF aq)) aq))) (eR pl d e nm T (some (.str ig)) (some (dZ p))) O=.ok (dH (pl,p.1,[]) O.length) (O++[Ob.ml []]):=rfl
 have c:cM 4 (bA (aj (mG (aa 0)) (aj (ak gIx (aa 6) (mC (.int 0))) (aj (mMl (bF aq)) aq)))) (eR pl d e nm T (some (.str ig)) (some (dZ p))) O=.nx (eR pl d e nm (T++[dH (pl,p.1,[]) O.length]) (some (.str ig)) (some (dZ p))) (O++[Ob.ml []]):=by
  rw[Jv,g,Jw (ds:=T) rfl (by omega)];rfl
 have x:=MT (pl:=pl) (d:=d) (nm:=nm) (O:=O++[Ob.ml []]) (T:=T) (x:=(pl,p.1,[])) (n:=O.length) (p:=p) (k:=ig) (f.app _) (by simp[wO,bJ]) (by simp;omega);have b:aH (ak gEq (aa 5) (mC (.str [98,101,103,105,110]))) (eR pl d e nm T (some (.str ig)) (some (dZ p))) O=.ok true O:=rfl;have a:aH (ak gNe (aa 5) (mC (.str [112,97,115,115]))) (eR pl d e nm (T++[dH (pl,p.1,[]) O.length]) (some (.str ig)) (some (dZ p))) (O++[Ob.ml []])=.ok true (O++[Ob.ml []]):=rfl;unfold lL;rw[bh,dG b,c,bj,dG a,x,zM,List.set_append_right _ _ (zc _),Nat.sub_self];rfl
end
theorem DY:∀(k:Nat) (done:List Row) (b:Row) (rest:List Row),(sps k (done++b::rest))[done.length]?=some (k+done.flatten.length,b.length)
 |k,[],b,rest=>rfl
 |k,a::done,b,rest=>by
  show(sps (k+a.length) (done++b::rest))[done.length]?=_;rw[DY,List.flatten_cons,zh,Nat.add_assoc]
def gz:MG:=dM 2 (bC (mgN 5) (bC (mgN 6) dU))
def RwO(pl:Nat)(d e nm:D)(r q:Row)(c:au)(L:List D)(ρ:aA)(O:au)(V:List Sg):Prop:=∃b a g f,dO gz lL L ρ O=.nx (eR pl d e nm (hT (V.map (wr pl)) a) g f) b/\(∃h,StV r q q.length h V)/\HW b (V.map (wr pl)) a/\a.Nodup/\(∀n∈a,c.length<=n)/\Agr c b/\c.length<=b.length
theorem M4{pl:Nat}{d e nm:D}{r:Row}{bs:List Row}(hbs:bs.length<=100)(hq:bs.flatten.length<=100){h:au}(Z:Is h e bs.flatten){ps:Tb}:∀(rest done:List Row) (s:Nat) (ms:List M3) (O:au) (V:List Sg) (ns:List Nat) (F E:Option D),bs=done++rest->(s=0\/s=1)->Wy ps (mvC r bs) (fnC bs) ((done.length:Int),(s:Int)) ms->StV r bs.flatten done.flatten.length s V->HW O (V.map (wr pl)) ns->ns.Nodup->(∀n∈ns,h.length<=n)->Agr h O->h.length<=O.length->V.length<=done.length ->
  RwO pl d e nm r bs.flatten h (eO (ms.map λm=>.str m.name) ((sps done.flatten.length rest).map dZ)) (eR pl d e nm (hT (V.map (wr pl)) ns) F E) O (rnV bs.flatten V (ms.map (·.name)) (sps done.flatten.length rest))
 | [],done,s,ms,O,V,ns,F,E,l,hs,w,st,hw,f,hlb,ag,hO,hV=>by
  rw[zT] at l;subst l
  have e0:eO (ms.map λm=>D.str m.name) ((sps bs.flatten.length []).map dZ)=[]:=by cases ms<;>rfl
  have e1:rnV bs.flatten V (ms.map (·.name)) (sps bs.flatten.length [])=V:=by cases ms<;>rfl
  rw[e0,e1];exact⟨O,ns,F,E,rfl,⟨s,st⟩,hw,f,hlb,ag,hO⟩
 |b::rest,done,s,ms,O,V,ns,F,E,l,hs,w,st,hw,f,hlb,ag,hO,hV=>by
  have hp:(sps 0 bs)[done.length]?=some (done.flatten.length,b.length):=by rw[l,DY,zy]
  have X:done.flatten.length+b.length<=bs.flatten.length:=by rw[l,jm,List.flatten_cons,zh,zh];omega
  have hbl:done.length<bs.length:=by rw[l,zh,zC];omega
  cases ms with
  |nil =>
   have:=jg (show fnC bs ((done.length:Int),(s:Int))=true from w)
   have z:(done.length:Int)=(bs.length:Int):=this;omega
  |cons m ms =>
   obtain⟨_,w2,w3⟩:=w;obtain⟨_,p,L,W⟩:=DR (List.mem_of_find?_eq_some w2);rw[hp] at L;cases L
   have hb':bs=(done++[b])++rest:=by rw[zP];exact l
   have fl:(done++[b]).flatten.length=done.flatten.length+b.length:=by rw[jm,List.flatten_singleton,zh]
   have dl:(done++[b]).length=done.length+1:=by rw[zh];rfl
   have hsg:(seg bs.flatten (done.flatten.length,b.length)).length<=100:=by rw[DW X];omega
   have go:∀(B:Nat) (G:au) (c:List Nat) (k:List Sg),stV bs.flatten V m.name (done.flatten.length,b.length)=k->(B=0\/B=1)->m.other=((done.length:Int)+1,(B:Int))->StV r bs.flatten (done.flatten.length+b.length) B k->HW G (k.map (wr pl)) c->c.Nodup->(∀n∈c,h.length<=n)->Agr h G->h.length<=G.length->k.length<=done.length+1->lL (eR pl d e nm (hT (V.map (wr pl)) ns) (some (.str m.name)) (some (dZ (done.flatten.length,b.length)))) O=.nx (eR pl d e nm (hT (k.map (wr pl)) c) (some (.str m.name)) (some (dZ (done.flatten.length,b.length)))) G ->
     RwO pl d e nm r bs.flatten h (eO ((m::ms).map λm=>.str m.name) ((sps done.flatten.length (b::rest)).map dZ)) (eR pl d e nm (hT (V.map (wr pl)) ns) F E) O (rnV bs.flatten V ((m::ms).map (·.name)) (sps done.flatten.length (b::rest))):=λB G c k eV hs' hmo i g Q R ag1 hO1 hV1 J=>by
    have ih:=M4 (pl:=pl) (d:=d) (nm:=nm) (r:=r) hbs hq Z (ps:=ps) rest (done++[b]) B ms G k c (some (.str m.name)) (some (dZ (done.flatten.length,b.length))) hb' hs' (by rw[hmo] at w3;rw[dl];exact w3) (by rw[fl];exact i) g Q R ag1 hO1 (by rw[dl];exact hV1);rw[fl] at ih
    have er:rnV bs.flatten V ((m::ms).map (·.name)) (sps done.flatten.length (b::rest))=rnV bs.flatten k (ms.map (·.name)) (sps (done.flatten.length+b.length) rest):=by
     rw[<-eV];rfl
    rw[er];obtain⟨O',ns',a5',a6',e1,r1⟩:=ih;refine⟨O',ns',a5',a6',?_,r1⟩;show dO gz lL (.tup [.str m.name,dZ (done.flatten.length,b.length)]::eO (ms.map λm=>.str m.name) ((sps (done.flatten.length+b.length) rest).map dZ)) _ O=_;unfold dO;rw[show gz (.tup [.str m.name,dZ (done.flatten.length,b.length)]) (eR pl d e nm (hT (V.map (wr pl)) ns) F E)=some (eR pl d e nm (hT (V.map (wr pl)) ns) (some (.str m.name)) (some (dZ (done.flatten.length,b.length)))) from rfl];dsimp only;rw[J];exact e1
   have u:=lK hw
   rcases W with⟨a,ha,I⟩ | ⟨a,hs0,I⟩ | ⟨a,hs1,I⟩
   ·refine go 0 O ns V (by rw[a];rfl) (.inl rfl) I (st.pass ha) hw f hlb ag hO (by omega) ?_;rw[a];exact Qtl
   ·have g:HW (O++[bJ (seg bs.flatten (done.flatten.length,b.length))]) (V.map (wr pl)) ns:=qZ (λn a=>zx (u.1 n a)) hw;obtain⟨h1,h2⟩:=wZ (W':=[wr pl (done.flatten.length,seg bs.flatten (done.flatten.length,b.length))]) (ns':=[O.length]) ⟨by simp[wO,wr],trivial⟩ g;refine go 1 (O++[bJ (seg bs.flatten (done.flatten.length,b.length))]) (ns++[O.length]) (V++[(done.flatten.length,seg bs.flatten (done.flatten.length,b.length))]) (by rw[a];rfl) (.inr rfl) I (st.begn X) (by rw[zG];exact h1) (jb.mpr ⟨f,by simp,λx hx y hy z=>by rw[zk.mp hy] at z;have:=u.1 x hx;omega⟩) (λn a=>?_) (λj Y=>(zx (by omega)).trans (ag j Y)) (by simp;omega) (by simp;omega) ?_
    ·rcases zz.mp a with a | a
     ·exact hlb n a
     ·rw[zk.mp a];exact hO
    ·have J:=QrL (pl:=pl) (d:=d) (nm:=nm) (T:=hT (V.map (wr pl)) ns) (p:=(done.flatten.length,b.length)) (Z.agr ag) (by omega) (by rw[u.2.2,zd];omega);rw[a,J,zG];refine congrArg (λT=>Fl.nx (eR pl d e nm T _ _) _) ?_;exact h2.symm
   ·obtain rfl:s=1:=by omega
    obtain⟨i,U,x,rfl⟩:=st.onn X;rw[ur] at i;rw[zG] at hw;obtain⟨H,n,rfl,g,P,hT1⟩:=MP hw;have hnd':=jb.mp f
    have nk:n∉H:=λz=>hnd'.2.2 n z n (zk.mpr rfl) rfl
    have nO:=hlb n (zI _ (zk.mpr rfl));obtain⟨h1,h2⟩:=wZ (O:=O.set n (bJ (x.2++seg bs.flatten (done.flatten.length,b.length)))) (W':=[wr pl (x.1,x.2++seg bs.flatten (done.flatten.length,b.length))]) (ns':=[n]) ⟨qX P,trivial⟩ (qZ (λm W=>zw (λz:n=m=>nk (by rw[z];exact W))) g)
    have xl:x.2.length<=100:=by
     have:=(st.inn x (zI _ (zk.mpr rfl))).1
     omega
    refine go 1 (O.set n (bJ (x.2++seg bs.flatten (done.flatten.length,b.length)))) (H++[n]) (U++[(x.1,x.2++seg bs.flatten (done.flatten.length,b.length))]) (by rw[a];exact ur _ _ _) (.inr rfl) I i (by rw[zG];exact h1) f hlb (λj Y=>(zw (by omega)).trans (ag j Y)) (by rw[zU];exact hO) (by rw[zh] at hV ⊢;simp at hV ⊢;omega) ?_;have J:=QwX (pl:=pl) (d:=d) (nm:=nm) (T:=hT (U.map (wr pl)) H) (x:=wr pl x) (n:=n) (p:=(done.flatten.length,b.length)) (Z.agr ag) P (by show x.2.length+_<=_;omega);rw[zG,zG];show lL (eR pl d e nm (hT (U.map (wr pl)++[wr pl x]) (H++[n])) _ _) O=.nx (eR pl d e nm (hT (U.map (wr pl)++[wr pl (x.1,x.2++seg bs.flatten (done.flatten.length,b.length))]) (H++[n])) _ _) _
    rw[hT1,a,J,h2];rfl
theorem M5{n:Nat}{all:List D}{g:MG}{b:MS}(j:Nat->aA->au->Prop)(u:∀k ρ O,j k ρ O->O[n]?=some (.ml all))
  (y:∀i d ρ O,all[i]?=some d->j i ρ O->∃f,g (.tup [.int (i:Int),d]) ρ=some f/\∃a l,b f O=.nx a l/\j (i+1) a l):∀(ds:List D) (k:Nat) (ρ:aA) (O:au),k+ds.length=all.length->j k ρ O->∃c m,jz n all g b ds ρ O=.nx c m/\j all.length c m
 | [],k,ρ,O,hk,h=>by
  rw[jn,Nat.add_zero] at hk;refine⟨ρ,O,?_,hk ▸ h⟩;unfold jz;rw[u k ρ O h];dsimp only;rw[if_pos rfl]
 |d::ds,k,ρ,O,hk,h=>by
  rw[zC] at hk
  have hi:all.length - (ds.length+1)=k:=by omega
  have x:all[k]?=some (all[k]'(by omega)):=zj _;obtain⟨f,E,a,l,B,h2⟩:=y k _ ρ O x h;obtain⟨c,m,z,h3⟩:=M5 j u y ds (k+1) a l (by omega) h2;refine⟨c,m,?_,h3⟩;unfold jz;rw[u k ρ O h];dsimp only;rw[hi,x];dsimp only;rw[E];dsimp only;rw[B];exact z
def Way(r q:Row)(V:List Sg):Prop:=∃bs a c d,(∀b∈bs,Bl b)/\q=bs.flatten/\Pri bs.length ndC (mvC r bs) (fnC bs) 0 a/\lk a (0,0)=some (some c)/\Wy a (mvC r bs) (fnC bs) (0,0) d/\V=rnV q [] (d.map (·.name)) (sps 0 bs)
theorem uv{r q:Row}(y:ROk r)(B:ROk q)(Q:Wf q)(F:q.length<=40):∃V:List Sg,((∃s,StV r q q.length s V)/\Way r q V)/\V.length<=40/\∀(pl:Nat) (O:au) (d e:D),Is O d r->Is O e q ->
  ∃k ns,wk [.int (pl:Int),d,e] O=.ok (.lst (hT (V.map (wr pl)) ns)) k/\HW k (V.map (wr pl)) ns/\ns.Nodup/\(∀n∈ns,O.length<=n)/\Agr O k/\O.length<=k.length:=by
 obtain⟨bs,b,rfl⟩:=Q;have bl:=um b;obtain⟨_,I,c0,f,_,_,u,J,E⟩:=Mx (trC b F y B 0) (neC r bs) (by omega) (O:=[.ins "Change" (fs2 r bs)]) rfl
 have main:∀(pl:Nat) (O:au) (d e nm:D),Is O e bs.flatten->∀a:au,Agr O a->O.length<=a.length->RwO pl d e nm r bs.flatten O (eO (f.map λm=>.str m.name) ((sps 0 bs).map dZ)) (eR pl d e nm [] none none) a (rnV bs.flatten [] (f.map (·.name)) (sps 0 bs)):=λpl O d e nm l a ag G =>
  M4 (by omega) (by omega) l bs [] 0 f a [] [] none none rfl (.inl rfl) E ⟨λx W=>(nomatch W),λi hi=>absurd hi (Nat.not_lt_zero _),λz=>(nomatch z)⟩ trivial List.nodup_nil (λn X=>(nomatch X)) ag G (zc _)
 obtain⟨_,_,_,_,_,R,_⟩:=main 0 [] (.lst (bs.flatten.map dC)) (.lst (bs.flatten.map dC)) .non (.inl rfl) [] (λ_ _=>rfl) (zc _)
 have U:∀(ns:List (List Nat)) (V:List Sg) (g:List (Nat×Nat)),(rnV bs.flatten V ns g).length<=V.length+g.length:=by
  intro ns
  induction ns with
  |nil=>intro V g;cases g<;>simp[rnV]
  |cons n ns ih =>
   intro V g
   cases g with
   |nil=>simp[rnV]
   |cons p g =>
    have:=ih (stV bs.flatten V n p) g
    have hv:(stV bs.flatten V n p).length<=V.length+1:=by
     unfold stV exl
     split
     ·omega
     ·split
      ·simp
      ·split
       ·simp
       ·omega
    show(rnV bs.flatten (stV bs.flatten V n p) ns g).length<=_;rw[zC];omega
 have H:=U (f.map (·.name)) [] (sps 0 bs);rw[iG,jn] at H;refine⟨_,⟨R,bs,I,c0,f,b,rfl,u,J,E,rfl⟩,by omega,λpl O d e hd l=>?_⟩;have ei:=Lz O b (by omega) y B hd l;obtain⟨a,g,c,h,e2,keep,Y,_,w⟩:=Mx (trC b F y B O.length) (neC r bs) (by omega) (O:=O++[.ins "Change" (fs2 r bs)]) oW;have em:=MN (trC b F y B 0).fw u Y f h 0 (0,0) (Nat.zero_le _) (by simp[ndC]) E w;subst em
 have ag:Agr O a:=λj L=>by
  have h1:O[j]?=some O[j]:=zj L;rw[h1];exact keep j _ (by rw[zx L];exact h1)
 have G:O.length<=a.length:=by
  have:=(zg.mp (keep O.length _ oW)).1
  omega
 obtain⟨k,ns,a5,a6,P,_,h1,h2,h3,h4,Z⟩:=main pl O d e (.lst (h.map λm=>.str m.name)) l a ag G;refine⟨k,ns,?_,h1,h2,h3,h4,Z⟩
 have mk:jN "Change" mV (aj (aa 1) (aj (aa 2) aq)) [some (.int (pl:Int)),some d,some e,none,none,none,none] O=.ok (.ob O.length) (O++[.ins "Change" (fs2 r bs)]):=by
  rw[Jt,maS (x:=d) rfl (ma1 (x:=e) rfl),aV,ei,Ju]
 have T:ak gIx (aM vZ (aj (jN "Change" mV (aj (aa 1) (aj (aa 2) aq))) aq)) (mC (.int 1)) [some (.int (pl:Int)),some d,some e,none,none,none,none] O=.ok (.lst (h.map λm=>.str m.name)) a:=by
  rw[IV,yO,qg,mk,aV,vp,aV,aV,e2,aV,m_c,aV];rfl
 have ez:su (aa 3) (aM qC (aj (aa 2) aq)) (eR pl d e (.lst (h.map λm=>.str m.name)) [] none none) a=.ok (eO (h.map λm=>.str m.name) ((sps 0 bs).map dZ)) a:=by
  rw[X8,show aa 3 (eR pl d e (.lst (h.map λm=>D.str m.name)) [] none none) a=.ok (.lst (h.map λm=>.str m.name)) a from rfl,aV,cV (ma1 (x:=e) rfl),Lr bs b (by omega) a e (l.agr ag),aV,Yb]
 unfold lL gz at P;show bI (wj [some (.int (pl:Int)),some d,some e,none,none,none,none] O)=_;unfold wj;rw[sq (m8 T),sq (bV (d:=.lst []) (lD rfl (Nat.zero_le _)))];show bI (aB (bO _ _ _) _ (eR pl d e (.lst (h.map λm=>.str m.name)) [] none none) a)=_;rw[bh,fM,ez,fO,P,bj];rfl
open Classical in
noncomputable def rwV(r q:Row):List Sg:=if h:ROk r/\ROk q/\Wf q/\q.length<=40/\r≠q then(uv h.1 h.2.1 h.2.2.1 h.2.2.2.1).choose else[]
noncomputable def pwk(P Q:List Row)(k:Nat):List Wr:=(List.range k).flatMap λi=>(rwV (P.getD i []) (Q.getD i [])).map (wr i)
def HP(O:au)(b:D)(P:List Row):Prop:=∃a:List Nat,(b=pD a\/∃h,b=.ob h/\O[h]?=some (.ml (a.map D.ob)))/\a.length=P.length/\∀(k i:Nat),a[k]?=some i->∃r,P[k]?=some r/\O[i]?=some (bJ r)
theorem HP.agr{O c:au}{d:D}{P:List Row}(h:HP O d P)(a:Agr O c):HP c d P:=by
 obtain⟨f,h1,h2,h3⟩:=h;refine⟨f,?_,h2,λk i g=>?_⟩
 ·rcases h1 with h1 | ⟨n,h1,h4⟩
  ·exact .inl h1
  ·exact .inr ⟨n,h1,(a n (zg.mp h4).1).trans h4⟩
 ·obtain⟨r,j,b⟩:=h3 k i g;exact⟨r,j,(a i (zg.mp b).1).trans b⟩
def m9:MS:=(aY (aH (ak gNe (ak gIx (aa 0) (aa 3)) (aa 4))) (pU 2 (aM wk (aj (aa 3) (aj (ak gIx (aa 0) (aa 3)) (aj (aa 4) aq))))) bx)
def eA(c D2:D)(T:List D)(b a:Option D):aA:=[some c,some D2,some (.lst T),b,a]
structure PW(O0 O:au)(W:List Wr)(ns:List Nat):Prop where
 hw:HW O W ns
 nd:ns.Nodup
 lb:∀n∈ns,O0.length<=n
 ag:Agr O0 O
 le:O0.length<=O.length
theorem Qth{h w:Nat}(hh:h<=12)(B:w<=40){P Q:List Row}(L:Pic P h w)(l:Pic Q h w){H O:au}{d D2:D}(h1:HP H d P){k j:Nat}(hk:k<h)(hj:H[j]?=some (bJ (Q.getD k []))){ns:List Nat}(pw:PW H O (pwk P Q k) ns)(hWl:(pwk P Q k).length<=40 * k):
  ∃I ns',m9 (eA d D2 (hT (pwk P Q k) ns) (some (.int (k:Int))) (some (.ob j))) O=.nx (eA d D2 (hT (pwk P Q (k+1)) ns') (some (.int (k:Int))) (some (.ob j))) I/\PW H I (pwk P Q (k+1)) ns'/\(pwk P Q (k+1)).length<=40 * (k+1):=by
 have u:k<P.length:=by rw[L.len];exact hk
 have U:k<Q.length:=by rw[l.len];exact hk
 have gP:P[k]?=some (P.getD k []):=by rw[zK,zj u];rfl
 have gQ:Q[k]?=some (Q.getD k []):=by rw[zK,zj U];rfl
 have Y:=zD gP;have F:=zD gQ
 have R:pwk P Q (k+1)=pwk P Q k++(rwV (P.getD k []) (Q.getD k [])).map (wr k):=by
  unfold pwk;rw[List.range_succ,List.flatMap_append,List.flatMap_singleton]
 obtain⟨is,hD,W,E⟩:=h1.agr pw.ag;obtain⟨i,hi⟩:∃i,is[k]?=some i:=⟨_,zj (by rw[W];exact u)⟩;obtain⟨r',er,ei⟩:=E k i hi;rw[gP] at er;cases er;have ej:O[j]?=some (bJ (Q.getD k [])):=(pw.ag j (zg.mp hj).1).trans hj
 have Z:ak gIx (aa 0) (aa 3) (eA d D2 (hT (pwk P Q k) ns) (some (.int (k:Int))) (some (.ob j))) O=.ok (.ob i) O:=bc (x:=d) (y:=.int (k:Int)) rfl rfl (by
  have:bw O d=.lst (is.map D.ob):=by
   rcases hD with rfl | ⟨n,rfl,a⟩
   ·rfl
   ·exact lE a
  rw[this]
  exact iW (by rw[zq,hi];rfl))
 have m:=(qT (L.ok _ Y)).2.2.2;have f:=(qT (l.ok _ F)).2.2.2
 have c:aH (ak gNe (ak gIx (aa 0) (aa 3)) (aa 4)) (eA d D2 (hT (pwk P Q k) ns) (some (.int (k:Int))) (some (.ob j))) O=.ok (!gh (dRw (P.getD k [])) (dRw (Q.getD k []))) O:=fJ (bc Z (y:=.ob j) rfl (by
  rw[lE ei,lE ej];show gNe (dRw _) (dRw _)=_;unfold dRw at m f ⊢
  rw[Xy,m,f,Bool.and_self,if_pos rfl]))
 by_cases G:P.getD k []=Q.getD k []
 ·have T:rwV (P.getD k []) (Q.getD k [])=[]:=by
   unfold rwV;rw[dif_neg λz=>z.2.2.2.2 G]
  rw[T,zQ,zT] at R;rw[R];refine⟨O,ns,?_,pw,by omega⟩;rw[G,vH f] at c;unfold m9;rw[bN c];rfl
 ·have b:ROk (P.getD k [])/\ROk (Q.getD k [])/\Wf (Q.getD k [])/\(Q.getD k []).length<=40/\P.getD k []≠Q.getD k []:=⟨L.ok _ Y,l.ok _ F,l.wf _ F,by rw[l.wd _ F];exact B,G⟩
  have T:rwV (P.getD k []) (Q.getD k [])=(uv b.1 b.2.1 b.2.2.1 b.2.2.2.1).choose:=by
   unfold rwV;rw[dif_pos b]
  obtain⟨_,vl,ev⟩:=(uv b.1 b.2.1 b.2.2.1 b.2.2.2.1).choose_spec;rw[<-T] at vl ev;obtain⟨I,ns',e1,g1,g2,g3,g4,g5⟩:=ev k O (.ob i) (.ob j) (.inr ⟨i,rfl,ei⟩) (.inr ⟨j,rfl,ej⟩);have g:=lK pw.hw;have hle:=pw.le;obtain⟨k1,k2⟩:=wZ g1 (qZ (λn a=>g4 n (g.1 n a)) pw.hw);rw[R];refine⟨I,ns++ns',?_,⟨k1,jb.mpr ⟨pw.nd,g2,λx J y hy z=>by have:=g.1 x J;have:=g3 y hy;omega⟩,λn a=>?_,λx J=>(g4 x (by omega)).trans (pw.ag x J),by omega⟩,by rw[zh,zd];omega⟩
  ·have ne:gh (dRw (P.getD k [])) (dRw (Q.getD k []))=false:=Bool.eq_false_iff.mpr λz=>G (DQ z)
   rw[ne] at c;have X:=lK g1;unfold m9;rw[dG c,XR,cV (maS (x:=.int (k:Int)) rfl (maS Z (ma1 (x:=.ob j) rfl))),e1,XS (ds:=hT (pwk P Q k) ns) rfl (by rw[g.2.2,X.2.2,zd];omega),k2];rfl
  ·rcases zz.mp a with a | a
   ·exact pw.lb n a
   ·have:=g3 n a
    omega
structure WOk(h w:Nat)(x:Wr):Prop where
 rw:x.1<h
 cl:x.2.1+x.2.2.length<=w
 ok:ROk x.2.2
def put(Q:List Row)(x:Wr):List Row:=Q.set x.1 (ck x.2.1 x.2.2 x.2.2.length ((Q[x.1]?).getD []))
def lay(W:List Wr)(P:List Row):List Row:=W.foldl put P
theorem puL(Q:List Row)(x:Wr):(put Q x).length=Q.length:=zU
theorem Ea:∀(W:List Wr) (P:List Row),(lay W P).length=P.length
 | [],_=>rfl
 |x::W,P=>(Ea W (put P x)).trans (puL P x)
theorem M6{w:Nat}{Q:List Row}{x:Wr}(b:x.1<Q.length)(h:∀r∈Q,r.length=w):∀r∈put Q x,r.length=w:=λr a=>by
 rcases List.mem_or_eq_of_mem_set a with a | rfl
 ·exact h r a
 ·rw[wL,zj b,Option.getD_some];exact h _ (zW b)
theorem Eb{w:Nat}:∀{W:List Wr}{P:List Row},(∀x∈W,x.1<P.length)->(∀r∈P,r.length=w)->∀r∈lay W P,r.length=w
 | [],_,_,h=>h
 |x::W,P,hx,h=>Eb (W:=W) (P:=put P x) (λy a=>by rw[puL];exact hx y (zv _ a)) (M6 (hx x zo) h)
theorem Qr2{W:List Wr}{P:List Row}{i:Nat}{x:Wr}(h:W[i]?=some x):lay (W.take (i+1)) P=put (lay (W.take i) P) x:=by
 have hi:=(zg.mp h).1;rw[List.take_succ_eq_append_getElem hi]
 have:W[i]=x:=(zg.mp h).2
 rw[this];unfold lay;rw[List.foldl_append];rfl
theorem Qxp{P:List Row}(f:P.length<=1000){m:L2.M D}{ρ:aA}{O:au}(c:m ρ O=.ok (dP P) O):dB (cA m) 1 [] (mgN 0) eQ (mMl (aL iy (aj (aa 0) aq))) ρ O=.ok (pD (ids O.length P.length)) (O++P.map bJ):=by
 have b:=KY (g:=mgN 0) (t:=eQ) (m:=aL iy (aj (aa 0) aq)) (λρ=>∃a,ρ=[a]) dRw (λr=>r.map dC) O P [none] [] [] ⟨_,rfl⟩ (by
  rintro r hr ρ ⟨a,rfl⟩ E
  exact⟨_,rfl,⟨_,rfl⟩,rfl,wK (d:=dRw r) rfl rfl⟩)
 rw[zT,zM,zM,jn,Nat.add_zero] at b;exact jX (own:=1) (cap:=[]) (g8 c) (by rw[zd];omega) rfl b
theorem M7{P:List Row}(a:P.length<=1000)(O:au):mY [dP P] O=.ok (pD (ids O.length P.length)) (O++P.map bJ):=by
 show bI (aZ _ [some (dP P)] O)=_;rw[jO];exact(congrArg (λr=>bI (mK r)) (Qxp a (m:=aa 0) (ρ:=[some (dP P)]) rfl)).trans rfl
theorem M8{Q:List Row}{x:Wr}{row:Row}(h:Q[x.1]?=some row):put Q x=Q.set x.1 (ck x.2.1 x.2.2 x.2.2.length row):=by
 unfold put;rw[h,Option.getD_some]
theorem Ec{O:au}:∀{W:List Wr}{ns:List Nat}{i:Nat}{d:D},HW O W ns->(hT W ns)[i]?=some d->∃x n,W[i]?=some x/\O[n]?=some (wO x)/\d=dH x n
 | [],[],i,d,_,h=>by cases i<;>cases h
 |x::W,n::ns,0,d,h,e=>by cases e;exact⟨x,n,rfl,h.1,rfl⟩
 |x::W,n::ns,i+1,d,h,e=>by
  obtain⟨y,m,h1,h2,h3⟩:=Ec (W:=W) (ns:=ns) (i:=i) (d:=d) h.2 e;exact⟨y,m,h1,h2,h3⟩
 | [],_::_,_,_,h,_=>h.elim
 | _::_,[],_,_,h,_=>h.elim
def gp:MG:=dM 2 (bC (mgN 3) (bC (mgN 4) dU))
theorem Qui{h w:Nat}(hh:h<=12)(L:w<=40){P Q:List Row}(hP:Pic P h w)(W:Pic Q h w){O:au}{f D2:D}(h1:HP O f P)(h2:HP O D2 Q):∃m ns,tR [f,D2] O=.ok (.lst (hT (pwk P Q h) ns)) m/\PW O m (pwk P Q h) ns/\(pwk P Q h).length<=480:=by
 obtain⟨u,hD,H,R⟩:=h2
 have Z:∀k j,u[k]?=some j->k<h/\O[j]?=some (bJ (Q.getD k [])):=λk j U=>by
  obtain⟨r,T,X⟩:=R k j U;refine⟨by rw[<-W.len];exact(zg.mp T).1,?_⟩;rw[zK,T];exact X
 have p0:PW O O (pwk P Q 0) []:=⟨trivial,List.nodup_nil,λn F=>(nomatch F),λ_ _=>rfl,zc _⟩
 have turn:∀(i j:Nat) (ns:List Nat) (l:au) (c a:Option D),u[i]?=some j->PW O l (pwk P Q i) ns->(pwk P Q i).length<=40 * i->∃B,gp (.tup [.int (i:Int),.ob j]) (eA f D2 (hT (pwk P Q i) ns) c a)=some B/\∃z G,m9 B l=.nx z G/\∃E b3 b4,z=eA f D2 (hT (pwk P Q (i+1)) E) b3 b4/\PW O G (pwk P Q (i+1)) E/\(pwk P Q (i+1)).length<=40 * (i+1):=λi j ns l c a hi pw x=>by
  obtain⟨U,y⟩:=Z i j hi;obtain⟨G,E,T,X,e3⟩:=Qth (D2:=D2) hh L hP W h1 U y pw x;exact⟨_,rfl,_,_,T,E,_,_,rfl,X,e3⟩
 have J:∀(ns:List Nat) (m:au) (c a:Option D),p8 (aa 1) gp m9 (eA f D2 [] none none) O=.nx (eA f D2 (hT (pwk P Q h) ns) c a) m->tR [f,D2] O=.ok (.lst (hT (pwk P Q h) ns)) m:=λns m c a e=>by
  unfold gp m9 at e;show bI (wy [some f,some D2,none,none,none] O)=_;unfold wy;rw[sq (bV (d:=.lst []) (lD rfl (Nat.zero_le _)))];show bI (aB (p8 _ _ _) _ (eA f D2 [] none none) O)=_;rw[sq e];rfl
 have I:=W.len
 rcases hD with rfl | ⟨n,rfl,F⟩
 ·obtain⟨Y,m,e,ns,c,a,rfl,pw,x⟩:=fP (g:=gp) (b:=m9) (λk ρ l=>∃ns c a,ρ=eA f (pD u) (hT (pwk P Q k) ns) c a/\PW O l (pwk P Q k) ns/\(pwk P Q k).length<=40 * k) (fX 0 (u.map D.ob)) 0 (eA f (pD u) [] none none) O ⟨[],none,none,rfl,p0,zc _⟩ (by
   rintro i d ρ l hi ⟨ns,c,a,rfl,pw,x⟩
   obtain⟨j,y,rfl⟩:∃j,u[i]?=some j/\d=.tup [.int (i:Int),.ob j]:=by
    rw[rZ,zy,zq] at hi
    cases y:u[i]? with
    |none=>rw[y] at hi;cases hi
    |some j=>rw[y] at hi;cases hi;exact⟨j,rfl,rfl⟩
   rw[zy] at pw x ⊢;obtain⟨B,g1,z,G,g2,r⟩:=turn i j ns l c a y pw x
   exact⟨B,g1,z,G,.inl g2,r⟩)
  rw[pP,zd,H,I,zy] at pw x e;refine⟨m,ns,J ns m c a ?_,pw,by omega⟩;rw[<-e];rfl
 ·obtain⟨Y,m,e,ns,c,a,rfl,pw,x⟩:=M5 (n:=n) (all:=u.map D.ob) (g:=gp) (b:=m9) (λk ρ l=>∃ns c a,ρ=eA f (.ob n) (hT (pwk P Q k) ns) c a/\PW O l (pwk P Q k) ns/\(pwk P Q k).length<=40 * k) (by
   rintro k ρ l ⟨ns,c,a,rfl,pw,_⟩
   exact(pw.ag n (zg.mp F).1).trans F) (by
   rintro i d ρ l hi ⟨ns,c,a,rfl,pw,x⟩;rw[zq] at hi
   cases y:u[i]? with
   |none=>rw[y] at hi;cases hi
   |some j =>
    rw[y] at hi;cases hi
    exact turn i j ns l c a y pw x) (u.map D.ob) 0 (eA f (.ob n) [] none none) O (zy _) ⟨[],none,none,rfl,p0,zc _⟩
  rw[zd,H,I] at pw x e;refine⟨m,ns,J ns m c a ?_,pw,by omega⟩;unfold p8 vf;rw[show(aa 1) (eA f (.ob n) [] none none) O=.ok (.ob n) O from rfl];dsimp only;rw[F];exact e
theorem M9{r q:Row}(f:ROk r)(g:ROk q)(c:Wf q)(h:q.length<=40):∃s,StV r q q.length s (rwV r q):=by
 by_cases b:r=q
 ·have j:rwV r q=[]:=by
   unfold rwV;rw[dif_neg λz=>z.2.2.2.2 b]
  rw[j];exact⟨0,λx d=>(nomatch d),λi _=>.inr (by rw[b]),λz=>(nomatch z)⟩
 ·have a:ROk r/\ROk q/\Wf q/\q.length<=40/\r≠q:=⟨f,g,c,h,b⟩;unfold rwV;rw[dif_pos a];exact(uv a.1 a.2.1 a.2.2.1 a.2.2.2.1).choose_spec.1.1
def Cv(x:Wr)(i j:Nat):Prop:=x.1=i/\x.2.1<=j/\j<x.2.1+x.2.2.length
instance (x:Wr)(i j:Nat):Decidable (Cv x i j):=by
 unfold Cv
 infer_instance
structure PWk(P Q:List Row)(h w:Nat)(W:List Wr):Prop where
 ok:∀x∈W,WOk h w x
 val:∀x∈W,∀j,x.2.1<=j->j<x.2.1+x.2.2.length->x.2.2[j - x.2.1]?=(Q.getD x.1 [])[j]?
 cov:∀i j,i<h->j<w->(∃x∈W,Cv x i j)\/(P.getD i [])[j]?=(Q.getD i [])[j]?
theorem Pic.get{P:List Row}{h w:Nat}(a:Pic P h w){i:Nat}(hi:i<h):P[i]?=some (P.getD i [])/\P.getD i []∈P:=by
 have:P[i]?=some (P.getD i []):=by rw[zK,zj (by rw[a.len];exact hi)];rfl
 exact⟨this,zD this⟩
theorem Nb{P Q:List Row}{h w:Nat}(hw:w<=40)(k:Pic P h w)(c:Pic Q h w):PWk P Q h w (pwk P Q h):=by
 have d:∀i,i<h->∃s,StV (P.getD i []) (Q.getD i []) (Q.getD i []).length s (rwV (P.getD i []) (Q.getD i [])):=λi hi=>M9 (k.ok _ (k.get hi).2) (c.ok _ (c.get hi).2) (c.wf _ (c.get hi).2) (by rw[c.wd _ (c.get hi).2];exact hw)
 have mem:∀x∈pwk P Q h,∃i,i<h/\∃y∈rwV (P.getD i []) (Q.getD i []),x=wr i y:=λx g=>by
  obtain⟨i,hi,g⟩:=List.mem_flatMap.mp g;obtain⟨y,f,rfl⟩:=zL.mp g;exact⟨i,List.mem_range.mp hi,y,f,rfl⟩
 refine⟨λx g=>?_,λx g j m l=>?_,λi j hi n=>?_⟩
 ·obtain⟨i,hi,y,f,rfl⟩:=mem x g;obtain⟨s,d⟩:=d i hi;obtain⟨a,b⟩:=d.inn y f;rw[c.wd _ (c.get hi).2] at a;refine⟨hi,a,?_⟩;show ROk y.2;rw[b];exact uf (c.ok _ (c.get hi).2)
 ·obtain⟨i,hi,y,f,rfl⟩:=mem x g;obtain⟨s,d⟩:=d i hi;obtain⟨a,b⟩:=d.inn y f;show y.2[j - y.1]?=_;rw[b];exact DX m l
 ·obtain⟨s,d⟩:=d i hi
  rcases d.cov j (by rw[c.wd _ (c.get hi).2];exact n) with⟨y,f,B,z⟩ | u
  ·exact .inl ⟨wr i y,List.mem_flatMap.mpr ⟨i,List.mem_range.mpr hi,zL.mpr ⟨y,f,rfl⟩⟩,rfl,B,z⟩
  ·exact .inr u
theorem Qt9{P:List Row}{h w:Nat}(g:P.length=h)(hw:∀r∈P,r.length=w){x:Wr}(a:WOk h w x){i j:Nat}(hi:i<h)(k:j<w):((put P x).getD i [])[j]?=if Cv x i j then some ((x.2.2[j - x.2.1]?).getD bl) else(P.getD i [])[j]?:=by
 have c:=a.rw;have d:=a.cl;have b:P[x.1]?=some (P[x.1]'(by omega)):=zj _;have f:=hw _ (zW (show x.1<P.length by omega));rw[M8 b,zK,List.getElem?_set]
 by_cases h1:x.1=i
 ·subst h1;rw[if_pos rfl,if_pos (by omega),Option.getD_some,KZ _ _ _ _ _ (by omega)]
  by_cases h2:x.2.1<=j/\j<x.2.1+x.2.2.length
  ·rw[if_pos h2,if_pos ⟨rfl,h2⟩]
  ·rw[if_neg h2,if_neg λz=>h2 z.2,zK,b];rfl
 ·rw[if_neg h1,if_neg λz=>h1 z.1,zK]
theorem Nf{Q:List Row}{h w:Nat}:∀(W:List Wr) (P:List Row),(∀x∈W,WOk h w x)->(∀x∈W,∀j,x.2.1<=j->j<x.2.1+x.2.2.length->x.2.2[j - x.2.1]?=(Q.getD x.1 [])[j]?)->P.length=h->(∀r∈P,r.length=w)->∀i j,i<h->j<w->((lay W P).getD i [])[j]?=(Q.getD i [])[j]?\/(((lay W P).getD i [])[j]?=(P.getD i [])[j]?/\∀x∈W,¬Cv x i j)
 | [],P,_,_,_,_,i,j,_,_=>.inr ⟨rfl,λx b=>(nomatch b)⟩
 |x::W,P,ho,hv,hl,hw,i,j,hi,hj=>by
  have b:=ho x zo;have m:=b.rw;have pg:=Qt9 hl hw b hi hj
  rcases Nf (Q:=Q) W (put P x) (λy a=>ho y (zv _ a)) (λy a=>hv y (zv _ a)) ((puL P x).trans hl) (M6 (by omega) hw) i j hi hj with c | ⟨c,f⟩
  ·exact .inl c
  ·by_cases d:Cv x i j
   ·rw[if_pos d] at pg;refine .inl (c.trans (pg.trans ?_));obtain⟨l,k,g⟩:=d;rw[<-l,<-hv x zo j k g,zj (by omega)];rfl
   ·rw[if_neg d] at pg;refine .inr ⟨c.trans pg,λy a=>?_⟩
    rcases zm.mp a with rfl | a
    ·exact d
    ·exact f y a
theorem Qua{P Q:List Row}{h w:Nat}(g:P.length=h)(c:∀r∈P,r.length=w)(a:Pic Q h w)(f:∀i j,i<h->j<w->(P.getD i [])[j]?=(Q.getD i [])[j]?):P=Q:=by
 refine jp λi=>?_
 by_cases hi:i<h
 ·have b:P[i]?=some (P.getD i []):=by rw[zK,zj (by omega)];rfl
  rw[b,(a.get hi).1];congr 1;have l:=c _ (zD b);have k:=a.wd _ (a.get hi).2
  refine jp λj=>?_
  by_cases d:j<w
  ·exact f i j hi d
  ·rw[zV (by omega),zV (by omega)]
 ·rw[zV (by omega),zV (by rw[a.len];omega)]
theorem Qtq{P Q:List Row}{h w:Nat}(hw:w<=40)(a:Pic P h w)(g:Pic Q h w):lay (pwk P Q h) P=Q:=by
 have k:=Nb hw a g
 refine Qua ((Ea _ _).trans a.len) (Eb (λx b=>by rw[a.len];exact(k.ok x b).rw) a.wd) g λi j hi f=>?_
 rcases Nf (pwk P Q h) P k.ok k.val a.len a.wd i j hi f with c | ⟨c,l⟩
 ·exact c
 ·rcases k.cov i j hi f with⟨x,b,d⟩ | d
  ·exact absurd d (l x b)
  ·exact c.trans d
theorem Ng{O:au}(n:Nat)(r:Row):(r.map dC).map (cu O (n+1))=r.map dC:=by
 rw[zX]
 refine jl λc _=>?_
 show D.tup ([D.str c.1,D.str c.2.1,D.str c.2.2].map (cu O n))=dC c
 cases n<;>rfl
theorem QuF{O:au}(n:Nat)(r:Row):cu O (n+2) (dRw r)=dRw r:=congrArg D.lst (Ng n r)
theorem Qvb{O:au}(n:Nat){r:Row}{i:Nat}(h:O[i]?=some (bJ r)):cu O (n+2) (.ob i)=dRw r:=by
 have h':O[i]?=some (.ml (r.map dC)):=h;unfold cu;rw[h'];exact congrArg D.lst (Ng n r)
theorem Qvh(n:Nat)(a:Int)(O:au):gZ (n+1) [.int a,.int a] O=.ok (.bl true) O:=by
 have f:∀q,bK (cH q (aa 1)) [some (.int a),some (.int a),none] O=.ok (cF "int" q) O:=λq=>ud (jF (d:=.int a) rfl rfl)
 have g:∀q,cH q (aa 0) [some (.int a),some (.int a),none] O=.ok (.bl (cF "int" q)) O:=λq=>jF (d:=.int a) rfl rfl
 have c:cF "int" "bool" = false:=by decide
 have b:cF "int" "int" = true:=by decide
 have h:fL (cH "int" (aa 0)) (fL (pG (cH "bool" (aa 0))) (ak gEq (aa 0) (aa 1))) [some (.int a),some (.int a),none] O=.ok (.bl true) O:=by
  rw[kY,g,aV,b,kW,if_pos rfl,kY,Ja,g,aV,c,Xh,aV,kW,Bool.not_false,if_pos rfl,bc (x:=.int a) (y:=.int a) (z:=.bl true) rfl rfl (by rw[mJ,yP,zn rfl])]
 show bI (lr (gZ n) [some (.int a),some (.int a),none] O)=_;unfold lr;rw[bh,bN (by rw[f,c]),fY,bj,bh,dG (by rw[f,b]),jO,h];rfl
theorem oZ{P:List Row}{h w:Nat}(g:Pic P h w):eX (dP P)=true/\(toP (dP P)).canLay0=true/\(toP (dP P)).depth<=20/\okE (dP P)=true:=by
 have b:∀d∈P.map dRw,eX d=true/\(toP d).canLay0=true/\(toP d).depth<=8:=λd hd=>by
  obtain⟨r,f,rfl⟩:=zL.mp hd
  have:=qT (g.ok r f)
  exact⟨this.1,this.2.1,this.2.2.1⟩
 have q:okE (.lst (P.map dRw))=true:=yS (n:=8) (by decide) b;have c:=q;unfold okE at q;rw[zu] at q;refine⟨q.1,?_,?_,c⟩
 ·have:=q.2
  unfold okD at this;rw[zu] at this;exact this.1
 ·unfold dP;rw[toP,vG];show PyData.depthAll _+1<=20
  have z:PyData.depthAll ((P.map dRw).map toP)<=8:=uP λd hd=>by
   obtain⟨i,a,rfl⟩:=zL.mp hd;exact(b i a).2.2
  omega
theorem Qup{n:Nat}{ma mb:L2.M D}{ρ:aA}{O:au}{x y z:D}(hi:ma ρ O=.ok x O)(a:mb ρ O=.ok y O)(h1:cu O n x=z)(h2:cu O n y=z)(hz:okE z=true):aH (iU true n ma mb) ρ O=.ok false O:=by
 refine fJ ?_;unfold iU;rw[hi,aV,a,aV,h1,h2,hz,Bool.and_self,if_pos rfl,if_pos rfl,vH hz];rfl
theorem Ed{O:au}(n:Nat)(P:List Row):cu O (n+3) (dP P)=dP P:=by
 show D.lst ((P.map dRw).map (cu O (n+2)))=_;rw[zX];exact congrArg D.lst (jl λr _=>QuF n r)
theorem Nh{O:au}(n:Nat){is:List Nat}{P:List Row}(a:is.length=P.length)(h:∀(k i:Nat),is[k]?=some i->∃r,P[k]?=some r/\O[i]?=some (bJ r)):(is.map D.ob).map (cu O (n+2))=P.map dRw:=by
 refine jp λk=>?_
 rw[zq,zq,zq]
 cases hk:is[k]? with
 |none =>
  have:P[k]?=none:=zV (by rw[<-a];exact List.getElem?_eq_none_iff.mp hk)
  rw[this];rfl
 |some i =>
  obtain⟨r,c,b⟩:=h k i hk;rw[c];exact congrArg some (Qvb n b)
theorem Ni(O E:au)(P:List Row):∀(k i:Nat),(ids O.length P.length)[k]?=some i->∃r,P[k]?=some r/\((O++P.map bJ)++E)[i]?=some (bJ r):=λk i b=>by
 obtain⟨r,c,a⟩:=(KR O P).at b;exact⟨r,c,by rw[zx (zg.mp a).1];exact a⟩
theorem Ef:∀(l:List Int) (b:Option Int) (c:Int),mdI b l=some c->(∀y,b=some y->c<=y)/\∀x∈l,c<=x
 | [],b,c,h=>by
  have f:b=some c:=by
   cases b<;>exact h
  refine⟨λy d=>?_,λx a=>nomatch a⟩;rw[f] at d
  have:=zA d
  omega
 |n::r,none,c,h=>by
  obtain⟨h1,h2⟩:=Ef r (some n) c h;refine⟨λy (d:none=some y)=>(nomatch d),λx a=>?_⟩
  rcases zm.mp a with rfl | a
  ·exact h1 _ rfl
  ·exact h2 x a
 |n::r,some m,c,h=>by
  obtain⟨h1,h2⟩:=Ef r (some (if n<m then n else m)) c h;have h3:=h1 _ rfl;refine⟨λy d=>?_,λx a=>?_⟩
  ·have:=zA d
   split at h3<;>omega
  ·rcases zm.mp a with rfl | a
   ·split at h3<;>omega
   ·exact h2 x a
theorem Nj{ps:Tb}{m:M3}{c:Int}(h:co ps m=some c):∃b,lk ps m.other=some (some b)/\c=m.cost+b:=by
 unfold co at h;split at h
 ·rename_i b a;exact⟨b,a,(zA h).symm⟩
 ·cases h
theorem Qxm{ps:Tb}{m:M3}{b:Int}(h:lk ps m.other=some (some b)):co ps m=some (m.cost+b):=by
 unfold co;rw[h]
theorem Nk{ps:Tb}{ms:List M3}{c b:Int}{m:M3}(h:lc ps ms=some c)(a:m∈ms)(hb:lk ps m.other=some (some b)):c<=m.cost+b :=
 (Ef _ _ _ h).2 _ (List.mem_filterMap.mpr ⟨m,a,Qxm hb⟩)
theorem Qvv{ps:Tb}{ms:List M3}{c:Int}(h:lc ps ms=some c):∃m,m∈ms/\co ps m=some c:=by
 rcases wY _ _ _ h with h | h
 ·cases h
 ·exact List.mem_filterMap.mp h
section
variable {N:Nat}{nodes:Nat->List Nd}{mv:Nd->List M3}{fin:Nd->Bool}
theorem Pri.at{ps:Tb}(h:Pri N nodes mv fin 0 ps){a:Nat}{n:Nd}{c:Int}(f:a<=N)(b:n∈nodes a)(d:lk ps n=some (some c)):some c=if fin n=true then some 0 else lc ps (mv n):=by
 have e:=h a (Nat.zero_le _) f n b;rw[d] at e;exact zA e
theorem Nm(fw:∀(a:Nat) (n:Nd),a<=N->n∈nodes a->∀m∈mv n,∃b,a<b/\b<=N/\m.other∈nodes b){ps:Tb}(h:Pri N nodes mv fin 0 ps)(l:∀n,∀m∈mv n,0<=m.cost):∀(k a:Nat) (n:Nd) (c:Int),a+k=N->n∈nodes a->lk ps n=some (some c)->0<=c:=by
 intro k
 induction k using Nat.strongRecOn with
 | _ k ih =>
  intro a n c x g j;have e':=h.at (by omega) g j;split at e'
  ·have:=zA e'
   omega
  ·obtain⟨m,i,f⟩:=Qvv e'.symm;obtain⟨b,u,y⟩:=Nj f;obtain⟨d,B,z,d3⟩:=fw a n (by omega) g m i
   have:=ih (N - d) (by omega) d m.other b (by omega) d3 u
   have:=l n m i
   omega
theorem Np(fw:∀(a:Nat) (n:Nd),a<=N->n∈nodes a->∀m∈mv n,∃b,a<b/\b<=N/\m.other∈nodes b){ps:Tb}(h:Pri N nodes mv fin 0 ps):∀(ms:List M3) (a:Nat) (n:Nd) (c:Int),a<=N->n∈nodes a->lk ps n=some (some c)->Wy ps mv fin n ms->(ms.map (·.cost)).sum=c
 | [],a,n,c,ha,hn,hl,w=>by
  have e':=h.at ha hn hl;rw[if_pos (show fin n=true from w)] at e';rw[zA e'];rfl
 |m::ms,a,n,c,ha,hn,hl,w=>by
  obtain⟨j,g,i⟩:=w;have e':=h.at ha hn hl;rw[if_neg (by rw[j];exact zp)] at e';have k:=List.mem_of_find?_eq_some g;have hco':=List.find?_some g;have f:co ps m=lc ps (mv n):=jg hco';rw[<-e'] at f;obtain⟨b,l,u⟩:=Nj f;obtain⟨d,y,x,d3⟩:=fw a n ha hn m k;rw[zl,List.sum_cons,Np fw h ms d m.other b x d3 l i];exact u.symm
end
theorem Qxj{r:Row}{bs:List Row}{a s:Nat}{m:M3}(h:m∈mvC r bs ((a:Int),(s:Int))):∃p,(sps 0 bs)[a]?=some p/\((m.name=lH/\m.cost=0)\/(m.name=ig/\m.cost=4+(p.2:Int))\/(m.name=kOn/\m.cost=(p.2:Int))):=by
 unfold mvC at h;rw[show(((a:Int),(s:Int)):Nd).1.toNat=a from Int.toNat_natCast a] at h
 cases hp:(sps 0 bs)[a]? with
 |none=>rw[hp] at h;cases h
 |some p =>
  rw[hp] at h;refine⟨p,rfl,?_⟩;dsimp only at h
  rcases zz.mp h with h | h
  ·split at h
   ·rw[zk.mp h];exact .inl ⟨rfl,rfl⟩
   ·cases h
  ·rw[zk.mp h]
   by_cases b:(s:Int)=0
   ·rw[if_pos b];exact .inr (.inl ⟨rfl,rfl⟩)
   ·rw[if_neg b];exact .inr (.inr ⟨rfl,rfl⟩)
theorem Nq(r:Row)(bs:List Row):∀n,∀m∈mvC r bs n,0<=m.cost:=λn m h=>by
 unfold mvC at h;split at h
 ·cases h
 ·rcases zz.mp h with h | h
  ·split at h
   ·rw[zk.mp h];exact Int.le_refl _
   ·cases h
  ·rw[zk.mp h]
   split
   ·show(0:Int)<=4+(_:Nat);omega
   ·exact Int.natCast_nonneg _
theorem QrP{q:Row}(h:ROk q)(p:Nat×Nat):alk q q p=true:=vH (qT (r:=seg q p) (uf h)).2.2.2
theorem Qry{bs:List Row}(b:ROk bs.flatten){a:Nat}(d:a<bs.length)(s:Int):(⟨0,lH,((a:Int)+1,0)⟩:M3)∈mvC bs.flatten bs ((a:Int),s):=by
 obtain⟨p,c⟩:=MF d;unfold mvC;rw[show(((a:Int),s):Nd).1.toNat=a from Int.toNat_natCast a,c];dsimp only;rw[if_pos (QrP b p)];exact zY _ (zk.mpr rfl)
theorem Qq8{bs:List Row}(u:∀b∈bs,Bl b)(y:bs.flatten.length<=40)(j:ROk bs.flatten){ps:Tb}(h:Pri bs.length ndC (mvC bs.flatten bs) (fnC bs) 0 ps):∀(k a:Nat) (s:Nat) (c:Int),a+k=bs.length->(s=0\/s=1)->lk ps ((a:Int),(s:Int))=some (some c)->c=0:=by
 have T:=trC u y j j 0;intro k
 induction k with
 |zero =>
  intro a s c g x i;have e':=h.at (by omega) (lJ a (by omega)) i;rw[if_pos (show fnC bs ((a:Int),(s:Int))=true from zn (by show(a:Int)=_;omega))] at e';exact zA e'
 |succ k ih =>
  intro a s c g x i;have d:=lJ a (s:=(s:Int)) (by omega);have e':=h.at (by omega) d i;rw[if_neg (show ¬fnC bs ((a:Int),(s:Int))=true from λz=>by have:(a:Int)=_:=jg z;omega)] at e';obtain⟨m,f⟩:=qY T (neC bs.flatten bs) h k (a+1) (((a+1:Nat):Int),0) (by omega) (lJ (a+1) (.inl rfl));have z:=ih (a+1) 0 m (by omega) (.inl rfl) f;have l:=Nk e'.symm (Qry j (show a<bs.length by omega) (s:Int)) (b:=m) (by rw[<-f];rfl);have n:=Nm T.fw h (Nq bs.flatten bs) (k+1) a _ c g d i
  have:c<=0+m:=l
  omega
theorem Bl.pos{b:Row}(h:Bl b):0<b.length:=by
 rcases h with⟨c,rfl,_⟩ | ⟨c,d,rfl,_⟩<;>exact Nat.succ_pos _
theorem Bl.hd{b:Row}(h:Bl b):∃c,b[0]?=some c/\c.1≠[]:=by
 rcases h with⟨c,rfl,h⟩ | ⟨c,d,rfl,h,_⟩<;>exact⟨c,rfl,h⟩
theorem Qtn(done:List Row)(b:Row)(rest:List Row):seg (done++b::rest).flatten (done.flatten.length,b.length)=b:=by
 show(((done++b::rest).flatten).drop done.flatten.length).take b.length=b;rw[jm,List.drop_left' rfl,List.flatten_cons,List.take_left' rfl]
theorem Qvq{done rest:List Row}(h:∀b∈rest,Bl b){c:C}(a:((done++rest).flatten)[done.flatten.length]?=some c):c.1≠[]:=by
 rw[jm,zE (zc _),Nat.sub_self] at a
 cases rest with
 |nil=>simp at a
 |cons b rest =>
  have d:=h b zo;rw[List.flatten_cons,zx d.pos] at a;obtain⟨f,h1,h2⟩:=d.hd;rw[h1] at a
  have:=zA a
  rw[<-this];exact h2
structure GV(q:Row)(pos s:Nat)(V:List Sg):Prop where
 ln:∀x∈V,0<x.2.length/\x.1+x.2.length<=pos/\(s=0->x.1+x.2.length<pos)
 hd:∀x∈V,∃c,x.2[0]?=some c/\c.1≠[]
 bd:∀x∈V,∀c,q[x.1+x.2.length]?=some c->c.1≠[]
 pw:V.Pairwise λx y=>x.1+x.2.length<y.1
 on:s=1->∃V' x,V=V'++[x]/\x.1+x.2.length=pos
section
variable {q:Row}{pos s:Nat}{V:List Sg}{b:Row}
theorem GV.pass(h:GV q pos s V)(hb:0<b.length):GV q (pos+b.length) 0 V :=
 ⟨λx a=>by have:=h.ln x a;exact⟨this.1,by omega,λ_=>by omega⟩,h.hd,h.bd,h.pw,λz=>nomatch z⟩
theorem GV.begn(h:GV q pos 0 V)(hb:Bl b)(f:∀c,q[pos+b.length]?=some c->c.1≠[]):GV q (pos+b.length) 1 (V++[(pos,b)]):=by
 refine⟨λx a=>?_,λx a=>?_,λx a=>?_,?_,λ_=>⟨V,_,rfl,rfl⟩⟩
 ·rcases zz.mp a with a | a
  ·have:=h.ln x a
   exact⟨this.1,by omega,λz=>nomatch z⟩
  ·rw[zk.mp a];exact⟨hb.pos,zc _,λz=>nomatch z⟩
 ·rcases zz.mp a with a | a
  ·exact h.hd x a
  ·rw[zk.mp a];exact hb.hd
 ·rcases zz.mp a with a | a
  ·exact h.bd x a
  ·rw[zk.mp a];exact f
 ·refine List.pairwise_append.mpr ⟨h.pw,List.pairwise_singleton _ _,λx a y d=>?_⟩;rw[zk.mp d];exact(h.ln x a).2.2 rfl
theorem GV.onn(h:GV q pos 1 V)(hb:Bl b)(l:∀c,q[pos+b.length]?=some c->c.1≠[]):GV q (pos+b.length) 1 (exl V b):=by
 obtain⟨g,x,rfl,n⟩:=h.on rfl;rw[ur];have d:x∈g++[x]:=zI _ (zk.mpr rfl)
 have f:x.1+(x.2++b).length=pos+b.length:=by rw[zh];omega
 obtain⟨j,m,i⟩:=List.pairwise_append.mp h.pw;refine⟨λy a=>?_,λy a=>?_,λy a=>?_,?_,λ_=>⟨g,_,rfl,f⟩⟩
 ·rcases zz.mp a with a | a
  ·have:=h.ln y (zY _ a)
   exact⟨this.1,by omega,λz=>nomatch z⟩
  ·rw[zk.mp a];refine⟨?_,?_,λz=>nomatch z⟩
   ·show 0<(x.2++b).length;rw[zh]
    have:=hb.pos
    omega
   ·show x.1+(x.2++b).length<=_;omega
 ·rcases zz.mp a with a | a
  ·exact h.hd y (zY _ a)
  ·rw[zk.mp a];obtain⟨c,h1,h2⟩:=h.hd x d;refine⟨c,?_,h2⟩;show(x.2++b)[0]?=_;rw[zx (h.ln x d).1];exact h1
 ·rcases zz.mp a with a | a
  ·exact h.bd y (zY _ a)
  ·rw[zk.mp a];show ∀c,q[x.1+(x.2++b).length]?=some c->c.1≠[];rw[f];exact l
 ·refine List.pairwise_append.mpr ⟨j,List.pairwise_singleton _ _,λy a z k=>?_⟩;rw[zk.mp k];exact i y a x (zk.mpr rfl)
end
def wsV(V:List Sg):Int:=(V.map λx:Sg=>4+(x.2.length:Int)).sum
theorem Eg(V:List Sg)(x:Sg):wsV (V++[x])=wsV V+(4+(x.2.length:Int)):=by
 unfold wsV;rw[zG,List.sum_append];simp
theorem Nr{r:Row}{bs:List Row}(k:∀b∈bs,Bl b){ps:Tb}:∀(rest done:List Row) (s:Nat) (ms:List M3) (V:List Sg),bs=done++rest->(s=0\/s=1)->Wy ps (mvC r bs) (fnC bs) ((done.length:Int),(s:Int)) ms->GV bs.flatten done.flatten.length s V ->
  (∃f,GV bs.flatten bs.flatten.length f (rnV bs.flatten V (ms.map (·.name)) (sps done.flatten.length rest)))/\wsV (rnV bs.flatten V (ms.map (·.name)) (sps done.flatten.length rest))=wsV V+(ms.map (·.cost)).sum
 | [],done,s,ms,V,i,hs,w,g=>by
  rw[zT] at i;subst i
  cases ms with
  |nil=>exact⟨⟨s,g⟩,by simp[rnV,sps]⟩
  |cons m ms =>
   obtain⟨W,_⟩:=w
   have:=of_decide_eq_false W
   exact absurd rfl this
 |b::rest,done,s,ms,V,i,hs,w,g=>by
  have Y:(sps 0 bs)[done.length]?=some (done.flatten.length,b.length):=by rw[i,DY,zy]
  have l:Bl b:=k b (by rw[i];exact zI _ zo)
  have hbl:done.length<bs.length:=by rw[i,zh,zC];omega
  have P:seg bs.flatten (done.flatten.length,b.length)=b:=by rw[i];exact Qtn done b rest
  have G:(done++[b]).flatten.length=done.flatten.length+b.length:=by rw[jm,List.flatten_singleton,zh]
  have dl:(done++[b]).length=done.length+1:=by rw[zh];rfl
  have hb':bs=(done++[b])++rest:=by rw[zP];exact i
  have nx:∀c,bs.flatten[done.flatten.length+b.length]?=some c->c.1≠[]:=λc n=>by
   rw[<-G,hb'] at n;exact Qvq (λx X=>k x (by rw[hb'];exact zI _ X)) n
  cases ms with
  |nil =>
   have z:(done.length:Int)=(bs.length:Int):=jg (show fnC bs ((done.length:Int),(s:Int))=true from w);omega
  |cons m ms =>
   obtain⟨_,U,O⟩:=w;have E:=List.mem_of_find?_eq_some U;obtain⟨_,p,B,Z⟩:=DR E;obtain⟨p',j,n⟩:=Qxj E;rw[Y] at B j;have e1:=zA B;have e2:=zA j;subst e1;subst e2;have go:∀(f:Nat) (u:List Sg),stV bs.flatten V m.name (done.flatten.length,b.length)=u->(f=0\/f=1)->m.other=((done.length:Int)+1,(f:Int))->GV bs.flatten (done.flatten.length+b.length) f u->wsV u=wsV V+m.cost ->
     (∃f,GV bs.flatten bs.flatten.length f (rnV bs.flatten V ((m::ms).map (·.name)) (sps done.flatten.length (b::rest))))/\wsV (rnV bs.flatten V ((m::ms).map (·.name)) (sps done.flatten.length (b::rest)))=wsV V+((m::ms).map (·.cost)).sum:=λf u eV J L g1 H=>by
    have F:=Nr (r:=r) k (ps:=ps) rest (done++[b]) f ms u hb' J (by rw[L] at O;rw[dl];exact O) (by rw[G];exact g1);rw[G] at F
    have er:rnV bs.flatten V ((m::ms).map (·.name)) (sps done.flatten.length (b::rest))=rnV bs.flatten u (ms.map (·.name)) (sps (done.flatten.length+b.length) rest):=by
     rw[<-eV];rfl
    rw[er,zl,List.sum_cons];exact⟨F.1,by rw[F.2,H];omega⟩
   have T:ig≠lH:=by decide
   have R:kOn≠lH:=by decide
   have Q:kOn≠ig:=by decide
   rcases Z with⟨d,ha,y⟩ | ⟨d,I,y⟩ | ⟨d,hs1,y⟩
   ·have a:m.cost=0:=by
     rcases n with⟨_,h⟩ | ⟨h,_⟩ | ⟨h,_⟩
     ·exact h
     ·exact absurd (h.symm.trans d) T
     ·exact absurd (h.symm.trans d) R
    exact go 0 V (by rw[d];rfl) (.inl rfl) y (g.pass l.pos) (by rw[a];omega)
   ·subst I
    have a:m.cost=4+(b.length:Int):=by
     rcases n with⟨h,_⟩ | ⟨_,h⟩ | ⟨h,_⟩
     ·exact absurd (d.symm.trans h) T
     ·exact h
     ·exact absurd (h.symm.trans d) Q
    refine go 1 (V++[(done.flatten.length,b)]) (by rw[d];show V++[(_,seg _ _)]=_;rw[P]) (.inr rfl) y (g.begn l nx) ?_;rw[Eg,a]
   ·obtain rfl:s=1:=by omega
    have a:m.cost=(b.length:Int):=by
     rcases n with⟨h,_⟩ | ⟨h,_⟩ | ⟨_,h⟩
     ·exact absurd (d.symm.trans h) R
     ·exact absurd (d.symm.trans h) Q
     ·exact h
    refine go 1 (exl V b) (by rw[d];show exl V (seg _ _)=_;rw[P]) (.inr rfl) y (g.onn l nx) ?_;obtain⟨V',x,rfl,_⟩:=g.on rfl;rw[ur,Eg,Eg,a,zh];omega
theorem Qvn{r q:Row}{V:List Sg}(k:ROk r)(l:ROk q)(m:q.length<=40)(w:Way r q V):(∃s,GV q q.length s V)/\∃bs ps,(∀b∈bs,Bl b)/\q=bs.flatten/\Pri bs.length ndC (mvC r bs) (fnC bs) 0 ps/\lk ps (0,0)=some (some (wsV V)):=by
 obtain⟨bs,ps,c,f,a,rfl,i,h,w,rfl⟩:=w;have T:=trC a m k l 0;have z:=Nr (r:=r) a (ps:=ps) bs [] 0 f [] rfl (.inl rfl) w ⟨λx d=>(nomatch d),λx d=>(nomatch d),λx d=>(nomatch d),List.Pairwise.nil,λz=>nomatch z⟩;have j:=Np T.fw i f 0 (0,0) c (Nat.zero_le _) T.f0 h w;refine⟨z.1,bs,ps,a,rfl,i,?_⟩;rw[h];have g:=z.2;rw[j] at g
 have:wsV []=0:=rfl
 rw[show rnV bs.flatten [] (f.map (·.name)) (sps 0 bs)=rnV bs.flatten [] (f.map (·.name)) (sps ([]:List Row).flatten.length bs) from rfl,g];congr 2;omega
def rF:MS:=aZ (mC (.bl false))
theorem not_tru{m:L2.M D}{ρ:aA}{O a:au}(h:m ρ O=.ok (.bl true) a):cB (bK m) ρ O=.ok false a:=by
 rw[sW,sS,h,aV,oh,sU,sO,aV];rfl
theorem Qwc{t:L2.M Bool}{a b:MS}{ρ:aA}{O c:au}(h:t ρ O=.ok false c):aY t a b ρ O=b ρ c:=by
 rw[vC,h,vD,if_neg zp]
theorem QwB:cF "int" "int" = true:=by decide
theorem Qxs:cF "int" "bool" = false:=by decide
theorem QwT:cF "tuple" "tuple" = true:=by decide
theorem Nt:cF "list" "list" = true:=by decide
theorem Qs1(i:Int)(O:au):lq [.int i] O=.ok (.bl true) O:=by
 have b:cH "int" (aa 0) [some (.int i)] O=.ok (.bl true) O:=by rw[jF (d:=.int i) (t:="int") rfl rfl,QwB]
 have a:cH "bool" (aa 0) [some (.int i)] O=.ok (.bl false) O:=by rw[jF (d:=.int i) (t:="int") rfl rfl,Qxs]
 show bI (aZ (fL (cH "int" (aa 0)) (pG (cH "bool" (aa 0)))) [some (.int i)] O)=_;rw[jO,kY,b,aV,kW,if_pos rfl,Ja,a,aV];rfl
theorem Eh{m:L2.M D}{ρ:aA}{O:au}{i:Int}(h:m ρ O=.ok (.int i) O):cB (bK (aM lq (aj m aq))) ρ O=.ok false O:=not_tru ((cV (ma1 h)).trans (Qs1 i O))
theorem QqQ{mo my:L2.M D}{ρ:aA}{O:au}{p:Nat}{ps:Tb}{n:Nd}{v:Option Int}(h1:mo ρ O=.ok (.ob p) O)(h2:O[p]?=some (.dt (tab ps)))(h3:my ρ O=.ok (nN n) O)(h4:lk ps n=some v):qd mo my ρ O=.ok (oD v) O:=by
 unfold qd;rw[h1,aV];dsimp only;rw[h2];dsimp only;rw[h3,aV,qU,h2];dsimp only;rw[DG,h4];rfl
theorem QuK{mo:L2.M D}{ρ:aA}{O:au}{p:Nat}{a:List (List Key×D)}(h1:mo ρ O=.ok (.ob p) O)(h2:O[p]?=some (.dt a)):n6 mo ρ O=.ok (.int a.length) O:=by
 unfold n6;rw[h1,aV];dsimp only;rw[h2]
theorem Qw0{mo:L2.M D}{ρ:aA}{O:au}{p:Nat}{a:List (List Key×D)}(h1:mo ρ O=.ok (.ob p) O)(h2:O[p]?=some (.dt a)):qb mo ρ O=.ok (.bl true) O:=by
 unfold qb;rw[h1,aV];dsimp only;rw[h2]
theorem Nu:∀(ns ks:List Nd),ns.Nodup->(∀n∈ns,n∈ks)->ns.length<=ks.length
 | [],_,_,_=>Nat.zero_le _
 |n::ns,ks,hd,h=>by
  have hd':=List.nodup_cons.mp hd;have a:=h n zo
  have:=Nu ns (ks.erase n) hd'.2 λm b=>(List.mem_erase_of_ne (λz:m=n=>hd'.1 (by rw[<-z];exact b))).mpr (h m (zv _ b))
  rw[List.length_erase_of_mem a] at this
  have:=List.length_pos_of_mem a
  rw[zC];omega
def o7:Nat->List Nd
 | 0=>[]
 |k+1=>((k:Int),0)::((k:Int),1)::o7 k
theorem Ei:∀{k:Nat}{n:Nd},n∈o7 k->∃a,a<k/\n∈ndC a
 | 0,n,h=>nomatch h
 |k+1,n,h=>by
  rcases zm.mp h with rfl | h
  ·exact⟨k,ja k,lJ k (.inl rfl)⟩
  ·rcases zm.mp h with rfl | h
   ·exact⟨k,ja k,lJ k (.inr rfl)⟩
   ·obtain⟨a,h1,h2⟩:=Ei h;exact⟨a,by omega,h2⟩
theorem Nv:∀k:Nat,(o7 k).length=2 * k
 | 0=>rfl
 |k+1=>by
  show(o7 k).length+1+1=_;rw[Nv k];omega
theorem Nx{k:Nat}{s:Int}(h:((k:Int),s)∈o7 k):False:=by
 obtain⟨a,h1,h2⟩:=Ei h;obtain⟨b,e,_⟩:=oY h2;have z:(k:Int)=(a:Int):=congrArg Prod.fst e;omega
theorem Ny:∀k:Nat,(o7 k).Nodup
 | 0=>List.nodup_nil
 |k+1=>by
  refine List.nodup_cons.mpr ⟨λh=>?_,List.nodup_cons.mpr ⟨λh=>Nx h,Ny k⟩⟩
  rcases zm.mp h with h | h
  ·have z:(0:Int)=1:=congrArg Prod.snd h;omega
  ·exact Nx h
theorem Nz{n:Nd}:∀{ps:Tb},(lk ps n).isSome=true->n∈ps.map (·.1)
 | [],h=>nomatch h
 |x::ps,h=>by
  rw[oX] at h
  by_cases a:x.1=n
  ·rw[zl,a];exact zo
  ·rw[if_neg a] at h;exact zv _ (Nz h)
theorem Qs7{r:Row}{bs:List Row}{b:Tb}(d:Pri bs.length ndC (mvC r bs) (fnC bs) 0 b)(f:b.length<=2 * (bs.length+1)):b.length=2 * (bs.length+1):=by
 have:=Nu (o7 (bs.length+1)) (b.map (·.1)) (Ny _) λn c=>by
  obtain⟨a,h1,h2⟩:=Ei c;refine Nz ?_;rw[d a (Nat.zero_le _) (by omega) n h2];rfl
 rw[Nv,zd] at this;omega
def eG(p:Nat)(r q:Row)(h g f d c b a:Option D):aA:=[some (.ob p),some (dRw r),some (dRw q),h,g,f,d,c,b,a]
def KN:L2.M D:=bA (aj (aa 4) (aj (aa 5) aq))
def KB1:MS:=aB (aF 6 (qd (mG (aa 0)) KN)) (aY (cR (cB (bK (aM lq (aj (aa 6) aq)))) (cR (aH (ak gLt (aa 6) (mC (.int 0)))) (fW (aH (ak gEq (aa 4) (aL aU (aj (aa 3) aq)))) (aH (ak gNe (aa 6) (mC (.int 0))))))) rF bx)
def KB2:MS:=aY (aH (ak gGt (dF (mG (aa 0)) KN) (ak aN (aa 7) (dF (mG (aa 0)) (aa 9))))) rF bx
def w5:MG:=dM 3 (bC (mgN 7) (bC (mgN 8) (bC (mgN 9) dU)))
def KF1:MS:=bO (dq (aj (mC (.int 2)) aq)) (mgN 5) KB1
def KF2:MS:=bO (dq (aj (mC (.int 2)) aq)) (mgN 5) (bO (cA (aM oM (aj (aa 1) (aj (aa 2) (aj (aa 3) (aj KN aq)))))) w5 KB2)
section
variable {r:Row}{bs:List Row}{O:au}{p:Nat}{cur:Tb}
theorem Ej(k s:Nat){f d c b a:Option D}:KN (eG p r bs.flatten f (some (.int (k:Int))) (some (.int (s:Int))) d c b a) O=.ok (dN k s) O:=jV (xs:=[.int (k:Int),.int (s:Int)]) (maS rfl (ma1 rfl)) (show 2<=1000000 by decide)
theorem Ek{g f d c b a:Option D}:aL aU (aj (aa 3) aq) (eG p r bs.flatten (some (.lst ((sps 0 bs).map dS))) g f d c b a) O=.ok (.int (bs.length:Int)) O:=by
 have:=qK (m:=aa 3) (ρ:=eG p r bs.flatten (some (.lst ((sps 0 bs).map dS))) g f d c b a) (O:=O) (l:=(sps 0 bs).map dS) rfl
 rw[zd,iG] at this;exact this
theorem QuR(B:∀b∈bs,Bl b)(R:bs.flatten.length<=40)(L:ROk r)(P:ROk bs.flatten)(Q:O[p]?=some (.dt (tab cur)))(u:Pri bs.length ndC (mvC r bs) (fnC bs) 0 cur){k s:Nat}(U:k<=bs.length)(Y:s=0\/s=1)(G i h f:Option D):
  ∃X,KB1 (eG p r bs.flatten (some (.lst ((sps 0 bs).map dS))) (some (.int (k:Int))) (some (.int (s:Int))) G i h f) O=.nx (eG p r bs.flatten (some (.lst ((sps 0 bs).map dS))) (some (.int (k:Int))) (some (.int (s:Int))) X i h f) O:=by
 have T:=trC B R L P 0;have d:=lJ k (s:=(s:Int)) (by omega);obtain⟨c,m⟩:=qY T (neC r bs) u (bs.length - k) k ((k:Int),(s:Int)) (by omega) d;have Z:=Nm T.fw u (Nq r bs) (bs.length - k) k _ c (by omega) d m
 have W:k=bs.length->c=0:=λz=>by
  have e':=u.at U d m;rw[if_pos (show fnC bs ((k:Int),(s:Int))=true from zn (by show(k:Int)=_;omega))] at e';exact zA e'
 refine⟨some (.int c),?_⟩;have I:aF 6 (qd (mG (aa 0)) KN) (eG p r bs.flatten (some (.lst ((sps 0 bs).map dS))) (some (.int (k:Int))) (some (.int (s:Int))) G i h f) O=.nx (eG p r bs.flatten (some (.lst ((sps 0 bs).map dS))) (some (.int (k:Int))) (some (.int (s:Int))) (some (.int c)) i h f) O:=bV (QqQ (n:=((k:Int),(s:Int))) (v:=some c) rfl Q (Ej k s) m);obtain⟨ρ,a⟩:∃ρ,ρ=eG p r bs.flatten (some (.lst ((sps 0 bs).map dS))) (some (.int (k:Int))) (some (.int (s:Int))) (some (.int c)) i h f:=⟨_,rfl⟩
 have l:aa 6 ρ O=.ok (.int c) O:=by rw[a];rfl
 have H:aa 4 ρ O=.ok (.int (k:Int)) O:=by rw[a];rfl
 have J:aL aU (aj (aa 3) aq) ρ O=.ok (.int (bs.length:Int)) O:=by rw[a];exact Ek
 have F:=qL (b:=mC (.int 0)) (j:=0) l rfl;rw[zf (by omega)] at F;have E:=ue (jW H J) (fJ (bc (g:=gNe) (b:=mC (.int 0)) (y:=.int 0) l rfl yQ))
 have z:(decide ((k:Int)=(bs.length:Int)) && !decide (c=0))=false:=by
  by_cases x:k=bs.length
  ·rw[zn (W x)];simp
  ·rw[zf (by omega)];rfl
 rw[z] at E;unfold KB1;rw[sq I,<-a,bN (or_f (Eh l) (or_f F E))];rfl
theorem QvH(l:∀b∈bs,Bl b)(F:bs.flatten.length<=40)(B:ROk r)(E:ROk bs.flatten)(u:O[p]?=some (.dt (tab cur)))(h:Pri bs.length ndC (mvC r bs) (fnC bs) 0 cur){k s:Nat}(J:k<bs.length)(I:s=0\/s=1){m:M3}(x:m∈mvC r bs ((k:Int),(s:Int)))(X j:Option D):
  KB2 (eG p r bs.flatten X (some (.int (k:Int))) (some (.int (s:Int))) j (some (.int m.cost)) (some (.str m.name)) (some (nN m.other))) O=.nx (eG p r bs.flatten X (some (.int (k:Int))) (some (.int (s:Int))) j (some (.int m.cost)) (some (.str m.name)) (some (nN m.other))) O:=by
 have T:=trC l F B E 0;have d:=lJ k (s:=(s:Int)) (by omega);obtain⟨c,y⟩:=qY T (neC r bs) h (bs.length - k) k ((k:Int),(s:Int)) (by omega) d;obtain⟨b,P,L,H⟩:=T.fw k _ (by omega) d m x;obtain⟨G,f⟩:=qY T (neC r bs) h (bs.length - b) b m.other (by omega) H;have e':=h.at (by omega) d y;rw[if_neg (show ¬fnC bs ((k:Int),(s:Int))=true from λz=>by have:(k:Int)=_:=jg z;omega)] at e';have le:=Nk e'.symm x f;have g:=wQ (qW (mo:=mG (aa 0)) (my:=KN) (ρ:=eG p r bs.flatten X (some (.int (k:Int))) (some (.int (s:Int))) j (some (.int m.cost)) (some (.str m.name)) (some (nN m.other))) (O:=O) (n:=((k:Int),(s:Int))) (v:=some c) rfl u (Ej k s) y) (dW (a:=aa 7) (i:=m.cost) rfl (qW (mo:=mG (aa 0)) (my:=aa 9) (n:=m.other) (v:=some G) rfl u rfl f))
 rw[zf (by omega)] at g;unfold KB2;rw[bN g];rfl
theorem Qvp(h:∀b∈bs,Bl b)(hl:bs.flatten.length<=40)(hr:ROk r)(hq:ROk bs.flatten)(Y:O[p]?=some (.dt (tab cur)))(hP:Pri bs.length ndC (mvC r bs) (fnC bs) 0 cur)(hc:cur.length=2 * (bs.length+1)):wJ [.ob p,dRw r,dRw bs.flatten] O=.ok (.bl true) O:=by
 have bl:=um h;obtain⟨a,I⟩:∃S,S=some (D.lst ((sps 0 bs).map dS)):=⟨_,rfl⟩
 have s3:aF 3 (aM t7 (aj (aa 2) aq)) (eG p r bs.flatten none none none none none none none) O=.nx (eG p r bs.flatten a none none none none none none) O:=by
  rw[I];exact bV ((cV (ma1 (x:=dRw bs.flatten) rfl)).trans (ZF bs h (by omega) O))
 have sI:aY (cR (cB (bK (qb (mG (aa 0))))) (aH (ak gNe (n6 (mG (aa 0))) (ak aN (ak cI (mC (.int 2)) (aL aU (aj (aa 3) aq))) (mC (.int 2)))))) rF bx (eG p r bs.flatten a none none none none none none) O=.nx (eG p r bs.flatten a none none none none none none) O:=by
  have X:aL aU (aj (aa 3) aq) (eG p r bs.flatten a none none none none none none) O=.ok (.int (bs.length:Int)) O:=by rw[I];exact Ek
  have ml:ak cI (mC (.int 2)) (aL aU (aj (aa 3) aq)) (eG p r bs.flatten a none none none none none none) O=.ok (.int (2 * (bs.length:Int))) O:=bc (x:=.int 2) rfl X (mL (.inl ⟨by omega,by omega⟩));have l0:=QuK (mo:=mG (aa 0)) (ρ:=eG p r bs.flatten a none none none none none none) (O:=O) rfl Y;rw[show(tab cur).length=cur.length from zd _,hc] at l0
  have t:aH (ak gNe (n6 (mG (aa 0))) (ak aN (ak cI (mC (.int 2)) (aL aU (aj (aa 3) aq))) (mC (.int 2)))) (eG p r bs.flatten a none none none none none none) O=.ok false O:=by
   have:=fJ (bc (g:=gNe) l0 (dW (b:=mC (.int 2)) (j:=2) ml rfl) yQ)
   rw[zn (by omega)] at this;exact this
  exact bN (or_f (not_tru (Qw0 (mo:=mG (aa 0)) rfl Y)) t)
 obtain⟨ρ1,O1,e1,hO1,G,u,c,rfl⟩:=fP (g:=mgN 4) (b:=KF1) (λ_ ρ y=>y=O/\∃G u c,ρ=eG p r bs.flatten a G u c none none none) (eE 0 (bs.length+1)) 0 (eG p r bs.flatten a none none none none none none) O ⟨rfl,_,_,_,rfl⟩ (by
  rintro k d ρ y hk ⟨rfl,G,u,c,rfl⟩;obtain⟨W,rfl⟩:=jY hk
  obtain⟨ρ2,U,e2,H,l,R,rfl⟩:=fP (g:=mgN 5) (b:=KB1) (λ_ ρ f=>f=y/\∃l R,ρ=eG p r bs.flatten a (some (.int (k:Int))) l R none none none) (eE 0 2) 0 (eG p r bs.flatten a (some (.int (k:Int))) u c none none none) y ⟨rfl,_,_,rfl⟩ (by
   rintro s d ρ f hs ⟨rfl,l,R,rfl⟩;obtain⟨hs5,rfl⟩:=jY hs;obtain⟨c6,ec⟩:=QuR h hl hr hq Y hP (k:=k) (s:=s) (by omega) (by omega) R none none none;rw[<-I] at ec
   exact⟨_,rfl,_,_,.inl ec,rfl,_,_,rfl⟩)
  subst H
  have z:KF1 (eG p r bs.flatten a (some (.int (k:Int))) u c none none none) U=.nx (eG p r bs.flatten a (some (.int (k:Int))) l R none none none) U:=by
   unfold KF1;rw[fM,jE (n:=2) rfl (by decide),fO,e2]
  exact⟨_,rfl,_,_,.inl z,rfl,_,_,_,rfl⟩)
 subst hO1
 obtain⟨ρ3,O3,e3,hO3,c4,Q,P,L,J,rfl⟩:=fP (g:=mgN 4) (b:=KF2) (λ_ ρ y=>y=O1/\∃c4 Q P L J,ρ=eG p r bs.flatten a c4 Q c P L J) (eE 0 bs.length) 0 (eG p r bs.flatten a G u c none none none) O1 ⟨rfl,_,_,_,_,_,rfl⟩ (by
  rintro k d ρ y hk ⟨rfl,c4,Q,P,L,J,rfl⟩;obtain⟨W,rfl⟩:=jY hk
  obtain⟨ρ2,U,e2,H,l,F,E,B,rfl⟩:=fP (g:=mgN 5) (b:=bO (cA (aM oM (aj (aa 1) (aj (aa 2) (aj (aa 3) (aj KN aq)))))) w5 KB2) (λ_ ρ f=>f=y/\∃l F E B,ρ=eG p r bs.flatten a (some (.int (k:Int))) l c F E B) (eE 0 2) 0 (eG p r bs.flatten a (some (.int (k:Int))) Q c P L J) y ⟨rfl,_,_,_,_,rfl⟩ (by
   rintro s d ρ f hs ⟨rfl,l,F,E,B,rfl⟩;obtain⟨hs5,rfl⟩:=jY hs
   have em:cA (aM oM (aj (aa 1) (aj (aa 2) (aj (aa 3) (aj KN aq))))) (eG p r bs.flatten a (some (.int (k:Int))) (some (.int (s:Int))) c F E B) f=.ok ((mvC r bs ((k:Int),(s:Int))).map d3) f:=by
    refine g8 ?_;rw[cV (maS (x:=dRw r) rfl (maS (x:=dRw bs.flatten) rfl (maS (x:=.lst ((sps 0 bs).map dS)) (by rw[I];rfl) (ma1 (Ej k s))))),ZZ h hr hq k s (by omega),Mz]
   obtain⟨ρ4,T,e4,hO4,d7,d8,Z,rfl⟩:=fP (g:=w5) (b:=KB2) (λ_ ρ T=>T=f/\∃d7 d8 Z,ρ=eG p r bs.flatten a (some (.int (k:Int))) (some (.int (s:Int))) c d7 d8 Z) ((mvC r bs ((k:Int),(s:Int))).map d3) 0 (eG p r bs.flatten a (some (.int (k:Int))) (some (.int (s:Int))) c F E B) f ⟨rfl,_,_,_,rfl⟩ (by
    rintro i d ρ T hi ⟨rfl,d7,d8,Z,rfl⟩;obtain⟨m,hm,rfl⟩:=zL.mp (zD hi)
    exact⟨_,rfl,_,_,.inl (QvH h hl hr hq Y hP W (by omega) hm a c),rfl,_,_,_,rfl⟩)
   subst hO4
   have z:bO (cA (aM oM (aj (aa 1) (aj (aa 2) (aj (aa 3) (aj KN aq)))))) w5 KB2 (eG p r bs.flatten a (some (.int (k:Int))) (some (.int (s:Int))) c F E B) T=.nx (eG p r bs.flatten a (some (.int (k:Int))) (some (.int (s:Int))) c d7 d8 Z) T:=by
    rw[fM,em,fO,e4]
   exact⟨_,rfl,_,_,.inl z,rfl,_,_,_,_,rfl⟩)
  subst H
  have z:KF2 (eG p r bs.flatten a (some (.int (k:Int))) Q c P L J) U=.nx (eG p r bs.flatten a (some (.int (k:Int))) l c F E B) U:=by
   unfold KF2;rw[fM,jE (n:=2) rfl (by decide),fO,e2]
  exact⟨_,rfl,_,_,.inl z,rfl,_,_,_,_,_,rfl⟩)
 subst hO3;show bI (aB (aF 3 (aM t7 (aj (aa 2) aq))) (aB (aY (cR (cB (bK (qb (mG (aa 0))))) (aH (ak gNe (n6 (mG (aa 0))) (ak aN (ak cI (mC (.int 2)) (aL aU (aj (aa 3) aq))) (mC (.int 2)))))) rF bx) (aB (bO (dq (aj (ak aN (aL aU (aj (aa 3) aq)) (mC (.int 1))) aq)) (mgN 4) KF1) (aB (bO (dq (aj (aL aU (aj (aa 3) aq)) aq)) (mgN 4) KF2) (aZ (mC (.bl true)))))) (eG p r bs.flatten none none none none none none none) O3)=_
 have X:∀G u c a7 a8 a9,aL aU (aj (aa 3) aq) (eG p r bs.flatten a G u c a7 a8 a9) O3=.ok (.int (bs.length:Int)) O3:=λG u c a7 a8 a9=>by rw[I];exact Ek
 rw[sq s3,sq sI,bh,fM,jE (n:=bs.length+1) (by rw[jc];exact dW (X _ _ _ _ _ _) rfl) (by omega),fO,e1,bj,bh,fM,jE (n:=bs.length) (X _ _ _ _ _ _) (by omega),fO,e3,bj];rfl
end
def FW(Q:List Row)(h:Nat)(x:Wr):Prop:=x.1<h/\0<x.2.2.length/\x.2.2.length<=40/\x.2.2=seg (Q.getD x.1 []) (x.2.1,x.2.2.length)/\(∃c,x.2.2[0]?=some c/\c.1≠[])/\∀c,(Q.getD x.1 [])[x.2.1+x.2.2.length]?=some c->c.1≠[]
def WP(x y:Wr):Prop:=x.1<y.1\/(x.1=y.1/\x.2.1+x.2.2.length<y.2.1)
def J1:MS:=aY (cR (cB (bK (cH "tuple" (aa 3)))) (cR (aH (ak gNe (aL aU (aj (aa 3) aq)) (mC (.int 3)))) (cR (cB (bK (aM lq (aj (ak gIx (aa 3) (mC (.int 0))) aq)))) (cB (bK (aM lq (aj (ak gIx (aa 3) (mC (.int 1))) aq))))))) rF bx
def J2:MS:=iw (aa 3) (dM 3 (bC (mgN 4) (bC (mgN 5) (bC (mgN 6) dU))))
def J3:MS:=aY (cR (cB (bK (cH "list" (aa 6)))) (cR (aH (ak gEq (aL aU (aj (aa 6) aq)) (mC (.int 0)))) (cR (cB (aH (lU gLe gLt (mC (.int 0)) (aa 4) (aL aU (aj (aa 1) aq))))) (aH (ak gLt (aa 5) (mC (.int 0))))))) rF bx
def J4:MS:=aY (cR (aH (ak gLt (aa 4) (ak gIx (aa 2) (mC (.int 0))))) (fW (aH (ak gEq (aa 4) (ak gIx (aa 2) (mC (.int 0))))) (aH (ak gLe (aa 5) (ak gIx (aa 2) (mC (.int 1))))))) rF bx
def J5:MS:=aY (cR (cB (bK (aM mW (aj (aa 6) (aj (mSl (ak gIx (aa 1) (aa 4)) (moS (aa 5)) (moS (ak aN (aa 5) (aL aU (aj (aa 6) aq))))) aq))))) (aH (ak gEq (ak gIx (ak gIx (aa 6) (mC (.int 0))) (mC (.int 0))) (mC (.str []))))) rF bx
def J6:MS:=aF 7 (ak aN (aa 5) (aL aU (aj (aa 6) aq)))
def J7:MS:=aY (fW (aH (ak gLt (aa 7) (aL aU (aj (ak gIx (aa 1) (aa 4)) aq)))) (aH (ak gEq (ak gIx (ak gIx (ak gIx (aa 1) (aa 4)) (aa 7)) (mC (.int 0))) (mC (.str []))))) rF bx
def J8:MS:=aF 2 (bA (aj (aa 4) (aj (aa 7) aq)))
def w6:MS:=aB J1 (aB J2 (aB J3 (aB J4 (aB J5 (aB J6 (aB J7 J8))))))
def eD(A:D)(Q:List Row)(a b:Int)(h g f d c:Option D):aA:=[some A,some (dP Q),some (.tup [.int a,.int b]),h,g,f,d,c]
theorem NB{m:L2.M D}{ρ:aA}{O:au}{c:C}(h:m ρ O=.ok (dC c) O):ak gIx m (mC (.int 0)) ρ O=.ok (.str c.1) O:=bc (x:=dC c) (y:=.int 0) h rfl rfl
theorem El{a mi:L2.M D}{ρ:aA}{O:au}{d:D}{row:Row}{k:Nat}{c:C}(h0:a ρ O=.ok d O)(hd:bw O d=.lst (row.map dC))(hi:mi ρ O=.ok (.int (k:Int)) O)(b:row[k]?=some c):ak gIx a mi ρ O=.ok (dC c) O :=
 bc h0 hi (by rw[hd,mJ];exact iW (by rw[zq,b];rfl))
theorem uw{m:L2.M D}{ρ:aA}{O:au}{d:D}{row:Row}(h:m ρ O=.ok d O)(hd:bw O d=.lst (row.map dC)):aL aU (aj m aq) ρ O=.ok (.int (row.length:Int)) O:=by
 have:=gJ (g:=aU) (xs:=[d]) (z:=.int ((row.map dC).length:Int)) (ma1 h) (by rw[zl,zQ,hd];rfl)
 rw[zd] at this;exact this
theorem QwU(A:D){Q:List Row}{h:Nat}(hQ:Q.length=h){O:au}{x:Wr}{n:Nat}(hn:O[n]?=some (wO x))(f:FW Q h x){a c:Int}(X:a<(x.1:Int)\/(a=(x.1:Int)/\c<(x.2.1:Int)))(H G F E:Option D):
  w6 (eD A Q a c (some (dH x n)) H G F E) O=.nx (eD A Q (x.1:Int) ((x.2.1+x.2.2.length:Nat):Int) (some (dH x n)) (some (.int (x.1:Int))) (some (.int (x.2.1:Int))) (some (.ob n)) (some (.int ((x.2.1+x.2.2.length:Nat):Int)))) O:=by
 obtain⟨f1,f2,f3,f4,⟨c0,f5,f6⟩,f7⟩:=f;have hd:bw O (.ob n)=.lst (x.2.2.map dC):=lE hn
 have s1:J1 (eD A Q a c (some (dH x n)) H G F E) O=.nx (eD A Q a c (some (dH x n)) H G F E) O:=by
  have J:cH "tuple" (aa 3) (eD A Q a c (some (dH x n)) H G F E) O=.ok (.bl true) O:=by rw[jF (d:=dH x n) (t:="tuple") rfl rfl,QwT]
  have I:aH (ak gNe (aL aU (aj (aa 3) aq)) (mC (.int 3))) (eD A Q a c (some (dH x n)) H G F E) O=.ok false O:=fJ (bc (x:=.int 3) (gJ (xs:=[dH x n]) (ma1 rfl) rfl) rfl rfl);have W:ak gIx (aa 3) (mC (.int 0)) (eD A Q a c (some (dH x n)) H G F E) O=.ok (.int (x.1:Int)) O:=bc (x:=dH x n) (y:=.int 0) rfl rfl rfl;have U:ak gIx (aa 3) (mC (.int 1)) (eD A Q a c (some (dH x n)) H G F E) O=.ok (.int (x.2.1:Int)) O:=bc (x:=dH x n) (y:=.int 1) rfl rfl rfl;unfold J1;rw[bN (or_f (not_tru J) (or_f I (or_f (Eh W) (Eh U))))];rfl
 have s2:J2 (eD A Q a c (some (dH x n)) H G F E) O=.nx (eD A Q a c (some (dH x n)) (some (.int (x.1:Int))) (some (.int (x.2.1:Int))) (some (.ob n)) E) O:=rfl
 have L:Q[x.1]?=some (Q.getD x.1 []):=by rw[zK,zj (by omega)];rfl
 obtain⟨ρ,i⟩:∃ρ,ρ=eD A Q a c (some (dH x n)) (some (.int (x.1:Int))) (some (.int (x.2.1:Int))) (some (.ob n)) E:=⟨_,rfl⟩
 have T:aa 4 ρ O=.ok (.int (x.1:Int)) O:=by rw[i];rfl
 have R:aa 5 ρ O=.ok (.int (x.2.1:Int)) O:=by rw[i];rfl
 have P:aa 6 ρ O=.ok (.ob n) O:=by rw[i];rfl
 have a0:ak gIx (aa 2) (mC (.int 0)) ρ O=.ok (.int a) O:=by rw[i];exact bc (x:=.tup [.int a,.int c]) (y:=.int 0) rfl rfl rfl
 have a1:ak gIx (aa 2) (mC (.int 1)) ρ O=.ok (.int c) O:=by rw[i];exact bc (x:=.tup [.int a,.int c]) (y:=.int 1) rfl rfl rfl
 have l1:aL aU (aj (aa 1) aq) ρ O=.ok (.int (h:Int)) O:=by
  rw[i]
  have:=qK (m:=aa 1) (ρ:=eD A Q a c (some (dH x n)) (some (.int (x.1:Int))) (some (.int (x.2.1:Int))) (some (.ob n)) E) (O:=O) (l:=Q.map dRw) rfl
  rw[zd,hQ] at this;exact this
 have l6:aL aU (aj (aa 6) aq) ρ O=.ok (.int (x.2.2.length:Int)) O:=uw P hd;have Y:ak gIx (aa 1) (aa 4) ρ O=.ok (dRw (Q.getD x.1 [])) O:=bc (x:=dP Q) (by rw[i];rfl) T (iW (by rw[zq,L];rfl))
 have e7:ak aN (aa 5) (aL aU (aj (aa 6) aq)) ρ O=.ok (.int ((x.2.1+x.2.2.length:Nat):Int)) O:=by
  rw[jc];exact dW R l6
 have s3:J3 ρ O=.nx ρ O:=by
  have J:cH "list" (aa 6) ρ O=.ok (.bl true) O:=by rw[jF (t:="list") P (by rw[hd];rfl),Nt]
  have I:=jW (b:=mC (.int 0)) (j:=0) l6 rfl;rw[zf (by omega)] at I
  have W:cB (aH (lU gLe gLt (mC (.int 0)) (aa 4) (aL aU (aj (aa 1) aq)))) ρ O=.ok false O:=by
   have ch:lU gLe gLt (mC (.int 0)) (aa 4) (aL aU (aj (aa 1) aq)) ρ O=.ok (.bl true) O:=by
    rw[Xf,m_c,aV,T,aV,show gLe (bw O (.int 0)) (bw O (.int (x.1:Int)))=some (.bl (decide ((0:Int)<=(x.1:Int)))) from rfl,zn (by omega),Xe,if_pos rfl,l1,aV,show gLt (bw O (.int (x.1:Int))) (bw O (.int (h:Int)))=some (.bl (decide ((x.1:Int)<(h:Int)))) from rfl,zn (by omega)];rfl
   rw[sW,fJ ch,aV];rfl
  have U:=qL (b:=mC (.int 0)) (j:=0) R rfl;rw[zf (by omega)] at U;unfold J3;rw[bN (or_f (not_tru J) (or_f I (or_f W U)))];rfl
 have s4:J4 ρ O=.nx ρ O:=by
  have J:=qL T a0;rw[zf (by omega)] at J;have I:=ue (jW T a0) (Y6 R a1)
  have z:(decide ((x.1:Int)=a)&&decide ((x.2.1:Int)<=c))=false:=by
   rcases X with X | ⟨X,hb⟩
   ·rw[zf (by omega)];rfl
   ·rw[zf (show ¬(x.2.1:Int)<=c by omega),Bool.and_false]
  rw[z] at I;unfold J4;rw[bN (or_f J I)];rfl
 have s5:J5 ρ O=.nx ρ O:=by
  have sl:mSl (ak gIx (aa 1) (aa 4)) (moS (aa 5)) (moS (ak aN (aa 5) (aL aU (aj (aa 6) aq)))) ρ O=.ok (dRw x.2.2) O:=by
   have:=slD (p:=(x.2.1,x.2.2.length)) (row:=Q.getD x.1 []) Y rfl R e7
   rw[<-f4] at this;exact this
  have al:mW [.ob n,dRw x.2.2] O=.ok (.bl true) O:=Zg 3 (.ob n) (dRw x.2.2) x.2.2 (by omega) O hd rfl
  have t2:aH (ak gEq (ak gIx (ak gIx (aa 6) (mC (.int 0))) (mC (.int 0))) (mC (.str []))) ρ O=.ok false O:=by
   have:=fJ (bc (g:=gEq) (b:=mC (.str [])) (y:=.str []) (NB (El (mi:=mC (.int 0)) (k:=0) P hd rfl f5)) rfl sY)
   rw[zf f6] at this;exact this
  unfold J5;rw[bN (or_f (not_tru ((cV (maS P (ma1 sl))).trans al)) t2)];rfl
 have s6:J6 ρ O=.nx (eD A Q a c (some (dH x n)) (some (.int (x.1:Int))) (some (.int (x.2.1:Int))) (some (.ob n)) (some (.int ((x.2.1+x.2.2.length:Nat):Int)))) O:=by
  unfold J6;rw[bV e7,i];rfl
 obtain⟨B,u⟩:∃B,B=eD A Q a c (some (dH x n)) (some (.int (x.1:Int))) (some (.int (x.2.1:Int))) (some (.ob n)) (some (.int ((x.2.1+x.2.2.length:Nat):Int))):=⟨_,rfl⟩
 have w4:aa 4 B O=.ok (.int (x.1:Int)) O:=by rw[u];rfl
 have w7:aa 7 B O=.ok (.int ((x.2.1+x.2.2.length:Nat):Int)) O:=by rw[u];rfl
 have rw4':ak gIx (aa 1) (aa 4) B O=.ok (dRw (Q.getD x.1 [])) O:=bc (x:=dP Q) (by rw[u];rfl) w4 (iW (by rw[zq,L];rfl))
 have s7:J7 B O=.nx B O:=by
  have t1:=qL w7 (uw rw4' rfl);unfold J7;refine(bN ?_).trans rfl;rw[sV,t1,aV]
  by_cases Z:x.2.1+x.2.2.length<(Q.getD x.1 []).length
  ·rw[zn (by omega),if_pos rfl];have hx:=zj Z
   have:=fJ (bc (g:=gEq) (b:=mC (.str [])) (y:=.str []) (NB (El rw4' rfl w7 hx)) rfl sY)
   rw[zf (f7 _ hx)] at this;exact this
  ·rw[zf (by omega),if_neg zp]
 unfold w6;rw[sq s1,sq s2,<-i,sq s3,sq s4,sq s5,sq s6,<-u,sq s7,u];rfl
theorem Qsf{Q:List Row}{h:Nat}(P:Q.length=h){O:au}{W:List Wr}{ns:List Nat}(hw:HW O W ns)(f:∀x∈W,FW Q h x)(pw:W.Pairwise WP):uc [.lst (hT W ns),dP Q] O=.ok (.bl true) O:=by
 obtain⟨A,H⟩:∃A,A=D.lst (hT W ns):=⟨_,rfl⟩
 obtain⟨T,F,R,G,a,z,E,u,m,k,c,rfl,_⟩:=fP (g:=mgN 3) (b:=w6) (λi ρ I=>I=O/\∃a z E u m k c,ρ=eD A Q a z E u m k c/\∀(j:Nat) (x:Wr),i<=j->W[j]?=some x->a<(x.1:Int)\/(a=(x.1:Int)/\z<(x.2.1:Int))) (hT W ns) 0 (eD A Q (-1) 0 none none none none none) O ⟨rfl,_,_,_,_,_,_,_,rfl,λj x _ _=>.inl (by omega)⟩ (by
  rintro i d ρ I hi ⟨rfl,a,z,E,u,m,k,c,rfl,hb⟩;obtain⟨x,n,B,L,rfl⟩:=Ec hw hi;rw[zy] at hb ⊢;refine⟨_,rfl,_,_,.inl (QwU A P L (f x (zD B)) (hb i x (zc _) B) u m k c),rfl,_,_,_,_,_,_,_,rfl,λj y Y J=>?_⟩;have h1:=(zg.mp B);have h2:=(zg.mp J)
  have:=(List.pairwise_iff_getElem.mp pw) i j h1.1 h2.1 (by omega)
  rw[h1.2,h2.2] at this
  rcases this with t | ⟨X,U⟩
  ·exact .inl (by omega)
  ·exact .inr ⟨by omega,by omega⟩)
 subst G;rw[<-H];show bI (aB (aF 2 (bA (aj (mUn f9 (mC (.int 1))) (aj (mC (.int 0)) aq)))) (aB (bO (cA (aa 0)) (mgN 3) w6) (aZ (mC (.bl true)))) [some A,some (dP Q),none,none,none,none,none,none] F)=_;rw[sq (show aF 2 (bA (aj (mUn f9 (mC (.int 1))) (aj (mC (.int 0)) aq))) [some A,some (dP Q),none,none,none,none,none,none] F=.nx (eD A Q (-1) 0 none none none none none) F from rfl),bh,fM,g8 (l:=hT W ns) (by rw[H];rfl),fO,R,bj];rfl
theorem NP{r q:Row}(i:ROk r)(g:ROk q)(l:Wf q)(h:q.length<=40):(∃s,GV q q.length s (rwV r q))/\∃bs ps,(∀b∈bs,Bl b)/\q=bs.flatten/\Pri bs.length ndC (mvC r bs) (fnC bs) 0 ps/\lk ps (0,0)=some (some (wsV (rwV r q))):=by
 by_cases j:r=q
 ·have m:rwV r q=[]:=by
   unfold rwV;rw[dif_neg λz=>z.2.2.2.2 j]
  rw[m];subst j;obtain⟨bs,a,rfl⟩:=l;refine⟨⟨0,λx f=>(nomatch f),λx f=>(nomatch f),λx f=>(nomatch f),List.Pairwise.nil,λz=>nomatch z⟩,bs,?_⟩;obtain⟨_,ps,_,_,_,k,_⟩:=DP (trC a h i g 0) (O:=[.ins "Change" (fs2 bs.flatten bs)]) rfl;obtain⟨c,d⟩:=qY (trC a h i g 0) (neC bs.flatten bs) k bs.length 0 (0,0) (zy _) (lJ 0 (.inl rfl));have z:=Qq8 a h g k bs.length 0 0 c (zy _) (.inl rfl) d;exact⟨ps,a,rfl,k,by rw[d,z];rfl⟩
 ·have d:ROk r/\ROk q/\Wf q/\q.length<=40/\r≠q:=⟨i,g,l,h,j⟩;unfold rwV;rw[dif_pos d];exact Qvn i g h (uv d.1 d.2.1 d.2.2.1 d.2.2.2.1).choose_spec.1.2
def wsum(W:List Wr):Int:=(W.map λx:Wr=>4+(x.2.2.length:Int)).sum
theorem Qq0(a b:List Wr):wsum (a++b)=wsum a+wsum b:=by
 unfold wsum;rw[zG,List.sum_append]
theorem QtY(i:Nat)(V:List Sg):wsum (V.map (wr i))=wsV V:=by
 unfold wsum wsV;rw[zX];rfl
theorem NQ(P Q:List Row)(k:Nat):pwk P Q (k+1)=pwk P Q k++(rwV (P.getD k []) (Q.getD k [])).map (wr k):=by
 unfold pwk;rw[List.range_succ,List.flatMap_append];simp
theorem NT{P Q:List Row}{h w:Nat}(hw:w<=40)(j:Pic P h w)(d:Pic Q h w):∀k,k<=h->(∀x∈pwk P Q k,FW Q h x/\x.1<k)/\(pwk P Q k).Pairwise WP
 | 0,_=>⟨λx c=>(nomatch c),List.Pairwise.nil⟩
 |k+1,hk=>by
  obtain⟨l,u⟩:=NT hw j d k (by omega);have m:=(j.get (show k<h by omega)).2;have f:=(d.get (show k<h by omega)).2;obtain⟨⟨s,g⟩,_⟩:=NP (j.ok _ m) (d.ok _ f) (d.wf _ f) (by rw[d.wd _ f];exact hw);obtain⟨F,n⟩:=M9 (j.ok _ m) (d.ok _ f) (d.wf _ f) (by rw[d.wd _ f];exact hw);have G:=d.wd _ f;rw[NQ];refine⟨λx c=>?_,List.pairwise_append.mpr ⟨u,?_,λx c y i=>?_⟩⟩
  ·rcases zz.mp c with c | c
   ·exact⟨(l x c).1,by have:=(l x c).2;omega⟩
   ·obtain⟨y,i,rfl⟩:=zL.mp c;have E:=g.ln y i;have B:=n.inn y i;exact⟨⟨by show k<h;omega,E.1,by show y.2.length<=40;omega,B.2,g.hd y i,g.bd y i⟩,ja k⟩
  ·refine List.pairwise_map.mpr (g.pw.imp λ{a b} hab=>.inr ⟨rfl,hab⟩)
  ·obtain⟨z,H,rfl⟩:=zL.mp i;exact .inl (l x c).2
theorem QrK{O:au}{Q:List Row}{r c j:Nat}{row:Row}{a:Row}{d:C}(g:r<Q.length)(f:a[j]?=some d)(hw:c+a.length<=row.length){mo mi m:L2.M D}{ρ:aA}
  (h:m ρ (O++(Q.set r (ck c a j row)).map bJ)=.ok (dC d) (O++(Q.set r (ck c a j row)).map bJ)) (i:∀b,mo ρ b=.ok (.ob (O.length+r)) b) (hi:∀b,mi ρ b=.ok (.int ((c+j:Nat):Int)) b):
  mD mo mi m ρ (O++(Q.set r (ck c a j row)).map bJ)=.nx ρ (O++(Q.set r (ck c a (j+1) row)).map bJ):=by
 have k:=(zg.mp f).1;have s:=setC (O:=O) (Q:=Q.set r (ck c a j row)) (t:=r) (j:=c+j) (row:=ck c a j row) (c:=d) (by rw[zR g]) h (i _) (hi _) (by rw[wL];omega);rw[s,List.set_set];show Fl.nx ρ _=Fl.nx ρ (O++(Q.set r ((ck c a j row).set (c+j) ((a[j]?).getD bl))).map bJ);rw[f,Option.getD_some]
def NZ:MS:=mD (ak gIx (aa 2) (aa 3)) (ak aN (aa 4) (aa 6)) (ak gIx (aa 5) (aa 6))
def xf:MS:=bO (dq (aj (aL aU (aj (aa 5) aq)) aq)) (mgN 6) NZ
def N5:MG:=dM 3 (bC (mgN 3) (bC (mgN 4) (bC (mgN 5) dU)))
def eY(A B:D)(is:List Nat)(d c b a:Option D):aA:=[some A,some B,some (pD is),d,c,b,a]
theorem QwE(A B:D)(h w:Nat)(hw:w<=40)(x:Wr)(n:Nat)(H:WOk h w x)(O:au)(I:O[n]?=some (wO x)){Q:List Row}(R:Q.length=h)(G:∀r∈Q,r.length=w)(m:Option D):
  ∃c,xf (eY A B (ids O.length h) (some (.int (x.1:Int))) (some (.int (x.2.1:Int))) (some (.ob n)) m) (O++Q.map bJ)=.nx (eY A B (ids O.length h) (some (.int (x.1:Int))) (some (.int (x.2.1:Int))) (some (.ob n)) c) (O++(put Q x).map bJ):=by
 have u:=H.rw;have P:=H.cl;have l:Q[x.1]?=some (Q[x.1]'(by omega)):=zj _;have z:=G _ (zW (show x.1<Q.length by omega))
 generalize Q[x.1]'(by omega)=a at l z
 have F:=(zg.mp I).1
 have hn':∀E:au,bw (O++E) (.ob n)=.lst (x.2.2.map dC):=λE=>lE (by
  rw[zx F]
  exact I)
 obtain⟨L,T,J,c,rfl,rfl⟩:=fP (g:=mgN 6) (b:=NZ)
  (λj ρ i=>∃c,i=O++(Q.set x.1 (ck x.2.1 x.2.2 j a)).map bJ/\ρ=eY A B (ids O.length h) (some (.int (x.1:Int))) (some (.int (x.2.1:Int))) (some (.ob n)) c) (eE 0 x.2.2.length) 0 (eY A B (ids O.length h) (some (.int (x.1:Int))) (some (.int (x.2.1:Int))) (some (.ob n)) m) (O++Q.map bJ)
  ⟨m,by rw[show ck x.2.1 x.2.2 0 a=a from rfl,Zb l],rfl⟩ (by
   rintro j d ρ i hj ⟨c,rfl,rfl⟩;obtain⟨f,rfl⟩:=jY hj;rw[zy];have hd:x.2.2[j]?=some (x.2.2[j]'f):=zj _
   refine⟨_,rfl,_,_,.inl (QrK (d:=x.2.2[j]'f) (by omega) hd (by omega) (El (d:=.ob n) (k:=j) rfl (hn' _) rfl hd) (λi=>bc (x:=pD (ids O.length h)) (y:=.int (x.1:Int)) rfl rfl (iW (by rw[zq,Zc _ _ _ u];rfl))) (λi=>by rw[jc];exact dW rfl rfl)),some (.int (j:Int)),rfl,rfl⟩)
 rw[mR,zy] at J;refine⟨c,?_⟩;unfold xf;rw[fM,jE (n:=x.2.2.length) (uw (d:=.ob n) rfl (hn' _)) (by omega),fO,J,M8 l]
theorem QuC(h w:Nat)(T:h<=12)(hw:w<=40){P:List Row}(a:Pic P h w){W:List Wr}(B:∀x∈W,WOk h w x){O:au}{ns:List Nat}(hd:HW O W ns):t8 [dP P,.lst (hT W ns)] O=.ok (pD (ids O.length h)) (O++(lay W P).map bJ):=by
 obtain⟨R,U,E,m,j,f,c,rfl,rfl⟩:=fP (g:=N5) (b:=xf)
  (λk ρ F=>∃(m j f c:Option D),F=O++(lay (W.take k) P).map bJ/\ρ=eY (dP P) (.lst (hT W ns)) (ids O.length h) m j f c) (hT W ns) 0 (eY (dP P) (.lst (hT W ns)) (ids O.length h) none none none none) (O++P.map bJ)
  ⟨none,none,none,none,rfl,rfl⟩ (by
   rintro i d ρ F hi ⟨m,j,f,c,rfl,rfl⟩;obtain⟨x,n,z,I,rfl⟩:=Ec hd hi;rw[zy,Qr2 z];have u:=B x (zD z);obtain⟨L,J⟩:=QwE (dP P) (.lst (hT W ns)) h w hw x n u O I (Q:=lay (W.take i) P) (by rw[Ea,a.len]) (Eb (λy H=>by rw[a.len];exact(B y (List.mem_of_mem_take H)).rw) a.wd) c
   exact⟨_,rfl,_,_,.inl J,_,_,_,L,rfl,rfl⟩)
 rw[(lK hd).2.2,zy,List.take_of_length_le (zc _)] at E
 have G:aF 2 (aM mY (aj (aa 0) aq)) [some (dP P),some (.lst (hT W ns)),none,none,none,none,none] O=.nx (eY (dP P) (.lst (hT W ns)) (ids O.length h) none none none none) (O++P.map bJ):=by
  rw[<-a.len];exact m8 ((cV (ma1 (x:=dP P) rfl)).trans (M7 (by rw[a.len];omega) O))
 show bI (aB (aF 2 (aM mY (aj (aa 0) aq))) (aB (bO (cA (aa 1)) N5 xf) (aZ (aa 2))) [some (dP P),some (.lst (hT W ns)),none,none,none,none,none] O)=_;rw[sq G,bh,fM,g8 (l:=hT W ns) rfl,fO,E,bj];rfl
def N6:L2.M D:=ak aN (mC (.int 4)) (aL aU (aj (ak gIx (aa 0) (mC (.int 2))) aq))
theorem Em{O:au}{g:MG}{m:L2.M D}(b:aA->Prop)(c:∀(x:Wr) (n:Nat) (ρ:aA),O[n]?=some (wO x)->b ρ->∃a,g (dH x n) ρ=some a/\b a/\m a O=.ok (.int (4+(x.2.2.length:Int))) O):∀(W:List Wr) (ns:List Nat) (ρ:aA) (acc:List D),b ρ->HW O W ns->cT g eQ m (hT W ns) ρ O acc=.ok (acc++W.map λx=>D.int (4+(x.2.2.length:Int))) O
 | [],[],ρ,acc,_,_=>by
  show Res.ok acc O=_;rw[zQ,zT]
 |x::W,n::ns,ρ,acc,hρ,h=>by
  obtain⟨a,i,f,d⟩:=c x n ρ h.1 hρ;show cT _ _ _ (dH x n::hT W ns) _ O acc=_;unfold cT;rw[i];dsimp only;rw[show eQ a O=.ok true O from rfl];dsimp only;rw[d];dsimp only;rw[Em b c W ns _ _ f h.2,zP];rfl
 | [],_::_,_,_,_,h=>h.elim
 | _::_,[],_,_,_,h=>h.elim
theorem Qv1{O:au}{W:List Wr}{ns:List Nat}(h:HW O W ns)(d:W.length<=1000)(hw:∀x∈W,x.2.2.length<=40):tU [.lst (hT W ns)] O=.ok (.int (wsum W)) O:=by
 have e:=Em (O:=O) (g:=mgN 0) (m:=N6) (λρ=>∃a,ρ=[a]) (by
  rintro x n ρ hn ⟨a,rfl⟩
  exact⟨[some (dH x n)],rfl,⟨_,rfl⟩,dW rfl (uw (bc (x:=dH x n) (y:=.int 2) rfl rfl rfl) (lE hn))⟩) W ns [none] [] ⟨_,rfl⟩ h
 rw[zM] at e;have c:=jX (own:=1) (cap:=[]) (g8 (m:=aa 0) (ρ:=[some (.lst (hT W ns))]) (O:=O) (l:=hT W ns) rfl) (by rw[(lK h).2.2];omega) (ρ0:=[none]) rfl e;show bI (aZ (aL mj (aj (dB (cA (aa 0)) 1 [] (mgN 0) eQ N6) aq)) [some (.lst (hT W ns))] O)=_;rw[jO,gJ (ma1 c) (Lb (λx:Wr=>4+(x.2.2.length:Int)) W (λx b=>by have:=hw x b;omega) (by omega))];rfl
theorem QuS{n:Nat}{ma mb:L2.M D}{ρ:aA}{O O1:au}{x y z:D}(hi:ma ρ O=.ok x O1)(a:mb ρ O1=.ok y O1)(h1:cu O1 n x=z)(h2:cu O1 n y=z)(hz:okE z=true):aH (iU true n ma mb) ρ O=.ok false O1:=by
 have:iU true n ma mb ρ O=.ok (.bl false) O1:=by
  unfold iU;rw[hi,aV,a,aV,h1,h2,hz,Bool.and_self,if_pos rfl,if_pos rfl,vH hz];rfl
 rw[yM,this,aV];rfl
def CP(i:Nat):L2.M D:=aM mY (aj (aa i) aq)
theorem N7{i:Nat}{ρ:aA}{O:au}{A:List Row}(a:A.length<=1000)(h:ρ[i]?=some (some (dP A))):CP i ρ O=.ok (pD (ids O.length A.length)) (O++A.map bJ):=(cV (ma1 (x:=dP A) (by rw[Xd,h]))).trans (M7 a O)
def A1:MS:=iw (aM wG (aj (aa 0) aq)) (dM 2 (bC (mgN 1) (bC (mgN 2) dU)))
def A2:MS:=aF 3 (bF (aj (mMl (CP 1)) (aj (mMl (CP 2)) aq)))
def A3:MS:=aF 4 (aM tR (aj (ak gIx (aa 3) (mC (.int 0))) (aj (ak gIx (aa 3) (mC (.int 1))) aq)))
def A4:MS:=aY (cR (cB (bK (cH "list" (aa 4)))) (cR (aH (iU true 7 (aa 3) (bF (aj (aa 1) (aj (aa 2) aq))))) (cB (bK (aM uc (aj (aa 4) (aj (aa 2) aq))))))) rF bx
def A5:MS:=aY (aH (iU true 7 (aM t8 (aj (aa 1) (aj (aa 4) aq))) (aa 2))) rF bx
def A6:MS:=aF 5 (mC (.int 0))
def LST(i:Nat):L2.M D:=aL iy (aj (ak gIx (aa i) (aa 6)) aq)
def Q7:MS:=aF 7 (aM qy (aj (jN "Change" mV (aj (LST 1) (aj (LST 2) aq))) aq))
def Q8:MS:=aY (cB (bK (aM wJ (aj (aa 7) (aj (ak gIx (aa 1) (aa 6)) (aj (ak gIx (aa 2) (aa 6)) aq)))))) rF bx
def Q9:MS:=aF 5 (ak aN (aa 5) (dF (aa 7) (bA (aj (mC (.int 0)) (aj (mC (.int 0)) aq)))))
def B_q:MS:=aB Q7 (aB Q8 Q9)
def A7:MS:=bO (dq (aj (aL aU (aj (aa 1) aq)) aq)) (mgN 6) B_q
def A8:MS:=aF 8 (aL mj (aj (dB (cA (aa 4)) 3 [] (dM 3 (bC (mgN 0) (bC (mgN 1) (bC (mgN 2) dU)))) eQ (ak aN (mC (.int 4)) (aL aU (aj (aa 2) aq)))) aq))
def A9:MS:=aZ (fL (ak gEq (aa 8) (aa 5)) (aM mW (aj (aM tU (aj (aa 4) aq)) (aj (aa 5) aq))))
def eZ(X:D)(P Q:List Row)(g f d c b a:Option D):aA:=[some X,some (dP P),some (dP Q),g,f,d,c,b,a]
noncomputable def Sm(P Q:List Row)(k:Nat):Int:=((List.range k).map λj=>wsV (rwV (P.getD j []) (Q.getD j []))).sum
theorem N8(P Q:List Row)(k:Nat):Sm P Q (k+1)=Sm P Q k+wsV (rwV (P.getD k []) (Q.getD k [])):=by
 unfold Sm;rw[List.range_succ,zG,List.sum_append];simp
theorem Oa(P Q:List Row):∀k,wsum (pwk P Q k)=Sm P Q k
 | 0=>rfl
 |k+1=>by rw[NQ,Qq0,QtY,N8,Oa P Q k]
theorem QuU{h w:Nat}(hw:w<=40)(X:D){P Q:List Row}(hP:Pic P h w)(J:Pic Q h w){k:Nat}(hk:k<h)(f c b a:Option D)(O:au):
  ∃g b7,B_q (eZ X P Q f c (some (.int (Sm P Q k))) (some (.int (k:Int))) b a) O=.nx (eZ X P Q f c (some (.int (Sm P Q (k+1)))) (some (.int (k:Int))) b7 a) g/\Agr O g/\O.length<=g.length:=by
 obtain⟨gP,mP⟩:=hP.get hk;obtain⟨gQ,L⟩:=J.get hk;have F:=hP.ok _ mP;have G:=J.ok _ L;have Z:=J.wd _ L;obtain⟨_,bs,ps,z,eq,I,hc⟩:=NP F G (J.wf _ L) (by rw[Z];exact hw)
 have m:∀H b g,ak gIx (aa 1) (aa 6) (eZ X P Q f c H (some (.int (k:Int))) b a) g=.ok (dRw (P.getD k [])) g:=λH b g=>bc (x:=dP P) (y:=.int (k:Int)) rfl rfl (iW (by rw[zq,gP];rfl))
 have l:∀H b g,ak gIx (aa 2) (aa 6) (eZ X P Q f c H (some (.int (k:Int))) b a) g=.ok (dRw (Q.getD k [])) g:=λH b g=>bc (x:=dP Q) (y:=.int (k:Int)) rfl rfl (iW (by rw[zq,gQ];rfl))
 have l1:LST 1 (eZ X P Q f c (some (.int (Sm P Q k))) (some (.int (k:Int))) b a) O=.ok (dRw (P.getD k [])) O:=wK (m _ _ _) rfl;have l2:LST 2 (eZ X P Q f c (some (.int (Sm P Q k))) (some (.int (k:Int))) b a) O=.ok (dRw (Q.getD k [])) O:=wK (l _ _ _) rfl;have u:=N8 P Q k
 generalize rwV (P.getD k []) (Q.getD k [])=V at hc u
 generalize P.getD k []=r at F l1 m I
 generalize Q.getD k []=q at G Z l2 l eq
 subst eq
 have hl:bs.flatten.length<=40:=by omega
 have T:=trC z hl F G O.length;have ei:=Lz O z (by omega) F G (d:=dRw r) (e:=dRw bs.flatten) (.inl rfl) (.inl rfl);obtain⟨E,Y,e2,R,keep,B,U⟩:=DP T (O:=O++[.ins "Change" (fs2 r bs)]) oW
 have ag:Agr O E:=λj hj=>by
  have h1:O[j]?=some O[j]:=zj hj;rw[h1];exact keep j _ (by rw[zx hj];exact h1)
 have hO:O.length<=E.length:=by
  have:=(zg.mp (keep O.length _ oW)).1
  omega
 have W:lk Y (0,0)=some (some (wsV V)):=by rw[MJ T.fw I B bs.length 0 (0,0) (zy _) T.f0,hc]
 have mk:jN "Change" mV (aj (LST 1) (aj (LST 2) aq)) (eZ X P Q f c (some (.int (Sm P Q k))) (some (.int (k:Int))) b a) O=.ok (.ob O.length) (O++[.ins "Change" (fs2 r bs)]):=by
  rw[Jt,maS l1 (ma1 l2),aV,ei,Ju]
 obtain⟨p,hp⟩:∃p,p=(O++[Ob.ins "Change" (fs2 r bs)]).length:=⟨_,rfl⟩;rw[<-hp] at e2 R
 have s7:Q7 (eZ X P Q f c (some (.int (Sm P Q k))) (some (.int (k:Int))) b a) O=.nx (eZ X P Q f c (some (.int (Sm P Q k))) (some (.int (k:Int))) (some (.ob p)) a) E:=by
  refine m8 ?_;rw[yO,qg,mk,aV,vp,aV,aV,e2]
 have s8:Q8 (eZ X P Q f c (some (.int (Sm P Q k))) (some (.int (k:Int))) (some (.ob p)) a) E=.nx (eZ X P Q f c (some (.int (Sm P Q k))) (some (.int (k:Int))) (some (.ob p)) a) E:=by
  unfold Q8;rw[bN (not_tru ((cV (maS (x:=.ob p) rfl (maS (m _ _ _) (ma1 (l _ _ _))))).trans (Qvp z hl F G R B (Qs7 B U))))];rfl
 refine⟨E,some (.ob p),?_,ag,hO⟩;unfold B_q;rw[sq s7,sq s8];refine(bV (dW (i:=Sm P Q k) (j:=wsV V) rfl (qW (n:=(0,0)) (v:=some (wsV V)) rfl R rfl W))).trans ?_;rw[u];rfl
theorem QrN(xs:List Int)(hx:xs.length<=63):∃O',KJ [.lst (xs.map D.int)] []=.ok (.bl true) O':=by
 obtain⟨h,w,A,B,h1,hh,w2,hw,T,Q,ep⟩:=Zz xs [];have lA:=T.len;have lB:=Q.len;obtain⟨X,hX⟩:∃X,X=D.lst (xs.map D.int):=⟨_,rfl⟩;rw[<-hX] at ep ⊢
 have s1:A1 [some X,none,none,none,none,none,none,none,none] []=.nx (eZ X A B none none none none none none) []:=by
  unfold A1;rw[vI,cV (ma1 (x:=X) rfl),ep,vJ vK];rfl
 obtain⟨W,hW⟩:∃W,W=pwk A B h:=⟨_,rfl⟩;have kk:=Nb hw T Q
 have cl:∀x∈W,x.2.2.length<=40:=λx hx=>by rw[hW] at hx;have:=(kk.ok x hx).cl;omega
 obtain⟨O,hO⟩:∃O:au,O=[]:=⟨_,rfl⟩;obtain⟨O1,Y⟩:∃O1,O1=(O++A.map bJ)++[Ob.ml ((ids O.length A.length).map D.ob)]:=⟨_,rfl⟩;obtain⟨J,L⟩:∃J,J=(O1++B.map bJ)++[Ob.ml ((ids O1.length B.length).map D.ob)]:=⟨_,rfl⟩;rw[<-hO] at s1 ⊢
 have l1:O1.length=O.length+h+1:=by rw[Y];simp;omega
 have l2:J.length=O1.length+h+1:=by rw[L];simp;omega
 have P:Agr O1 J:=λj hj=>by rw[L,zP,zx hj]
 have n0:O1[O.length+h]?=some (.ml ((ids O.length A.length).map D.ob)):=by rw[Y,zE (by simp;omega)];simp[lA]
 have n1:J[O1.length+h]?=some (.ml ((ids O1.length B.length).map D.ob)):=by rw[L,zE (by simp;omega)];simp[lB]
 have rA1:∀(k i:Nat),(ids O.length A.length)[k]?=some i->∃r,A[k]?=some r/\O1[i]?=some (bJ r):=λk i G=>by rw[Y];exact Ni O _ A k i G
 have rB:∀(k i:Nat),(ids O1.length B.length)[k]?=some i->∃r,B[k]?=some r/\J[i]?=some (bJ r):=λk i G=>by rw[L];exact Ni O1 _ B k i G
 have hpA:HP J (.ob (O.length+h)) A:=HP.agr ⟨_,.inr ⟨_,rfl,n0⟩,oR _ _,rA1⟩ P;have hpB:HP J (.ob (O1.length+h)) B:=⟨_,.inr ⟨_,rfl,n1⟩,oR _ _,rB⟩
 have s2:A2 (eZ X A B none none none none none none) O=.nx (eZ X A B (some (.lst [.ob (O.length+h),.ob (O1.length+h)])) none none none none none) J:=by
  have c1:mMl (CP 1) (eZ X A B none none none none none none) O=.ok (.ob (O.length+h)) O1:=by
   unfold mMl;rw[N7 (A:=A) (by omega) rfl,aV,Y];show Res.ok (D.ob (O++A.map bJ).length) _=_;rw[zh,zd,lA]
  have c2:mMl (CP 2) (eZ X A B none none none none none none) O1=.ok (.ob (O1.length+h)) J:=by
   unfold mMl;rw[N7 (A:=B) (by omega) rfl,aV,L];show Res.ok (D.ob (O1++B.map bJ).length) _=_;rw[zh,zd,lB]
  refine m8 ?_;rw[Jb,qg,c1,aV,qg,c2,aV,vp,aV,aV,aV];exact if_pos (show 2<=1000000 by decide)
 obtain⟨f,ns,e2,pw,wl⟩:=Qui hh hw T Q hpA hpB;rw[<-hW] at e2 pw wl;obtain⟨u,Z⟩:∃H,H=D.lst [.ob (O.length+h),.ob (O1.length+h)]:=⟨_,rfl⟩;rw[<-Z] at s2;have s3:A3 (eZ X A B (some u) none none none none none) J=.nx (eZ X A B (some u) (some (.lst (hT W ns))) none none none none) f:=m8 ((cV (maS (bc (x:=.lst [.ob (O.length+h),.ob (O1.length+h)]) (by rw[Z];rfl) rfl rfl) (ma1 (bc (x:=.lst [.ob (O.length+h),.ob (O1.length+h)]) (by rw[Z];rfl) rfl rfl)))).trans e2);have n03:=(pw.ag (O.length+h) (by omega)).trans ((P _ (by omega)).trans n0);have n13:=(pw.ag (O1.length+h) (by omega)).trans n1
 have dA:cu f 7 u=.lst [dP A,dP B]:=by
  rw[Z]
  have rA3:∀(k i:Nat),(ids O.length A.length)[k]?=some i->∃r,A[k]?=some r/\f[i]?=some (bJ r):=λk i G=>by
   obtain⟨r,e1,e2⟩:=rA1 k i G
   have:=(zg.mp e2).1
   exact⟨r,e1,(pw.ag i (by omega)).trans ((P i this).trans e2)⟩
  have rB3:∀(k i:Nat),(ids O1.length B.length)[k]?=some i->∃r,B[k]?=some r/\f[i]?=some (bJ r):=λk i G=>by
   obtain⟨r,e1,e2⟩:=rB k i G;exact⟨r,e1,(pw.ag i (zg.mp e2).1).trans e2⟩
  show D.lst [cu f 6 (.ob (O.length+h)),cu f 6 (.ob (O1.length+h))]=_
  have z:∀(n:Nat) (is:List Nat) (R:List Row),f[n]?=some (.ml (is.map D.ob))->is.length=R.length->(∀(k i:Nat),is[k]?=some i->∃r,R[k]?=some r/\f[i]?=some (bJ r))->cu f 6 (.ob n)=dP R:=λn is R hn hl hr=>by
   show(match f[n]? with | some (.ml ds)=>D.lst (ds.map (cu f 5)) | _=>.ob n)=_;rw[hn];exact congrArg D.lst (Nh 3 hl hr)
  rw[z _ _ A n03 (oR _ _) rA3,z _ _ B n13 (oR _ _) rB3]
 have okAB:okE (.lst [dP A,dP B])=true:=yS (n:=20) (by decide) λd hd=>by
  rcases zm.mp hd with rfl | hd
  ·exact⟨(oZ T).1,(oZ T).2.1,(oZ T).2.2.1⟩
  ·rw[zk.mp hd];exact⟨(oZ Q).1,(oZ Q).2.1,(oZ Q).2.2.1⟩
 obtain⟨fw,wp⟩:=NT hw T Q h (zc _);rw[<-hW] at fw wp
 have s4:A4 (eZ X A B (some u) (some (.lst (hT W ns))) none none none none) f=.nx (eZ X A B (some u) (some (.lst (hT W ns))) none none none none) f:=by
  have t1:cB (bK (cH "list" (aa 4))) (eZ X A B (some u) (some (.lst (hT W ns))) none none none none) f=.ok false f:=not_tru (by rw[jF (d:=.lst (hT W ns)) (t:="list") rfl rfl,Nt])
  have t2:aH (iU true 7 (aa 3) (bF (aj (aa 1) (aj (aa 2) aq)))) (eZ X A B (some u) (some (.lst (hT W ns))) none none none none) f=.ok false f:=Qup (x:=u) (y:=.lst [dP A,dP B]) rfl (lD (maS rfl (ma1 rfl)) (show 2<=1000000 by decide)) dA (by
   show D.lst [cu f 6 (dP A),cu f 6 (dP B)]=_
   rw[Ed,Ed]) okAB
  have t3:cB (bK (aM uc (aj (aa 4) (aj (aa 2) aq)))) (eZ X A B (some u) (some (.lst (hT W ns))) none none none none) f=.ok false f:=not_tru ((cV (maS rfl (ma1 rfl))).trans (Qsf lB pw.hw (λx hx=>(fw x hx).1) wp));unfold A4;rw[bN (or_f t1 (or_f t2 t3))];rfl
 have Lw:lay W A=B:=by rw[hW];exact Qtq hw T Q
 have el:=QuC h w hh hw T (W:=W) (by rw[hW];exact kk.ok) pw.hw;rw[Lw] at el;obtain⟨F,hO4⟩:∃F,F=f++B.map bJ:=⟨_,rfl⟩;rw[<-hO4] at el;have pc4:=KR f B;rw[<-hO4,lB] at pc4;have hw4:HW F W ns:=qZ (λn hn=>by rw[hO4,zx ((lK pw.hw).1 n hn)]) pw.hw
 have s5:A5 (eZ X A B (some u) (some (.lst (hT W ns))) none none none none) f=.nx (eZ X A B (some u) (some (.lst (hT W ns))) none none none none) F:=by
  have t:=QuS (n:=7) (ma:=aM t8 (aj (aa 1) (aj (aa 4) aq))) (mb:=aa 2) (ρ:=eZ X A B (some u) (some (.lst (hT W ns))) none none none none) (O:=f) (O1:=F) (x:=pD (ids f.length h)) (y:=dP B) (z:=dP B) ((cV (maS (x:=dP A) rfl (ma1 (x:=.lst (hT W ns)) rfl))).trans el) rfl (by
   show D.lst (((ids f.length h).map D.ob).map (cu F 6))=_
   exact congrArg D.lst (Nh 4 (by rw[oR,lB]) λk i G=>pc4.at G)) (Ed 4 B) (oZ Q).2.2.2
  unfold A5;rw[Qwc t];rfl
 have s6:A6 (eZ X A B (some u) (some (.lst (hT W ns))) none none none none) F=.nx (eZ X A B (some u) (some (.lst (hT W ns))) (some (.int (Sm A B 0))) none none none) F:=rfl
 obtain⟨ρ7,E,e7,U,I,rfl,ag7,le7⟩:=fP (g:=mgN 6) (b:=B_q) (λk ρ O'=>∃U I,ρ=eZ X A B (some u) (some (.lst (hT W ns))) (some (.int (Sm A B k))) U I none/\Agr F O'/\F.length<=O'.length) (eE 0 h) 0 (eZ X A B (some u) (some (.lst (hT W ns))) (some (.int (Sm A B 0))) none none none) F ⟨_,_,rfl,λ_ _=>rfl,zc _⟩ (by
  rintro k d ρ O' G ⟨U,I,rfl,ag,le⟩;obtain⟨hk5,rfl⟩:=jY G;rw[zy] at *;obtain⟨O'',b7,e,ag2,le2⟩:=QuU hw X T Q hk5 (some u) (some (.lst (hT W ns))) I none O'
  exact⟨_,rfl,_,_,.inl e,_,_,rfl,λj hj=>(ag2 j (by omega)).trans (ag j hj),by omega⟩)
 rw[mR,zy] at e7;have hw7:HW E W ns:=qZ (λn hn=>ag7 n ((lK hw4).1 n hn)) hw4
 have s7:A7 (eZ X A B (some u) (some (.lst (hT W ns))) (some (.int (Sm A B 0))) none none none) F=.nx (eZ X A B (some u) (some (.lst (hT W ns))) (some (.int (Sm A B h))) U I none) E:=by
  have l:=qK (m:=aa 1) (ρ:=eZ X A B (some u) (some (.lst (hT W ns))) (some (.int (Sm A B 0))) none none none) (O:=F) (l:=A.map dRw) rfl;rw[zd,lA] at l;unfold A7;rw[fM,jE (n:=h) l (by omega),fO,e7]
 have hS:Sm A B h=wsum W:=by rw[hW,Oa]
 rw[hS] at s7
 have s8:A8 (eZ X A B (some u) (some (.lst (hT W ns))) (some (.int (wsum W))) U I none) E=.nx (eZ X A B (some u) (some (.lst (hT W ns))) (some (.int (wsum W))) U I (some (.int (wsum W)))) E:=by
  have e:=Em (O:=E) (g:=dM 3 (bC (mgN 0) (bC (mgN 1) (bC (mgN 2) dU)))) (m:=ak aN (mC (.int 4)) (aL aU (aj (aa 2) aq))) (λρ=>∃a b c,ρ=[a,b,c]) (by
   rintro x n ρ hn ⟨a,b,c,rfl⟩
   exact⟨[some (.int (x.1:Int)),some (.int (x.2.1:Int)),some (.ob n)],rfl,⟨_,_,_,rfl⟩,dW rfl (uw (d:=.ob n) rfl (lE hn))⟩) W ns [none,none,none] [] ⟨_,_,_,rfl⟩ hw7
  rw[zM] at e;have cm:=jX (own:=3) (cap:=[]) (g8 (m:=aa 4) (ρ:=eZ X A B (some u) (some (.lst (hT W ns))) (some (.int (wsum W))) U I none) (O:=E) (l:=hT W ns) rfl) (by rw[(lK hw7).2.2];omega) (ρ0:=[none,none,none]) rfl e;exact bV (gJ (ma1 cm) (Lb (λx:Wr=>4+(x.2.2.length:Int)) W (λx hx=>by have:=cl x hx;omega) (by omega)))
 refine⟨E,?_⟩;show bI (aB A1 (aB A2 (aB A3 (aB A4 (aB A5 (aB A6 (aB A7 (aB A8 A9))))))) [some X,none,none,none,none,none,none,none,none] O)=_;rw[sq s1,sq s2,sq s3,sq s4,sq s5,sq s6,sq s7,sq s8]
 have q1:ak gEq (aa 8) (aa 5) (eZ X A B (some u) (some (.lst (hT W ns))) (some (.int (wsum W))) U I (some (.int (wsum W)))) E=.ok (.bl true) E:=by
  have:=bc (g:=gEq) (a:=aa 8) (b:=aa 5) (ρ:=eZ X A B (some u) (some (.lst (hT W ns))) (some (.int (wsum W))) U I (some (.int (wsum W)))) (O:=E) (x:=.int (wsum W)) (y:=.int (wsum W)) rfl rfl yP
  rw[zn rfl] at this;exact this
 have q2:aM tU (aj (aa 4) aq) (eZ X A B (some u) (some (.lst (hT W ns))) (some (.int (wsum W))) U I (some (.int (wsum W)))) E=.ok (.int (wsum W)) E:=(cV (ma1 (x:=.lst (hT W ns)) rfl)).trans (Qv1 hw7 (by omega) cl);unfold A9;rw[jO,kY,q1,aV,kW,if_pos rfl,cV (maS q2 (ma1 (x:=.int (wsum W)) rfl)),show mW [.int (wsum W),.int (wsum W)] E=.ok (.bl true) E from Qvh 5 _ _];rfl
theorem all_mk{l:PySem.W.OpenLaw}{w:World}{K:PySem.W.Frag}{h:Heap}{mg:Str->Option Value}{fa:Addr}(X:K.In h)(G:h.Ns mainGlobals mg)(hfa:mg "law" = some (.ref fa))
  {lM:Addr}
  {En:Addr}{QuW Oc:Option Addr}{Qwq:Array (Option Value)}{Qut Od Oe Og Eo Oh:Value}
  (Z_Change:ClsAt K "Change" lM)
  (QkJ:PySem.W.findIn K (.ref lM) "alike" = some none)
  (QiB:PySem.W.findIn K (.ref lM) "stretches" = some none)
  (yZ:Def K mg "cost_over" yW)
  (z8:Def K mg "least_cost" tG)
  (M_Change_nodes_at:MethAt K lM "nodes_at" "Change.nodes_at" z9)
  (M_Change_moves_from:MethAt K lM "moves_from" "Change.moves_from" Ab)
  (M_Change_is_end:MethAt K lM "is_end" "Change.is_end" Ae)
  (Ai:Def K mg "price_nodes" Ah)
  (M_Change_last_at:MethAt K lM "last_at" "Change.last_at" Ak)
  (Aq:Def K mg "priced" Am)
  (Aw:Def K mg "first_cheapest" vW)
  (M_Change_first_node:MethAt K lM "first_node" "Change.first_node" Ay)
  (Bb:Def K mg "way_of" Ba)
  (Bf:Def K mg "letter_stretches" v7)
  (M_Change___init__:MethAt K lM "__init__" "Change.__init__" v9)
  (Bk:Def K mg "row_writes" Bj)
  (Bp:Def K mg "patch" Bo)
  (Br:Def K mg "cost_of" wz)
  (Bv:Def K mg "_law_cell" Bs)
  (By:Def K mg "_law_mix" Bw)
  (BL:Def K mg "_law_whole" BJ)
  (oG:Def K mg "_law_alike" wA)
  (BV:Def K mg "_law_copy" wB)
  (BZ:Def K mg "_law_stream" BW)
  (Ce:Def K mg "_law_cells" Ca)
  (Ci:Def K mg "_law_row" Cg)
  (Ck:Def K mg "_law_changed" Cj)
  (Cq:Def K mg "_law_size" Cm)
  (Cr:Def K mg "_law_pictures" tZ)
  (CG:Def K mg "_law_spots" Cy)
  (CK:Def K mg "_law_moves" CJ)
  (CQ:Def K mg "_law_laid" CN)
  (CV:Def K mg "_law_fair" CT)
  (Dd:Def K mg "_law_formed" Dc)
  (Ep:PySem.W.nsIn K mainGlobals "law" = some (some (.ref En))) (Oi:K.lookup En=some ⟨Qut,QuW,.func (PySem.W.fnOf "law" "law" (iK jD) (fU jD) (bu jD) .none Od Oe Og Oc Eo Oh),Qwq⟩) (Qu6:PySem.W.codeIn K Eo "law" = true) (Qwy:PySem.W.keepIn K (.ref En)=true)
  (B:cN mg)
  (NK:bY K=true)
  (qm:∃u,mg "WRITE_COST" = some u/\RelV (.int 4) u):
  ∃fd:FuncData,(∀(s:Shared) (v:Value),BindsTo s fd ⟨[v],[]⟩ [("_law_script",v)])/\∀base:Heap,K.In base->base.Ns mainGlobals mg->fc l.prog w K mg base CX0 9 fa fd ["_law_script"] (sp_law K):=by
 have e:=hfa.symm.trans (PySem.W.mg_of X G Ep);cases e;have qp:=Z_Change.kf X G QkJ;have gH:=Z_Change.kf X G QiB;have Aa:=Z_Change.dm X G M_Change_nodes_at;have Ad:=Z_Change.dm X G M_Change_moves_from;have Ag:=Z_Change.dm X G M_Change_is_end;have Al:=Z_Change.dm X G M_Change_last_at;have Az:=Z_Change.dm X G M_Change_first_node;have Bh:=Z_Change.dc X G M_Change___init__;have De:Def K mg "law" jD:=⟨_,_,PySem.W.mg_of X G Ep,xO (st:=jD) Oi Qu6 Qwy⟩;refine⟨PySem.W.fnOf "law" "law" (iK jD) (fU jD) (bu jD) .none Od Oe Og Oc Eo Oh,λs v=>.of_eq rfl,λbase _ _=>?_⟩
 have qi:=@Yc l.prog w K mg base yZ B NK;have qx:=@Yd l.prog w K mg base z8 B NK qi;have Aj:=@Yg l.prog w K mg base Aa B NK;have qt:=@Yh l.prog w K mg base Ad B NK qm qp gH;have qw:=@Yj l.prog w K mg base Ag B NK gH;have Av:=@Yk l.prog w K mg base Ai B NK Aj qt qw qx;have Ar:=@Ym l.prog w K mg base Al B NK gH;have qz:=@Yn l.prog w K mg base Aq B NK Ar Av;have Bd:=@Yo l.prog w K mg base Aw B NK qx qi;have Bc:=@Yq l.prog w K mg base Az B NK;have Bm:=@Yr l.prog w K mg base Bb B NK qz Bc qw Bd qt;have qD:=@Ys l.prog w K mg base Bf B NK;have qF:=@Yu l.prog w K mg base Bh B NK gH qp qD
 have Bq:=@Yv l.prog w K mg base Bk B NK Bm qF qD;have Dh:=@Yw l.prog w K mg base Bp B NK Bq;have Dl:=@Yy l.prog w K mg base Br B NK qm;have mZ:=@Yz l.prog w K mg base Bv B NK;have jR:=@YB l.prog w K mg base By B NK;have oO:=@YD l.prog w K mg base BL B NK;have mX:=@YF l.prog w K mg base oG B NK;have oN:=@YH l.prog w K mg base BV B NK;have qH:=@YJ l.prog w K mg base BZ B NK;have qI:=@YK l.prog w K mg base Ce B NK;have wH:=@YL l.prog w K mg base Ci B NK qH qI;have Cw:=@YM l.prog w K mg base Ck B NK qH qI;have Cu:=@YQ l.prog w K mg base Cq B NK mZ jR
 have Dg:=@YS l.prog w K mg base Cr B NK Cu wH mZ jR Cw;have CW:=@YT l.prog w K mg base CG B NK;have CZ:=@YW l.prog w K mg base CK B NK;have Dj:=@YX l.prog w K mg base CQ B NK oN;have Dk:=@YZ l.prog w K mg base CV B NK CW oO CZ;have Di:=@Y0 l.prog w K mg base Dd B NK oO mX;have Qxu:=@Y5 l.prog w K mg base De B NK Dg oN Dh Di Dj qz qF Dk mX Dl;obtain⟨f',fd',hm',hk',hb',F',oc',od',osl',lk'⟩:=Qxu;have e2:=(PySem.W.mg_of X G Ep).symm.trans hm';cases e2;have e3:=Oi.symm.trans lk';cases e3;exact F'.imp (Vy QrN)
theorem walk{l:PySem.W.OpenLaw}{q:Program}{loose:List Str}{XP:(Str->Option Value)->Heap->Prop}{YP:World->Heap->Prop}{d:DefRec}{K:Params->PySem.W.Frag}(hn:l.most=some 63)(hdf:d.params.defaults=[])
  (hY:∀(w:World) (h:Heap),YP w h->(K w.params).In h)
  (F:∀(w:World) (mg:Str->Option Value) (fa:Addr) (h:Heap),(K w.params).In h->h.Ns mainGlobals mg->mg d.name=some (.ref fa) ->
   ∃fd:FuncData,(∀(s:Shared) (u:Value),BindsTo s fd ⟨[u],[]⟩ [("_law_script",u)])/\∀base:Heap,(K w.params).In base->base.Ns mainGlobals mg->fc l.prog w (K w.params) mg base CX0 9 fa fd ["_law_script"] (sp_law (K w.params))):
  PySem.W.WalkO q loose XP YP l.row.toRowW d [] (λf vs=>PySem.call f vs):=
 L2.walk_ofR (n:=63) (k:=9) (x:="_law_script") (CX:=λ_=>CX0) (sp:=λw=>sp_law (K w.params)) hn (by decide) hdf ⟨rfl,by decide,by decide⟩ hY F (λ_ _ a ns hl ho hS=>⟨a,ns,rfl,hS,hl,ho,λ_=>rfl⟩) λ_ _ _ _ _ z=>z
end K74
open PySem PySem.W PyProof.Rows L2
set_option maxRecDepth 100000 in
set_option maxHeartbeats 0 in
theorem PySem.Challenge.cw_outweave_k74_whole_least_patch_holds : PySem.Challenge.rw_outweave_k74_whole_least_patch.Holds := by
 w_on;o_law;k_head;(case hw=>w_witness2)
 k_fill
 refine K74.walk (l:=PySem.Challenge.rw_outweave_k74_whole_least_patch) rfl rfl (λw h Y=>PySem.W.kIn_of Y) ?F
 case F =>
  intro w mg fa h KX G hmg
  refine' K74.all_mk KX G hmg ⟨?x1,?x2,?x3,?x4,?x5,?x6,?x7⟩ ?x8 ?x9 (mkD KX G ?x10 ?x11 ?x12 ?x13) (mkD KX G ?x14 ?x15 ?x16 ?x17) (mkM ?x18 ?x19 ?x20 ?x21 ?x22) (mkM ?x23 ?x24 ?x25 ?x26 ?x27) (mkM ?x28 ?x29 ?x30 ?x31 ?x32) (mkD KX G ?x33 ?x34 ?x35 ?x36) (mkM ?x37 ?x38 ?x39 ?x40 ?x41) (mkD KX G ?x42 ?x43 ?x44 ?x45) (mkD KX G ?x46 ?x47 ?x48 ?x49) (mkM ?x50 ?x51 ?x52 ?x53 ?x54) (mkD KX G ?x55 ?x56 ?x57 ?x58) (mkD KX G ?x59 ?x60 ?x61 ?x62) (mkM ?x63 ?x64 ?x65 ?x66 ?x67) (mkD KX G ?x68 ?x69 ?x70 ?x71) (mkD KX G ?x72 ?x73 ?x74 ?x75) (mkD KX G ?x76 ?x77 ?x78 ?x79) (mkD KX G ?x80 ?x81 ?x82 ?x83) (mkD KX G ?x84 ?x85 ?x86 ?x87) (mkD KX G ?x88 ?x89 ?x90 ?x91) (mkD KX G ?x92 ?x93 ?x94 ?x95) (mkD KX G ?x96 ?x97 ?x98 ?x99) (mkD KX G ?x100 ?x101 ?x102 ?x103) (mkD KX G ?x104 ?x105 ?x106 ?x107) (mkD KX G ?x108 ?x109 ?x110 ?x111) (mkD KX G ?x112 ?x113 ?x114 ?x115) (mkD KX G ?x116 ?x117 ?x118 ?x119) (mkD KX G ?x120 ?x121 ?x122 ?x123) (mkD KX G ?x124 ?x125 ?x126 ?x127) (mkD KX G ?x128 ?x129 ?x130 ?x131) (mkD KX G ?x132 ?x133 ?x134 ?x135) (mkD KX G ?x136 ?x137 ?x138 ?x139) (mkD KX G ?x140 ?x141 ?x142 ?x143) ?x144 ?x145 ?x146 ?x147 ⟨⟨⟨PySem.W.mg_none_of KX G ?x148,PySem.W.mg_none_of KX G ?x149,PySem.W.mg_none_of KX G ?x150,PySem.W.mg_none_of KX G ?x151,PySem.W.mg_none_of KX G ?x152,PySem.W.mg_none_of KX G ?x153,PySem.W.mg_none_of KX G ?x154,PySem.W.mg_none_of KX G ?x155,PySem.W.mg_none_of KX G ?x156,PySem.W.mg_none_of KX G ?x157,PySem.W.mg_none_of KX G ?x158,PySem.W.mg_none_of KX G ?x159,PySem.W.mg_none_of KX G ?x160,PySem.W.mg_none_of KX G ?x161,PySem.W.mg_none_of KX G ?x162⟩,PySem.W.mg_none_of KX G ?x163⟩,PySem.W.mg_none_of KX G ?x164⟩ ?x165 ⟨_,PySem.W.mg_of KX G ?x166,?x167⟩
  (case x1 | x2 | x3 | x4 | x5 | x6 | x7 | x8 | x9 | x10 | x11 | x12 | x13 | x14 | x15 | x16 | x17 | x18 | x19 | x20 | x21 | x22 | x23 | x24 | x25 | x26 | x27 | x28 | x29 | x30 | x31 | x32 | x33 | x34 | x35 | x36 | x37 | x38 | x39 | x40 | x41 | x42 | x43 | x44 | x45 | x46 | x47 | x48 | x49 | x50 | x51 | x52 | x53 | x54 | x55 | x56 | x57 | x58 | x59 | x60 | x61 | x62 | x63 | x64 | x65 | x66 | x67 | x68 | x69 | x70 | x71 | x72 | x73 | x74 | x75 | x76 | x77 | x78 | x79 | x80 | x81 | x82 | x83 | x84 | x85 | x86 | x87 | x88 | x89 | x90 | x91 | x92 | x93 | x94 | x95 | x96 | x97 | x98 | x99 | x100 | x101 | x102 | x103 | x104 | x105 | x106 | x107 | x108 | x109 | x110 | x111 | x112 | x113 | x114 | x115 | x116 | x117 | x118 | x119 | x120 | x121 | x122 | x123 | x124 | x125 | x126 | x127 | x128 | x129 | x130 | x131 | x132 | x133 | x134 | x135 | x136 | x137 | x138 | x139 | x140 | x141 | x142 | x143 | x144 | x145 | x146 | x147 | x148 | x149 | x150 | x151 | x152 | x153 | x154 | x155 | x156 | x157 | x158 | x159 | x160 | x161 | x162 | x163 | x164 | x166=>k_is)
  (case x165=>first | kernel_rfl | decide +kernel)
  (case x167=>exact⟨_,rfl⟩)
