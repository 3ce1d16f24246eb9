import PyProof.Rows.All
import Wide.All
import OpenK.AllK
import Wide.FinOn
import PyProof.EqAt
import PyProof.EqKinds
import PyProof.TupleCall
import KE.BitLaws
import Open.SpecLaws
import KE.OsHead
import KE.OsGo
import PySem.Challenge.RW_linerooms_s01_answers
set_option Elab.async false
set_option linter.all false
set_option maxRecDepth 100000
section
variable{a:Sort _}{b:Sort _}{c:Sort _}{d:Sort _}{e:Sort _}{f:Sort _}
theorem tS{P Q R:Prop}(h:P)(i:Q)(o:R):P∧Q∧R:=⟨h,i,o⟩
theorem ud{P Q R S:Prop}(h:P)(i:Q)(j:R)(o:S):P∧Q∧R∧S:=⟨h,i,j,o⟩
theorem uw{P Q R S T:Prop}(h:P)(i:Q)(j:R)(k:S)(o:T):P∧Q∧R∧S∧T:=⟨h,i,j,k,o⟩
theorem um{P Q R S T U:Prop}(h:P)(i:Q)(j:R)(k:S)(l:T)(o:U):P∧Q∧R∧S∧T∧U:=⟨h,i,j,k,l,o⟩
theorem tN{P Q R S T U W:Prop}(h:P)(i:Q)(j:R)(k:S)(l:T)(m:U)(o:W):P∧Q∧R∧S∧T∧U∧W:=⟨h,i,j,k,l,m,o⟩
theorem ui{P Q R:Prop}{S T:a→Prop}(h:P)(i:Q)(j:R)(u)(k:S u)(o:T u):P∧Q∧R∧∃u,S u∧T u:=⟨h,i,j,u,k,o⟩
theorem ub{P Q R:Prop}{S:a→b→Prop}(h:P)(i:Q)(j:R)(u v)(o:S u v):P∧Q∧R∧∃u v,S u v:=⟨h,i,j,u,v,o⟩
theorem uz{P Q:Prop}{R S:a→Prop}(h:P)(i:Q)(u)(j:R u)(o:S u):P∧Q∧∃u,R u∧S u:=⟨h,i,u,j,o⟩
theorem t9{P Q:Prop}{R:a→Prop}{S:a→b→c→Prop}(h:P)(i:Q)(u)(j:R u)(v w)(o:S u v w):P∧Q∧∃u,R u∧∃v w,S u v w:=⟨h,i,u,j,v,w,o⟩
theorem uv{P Q:Prop}{R S:a→b→Prop}(h:P)(i:Q)(u v)(j:R u v)(o:S u v):P∧Q∧∃u v,R u v∧S u v:=⟨h,i,u,v,j,o⟩
theorem ue{P Q:Prop}{R S T:a→b→Prop}(h:P)(i:Q)(u v)(j:R u v)(k:S u v)(o:T u v):P∧Q∧∃u v,R u v∧S u v∧T u v:=⟨h,i,u,v,j,k,o⟩
theorem uu{P Q:Prop}{R:a→b→c→Prop}(h:P)(i:Q)(u v w)(o:R u v w):P∧Q∧∃u v w,R u v w:=⟨h,i,u,v,w,o⟩
theorem uj{P:Prop}{Q:a→Prop}(h:P)(u)(o:Q u):P∧∃u,Q u:=⟨h,u,o⟩
theorem tX{P:Prop}{Q R:a→Prop}(h:P)(u)(i:Q u)(o:R u):P∧∃u,Q u∧R u:=⟨h,u,i,o⟩
theorem uk{P:Prop}{Q R S:a→Prop}(h:P)(u)(i:Q u)(j:R u)(o:S u):P∧∃u,Q u∧R u∧S u:=⟨h,u,i,j,o⟩
theorem ut{P:Prop}{Q R:a→b→Prop}(h:P)(u v)(i:Q u v)(o:R u v):P∧∃u v,Q u v∧R u v:=⟨h,u,v,i,o⟩
theorem uB{P:Prop}{Q R S:a→b→Prop}(h:P)(u v)(i:Q u v)(j:R u v)(o:S u v):P∧∃u v,Q u v∧R u v∧S u v:=⟨h,u,v,i,j,o⟩
theorem tF{P Q:a→Prop}(u)(h:P u)(o:Q u):∃u,P u∧Q u:=⟨u,h,o⟩
theorem tK{P Q R:a→Prop}(u)(h:P u)(i:Q u)(o:R u):∃u,P u∧Q u∧R u:=⟨u,h,i,o⟩
theorem ua{P Q R S:a→Prop}(u)(h:P u)(i:Q u)(j:R u)(o:S u):∃u,P u∧Q u∧R u∧S u:=⟨u,h,i,j,o⟩
theorem t8{P Q R S T:a→Prop}(u)(h:P u)(i:Q u)(j:R u)(k:S u)(o:T u):∃u,P u∧Q u∧R u∧S u∧T u:=⟨u,h,i,j,k,o⟩
theorem tJ{P Q R S T U:a→Prop}(u)(h:P u)(i:Q u)(j:R u)(k:S u)(l:T u)(o:U u):∃u,P u∧Q u∧R u∧S u∧T u∧U u:=⟨u,h,i,j,k,l,o⟩
theorem ux{P Q:a→Prop}{R:a→b→Prop}(u)(h:P u)(i:Q u)(v)(o:R u v):∃u,P u∧Q u∧∃v,R u v:=⟨u,h,i,v,o⟩
theorem tL{P Q:a→Prop}{R S:a→b→Prop}(u)(h:P u)(i:Q u)(v)(j:R u v)(o:S u v):∃u,P u∧Q u∧∃v,R u v∧S u v:=⟨u,h,i,v,j,o⟩
theorem t0{P:a→Prop}{Q R:a→b→Prop}(u)(h:P u)(v)(i:Q u v)(o:R u v):∃u,P u∧∃v,Q u v∧R u v:=⟨u,h,v,i,o⟩
theorem uq{P:a→Prop}{Q R S:a→b→Prop}(u)(h:P u)(v)(i:Q u v)(j:R u v)(o:S u v):∃u,P u∧∃v,Q u v∧R u v∧S u v:=⟨u,h,v,i,j,o⟩
theorem ur{P:a→Prop}{Q:a→b→Prop}{R:a→b→c→Prop}(u)(h:P u)(v)(i:Q u v)(w)(o:R u v w):∃u,P u∧∃v,Q u v∧∃w,R u v w:=⟨u,h,v,i,w,o⟩
theorem uC{P:a→Prop}{Q:a→b→Prop}{R S:a→b→c→Prop}(u)(h:P u)(v)(i:Q u v)(w)(j:R u v w)(o:S u v w):∃u,P u∧∃v,Q u v∧∃w,R u v w∧S u v w:=⟨u,h,v,i,w,j,o⟩
theorem tT{P:a→Prop}{Q:a→b→Prop}{R:a→b→c→d→Prop}(u)(h:P u)(v)(i:Q u v)(w x)(o:R u v w x):∃u,P u∧∃v,Q u v∧∃w x,R u v w x:=⟨u,h,v,i,w,x,o⟩
theorem tQ{P:a→Prop}{Q:a→b→c→Prop}(u)(h:P u)(v w)(o:Q u v w):∃u,P u∧∃v w,Q u v w:=⟨u,h,v,w,o⟩
theorem uo{P:a→Prop}{Q R:a→b→c→Prop}(u)(h:P u)(v w)(i:Q u v w)(o:R u v w):∃u,P u∧∃v w,Q u v w∧R u v w:=⟨u,h,v,w,i,o⟩
theorem tW{P:a→Prop}{Q R S:a→b→c→Prop}(u)(h:P u)(v w)(i:Q u v w)(j:R u v w)(o:S u v w):∃u,P u∧∃v w,Q u v w∧R u v w∧S u v w:=⟨u,h,v,w,i,j,o⟩
theorem tR{P:a→Prop}{Q:a→b→c→d→Prop}(u)(h:P u)(v w x)(o:Q u v w x):∃u,P u∧∃v w x,Q u v w x:=⟨u,h,v,w,x,o⟩
theorem tV{P:a→Prop}{Q:a→b→c→d→e→Prop}(u)(h:P u)(v w)(x y)(o:Q u v w x y):∃u,P u∧∃v w x y,Q u v w x y:=⟨u,h,v,w,x,y,o⟩
theorem tU{P:a→b→Prop}(u v)(o:P u v):∃u v,P u v:=⟨u,v,o⟩
theorem tO{P Q:a→b→Prop}(u v)(h:P u v)(o:Q u v):∃u v,P u v∧Q u v:=⟨u,v,h,o⟩
theorem tH{P Q R:a→b→Prop}(u v)(h:P u v)(i:Q u v)(o:R u v):∃u v,P u v∧Q u v∧R u v:=⟨u,v,h,i,o⟩
theorem tP{P Q R S:a→b→Prop}(u v)(h:P u v)(i:Q u v)(j:R u v)(o:S u v):∃u v,P u v∧Q u v∧R u v∧S u v:=⟨u,v,h,i,j,o⟩
theorem tG{P Q R S T:a→b→Prop}(u v)(h:P u v)(i:Q u v)(j:R u v)(k:S u v)(o:T u v):∃u v,P u v∧Q u v∧R u v∧S u v∧T u v:=⟨u,v,h,i,j,k,o⟩
theorem uy{P Q R:a→b→Prop}{S:a→b→c→Prop}(u v)(h:P u v)(i:Q u v)(j:R u v)(w)(o:S u v w):∃u v,P u v∧Q u v∧R u v∧∃w,S u v w:=⟨u,v,h,i,j,w,o⟩
theorem ug{P Q:a→b→Prop}{R S:a→b→c→Prop}(u v)(h:P u v)(i:Q u v)(w)(j:R u v w)(o:S u v w):∃u v,P u v∧Q u v∧∃w,R u v w∧S u v w:=⟨u,v,h,i,w,j,o⟩
theorem t6{P Q:a→b→c→Prop}(u v w)(h:P u v w)(o:Q u v w):∃u v w,P u v w∧Q u v w:=⟨u,v,w,h,o⟩
theorem tM{P Q R:a→b→c→Prop}(u v w)(h:P u v w)(i:Q u v w)(o:R u v w):∃u v w,P u v w∧Q u v w∧R u v w:=⟨u,v,w,h,i,o⟩
theorem tI{P Q R S:a→b→c→Prop}(u v w)(h:P u v w)(i:Q u v w)(j:R u v w)(o:S u v w):∃u v w,P u v w∧Q u v w∧R u v w∧S u v w:=⟨u,v,w,h,i,j,o⟩
theorem tY{P:a→b→c→d→Prop}(u v)(w x)(o:P u v w x):∃u v w x,P u v w x:=⟨u,v,w,x,o⟩
theorem uA{P:a→b→c→d→e→Prop}(u v)(w x y)(o:P u v w x y):∃u v w x y,P u v w x y:=⟨u,v,w,x,y,o⟩
theorem tZ{P:a→b→c→d→e→f→Prop}(u v)(w x)(y z)(o:P u v w x y z):∃u v w x y z,P u v w x y z:=⟨u,v,w,x,y,z,o⟩
end
open PySem.Heap renaming lt_size→rg,get?_push_of_some→rJ,get?_push_size→rK,size_push→rS
open Nat renaming lt_of_lt_of_le→rh,lt_irrefl→rk,ne_of_lt→rm,le_trans→rq,ne_of_gt→rH,le_refl→rL,zero_le→rO,le_add_right→sy,lt_of_le_of_lt→sA,sub_self→sJ,mul_le_mul_right→sU,add_mul→sV,add_sub_cancel→sX,pow_le_pow_right→sZ
open List renaming range→rn,mem_range→rp,mem_cons_self→rA,mem_cons_of_mem→rB,mem_cons→rC,mem_append→rD,getElem?_eq_some_iff→rE,mem_filterMap→rM,mem_append_right→rN,length_cons→rP,map_cons→rQ,length_map→rR,append_nil→rT,nodup_cons→rV,replicate→rW,length_take→rX,getElem?_append_right→rY,getElem?_append_left→rZ,getElem?_map→r6,mem_of_getElem?→r8,length_append→r9,length_replicate→sf,length_drop→sg,size_toArray→sh,length_set→si,length_singleton→sk,take_of_length_le→sn,getD_eq_getElem?_getD→so,lookup_cons→sr,getElem?_eq_none→su,mem_map→sv,length_nil→sx,drop_eq_nil_of_le→sE,drop_eq_getElem_cons→sF,getElem?_eq_getElem→sG,take_succ→sI,append_assoc→sK,getElem?_of_mem→sM,map_map→sN,length_range→sO,range_succ→sP,map_append→sQ,getElem?_range→sR,map_congr_left→sS,sum_cons→sW,ext_getElem?→sY,replicate_succ'→tf,take_length→tm,mem_or_eq_of_mem_set→tu,length_reverse→tz,length_eq_one_iff→tD,length_eq_zero_iff→tE
open Array renaming length_toList→rF
open Bool renaming false_ne_true→rG,and_eq_true→sj,false_eq_true→sw,noConfusion→sC
open Int renaming natCast_mul→tw
open PySem.W renaming Frag→fG
section
namespace L2
open PySem PySem.Spec PyProof.Rows
abbrev Key:=Sum Int Str
def mF:Key→Value→Bool
 |.inl k,v=>Value.isInt k v
 |.inr x,v=>Value.isStrOf x v
def keyH(w:World):Key→Int
 |.inl k=>hashInt k
 |.inr x=>hashStr w x
theorem bV:∀{k:Key} {v:Value},mF k v=true→(∃i t,k=Sum.inl i∧v=Value.int i t)∨(∃x t,k=Sum.inr x∧v=Value.str x t)
 |.inl i,v,h=>by
  obtain⟨t,e⟩:=Value.isInt_shape (k:=i) (v:=v) h;exact .inl (tO i t rfl e)
 |.inr x,v,h=>by
  obtain⟨t,e⟩:=Value.isStrOf_shape (x:=x) (v:=v) h;exact .inr (tO x t rfl e)
theorem keyIs_int(i:Int)(t:Tok):mF (.inl i) (.int i t)=true:=by simp[mF,Value.isInt]
theorem keyIs_str(x:Str)(t:Tok):mF (.inr x) (.str x t)=true:=by simp[mF,Value.isStrOf]
theorem key_ll(a b:Int):decide ((Sum.inl a:Key)=Sum.inl b)=(a==b):=by
 by_cases e:a=b
 ·subst e;simp
 ·have h:¬(Sum.inl a:Key)=Sum.inl b:=λq=>e (Sum.inl.inj q);rw[decide_eq_false h];exact(beq_eq_false_iff_ne.mpr e).symm
theorem key_rr(a b:Str):decide ((Sum.inr a:Key)=Sum.inr b)=decide (a=b):=by
 by_cases e:a=b
 ·subst e;simp
 ·have h:¬(Sum.inr a:Key)=Sum.inr b:=λq=>e (Sum.inr.inj q);rw[decide_eq_false h,decide_eq_false e]
theorem key_lr(a:Int)(b:Str):decide ((Sum.inl a:Key)=Sum.inr b)=false:=decide_eq_false (λq=>nomatch q)
theorem key_rl(a:Str)(b:Int):decide ((Sum.inr a:Key)=Sum.inl b)=false:=decide_eq_false (λq=>nomatch q)
def bB(prog:Program)(w:World):PySem.KeyKind prog w Key where
 is:=mF
 hash:=keyH w
 inj:=λv a b ha hb=>by
  rcases bV ha with⟨i,t,rfl,rfl⟩|⟨x,t,rfl,rfl⟩
  ·rcases bV hb with⟨j,u,rfl,e⟩|⟨y,u,rfl,e⟩
   ·injection e with e1 _;rw[e1]
   ·exact nomatch e
  ·rcases bV hb with⟨j,u,rfl,e⟩|⟨y,u,rfl,e⟩
   ·exact nomatch e
   ·injection e with e1 _;rw[e1]
 byValue:=λk v h=>by
  rcases bV h with⟨i,t,rfl,rfl⟩|⟨x,t,rfl,rfl⟩<;>rfl
 pyHash:=λhv h=>by
  rcases bV hv with⟨i,t,rfl,rfl⟩|⟨x,t,rfl,rfl⟩
  ·exact wpAny_pyHash_int h
  ·exact wpAny_pyHash_str h
 eqBool:=λhu hv h=>by
  rcases bV hu with⟨i,t,rfl,rfl⟩|⟨x,t,rfl,rfl⟩
  ·rcases bV hv with⟨j,u,rfl,rfl⟩|⟨y,u,rfl,rfl⟩
   ·rw[key_ll]at h;exact wpAny_eqBool_int h
   ·rw[key_lr]at h;exact SeqAt.EqAt.int_str i t y u _ _ _ _ h
  ·rcases bV hv with⟨j,u,rfl,rfl⟩|⟨y,u,rfl,rfl⟩
   ·rw[key_rl]at h;exact SeqAt.EqAt.str_int x t j u _ _ _ _ h
   ·rw[key_rr]at h;exact wpAny_eqBool_str h
 «strs»:=λk x t v h=>by
  rcases bV h with⟨i,u,rfl,e⟩|⟨y,u,rfl,e⟩
  ·exact nomatch e
  ·injection e with e1 _;subst e1;cases v<;>rfl
theorem pW(prog:Program)(w:World)(i:Int)(t:Tok):(bB prog w).is (.inl i) (.int i t)=true:=keyIs_int i t
theorem pV(prog:Program)(w:World)(x:Str)(t:Tok):(bB prog w).is (.inr x) (.str x t)=true:=keyIs_str x t
end L2
namespace L2
open PySem PySem.Spec PyProof.Rows
inductive V where
 |non|bl (b:Bool)|int (i:Int)|str (x:Str)|byt (b:Array UInt8)|flt (b:UInt64)|ref (a:Addr)|ty (n:String)
 deriving DecidableEq
def bg:V→Value→Prop
 |.non,u=>u=Value.none
 |.bl b,u=>u=Value.bool b
 |.int i,u=>∃t,u=Value.int i t
 |.str x,u=>∃t,u=Value.str x t
 |.byt b,u=>∃t,u=Value.bytes b t
 |.flt b,u=>∃t,u=Value.float b t
 |.ref a,u=>u=Value.ref a
 |.ty n,u=>u=Value.type n
abbrev aW:List V→List Value→Prop:=Paired bg
theorem aW.length{xs:List V}{us:List Value}(r:aW xs us):xs.length=us.length:=Paired.length r
theorem aW.get:∀{xs:List V} {us:List Value} {i:Nat} {x:V},aW xs us→xs[i]?=some x→∃u,us[i]?=some u∧bg x u
 |_,_,_,_,.nil,e=>by simp at e
 |_,_,0,_,.cons r _,e=>by simp at e;subst e;exact tF _ rfl r
 |_,_,i+1,x,.cons _ t,e=>by
  obtain⟨u,h1,h2⟩:=aW.get (i:=i) (x:=x) t (by simpa using e);exact tF u (by simpa using h1) h2
theorem aW.set{x:V}{u:Value}(r:bg x u):∀{xs:List V} {us:List Value} (i:Nat),aW xs us→aW (xs.set i x) (us.set i u)
 |_,_,_,.nil=>.nil
 |_,_,0,.cons _ t=>.cons r t
 |_,_,i+1,.cons q t=>.cons q (aW.set r i t)
theorem aW.append:∀{xs ys:List V} {us ws:List Value},aW xs us→aW ys ws→aW (xs++ys) (us++ws)
 |_,_,_,_,.nil,s=>s
 |_,_,_,_,.cons r t,s=>.cons r (aW.append t s)
theorem aW.take:∀{xs:List V} {us:List Value} (n:Nat),aW xs us→aW (xs.take n) (us.take n)
 |_,_,0,_=>.nil
 |_,_,_+1,.nil=>.nil
 |_,_,n+1,.cons r t=>.cons r (aW.take n t)
theorem aW.drop:∀{xs:List V} {us:List Value} (n:Nat),aW xs us→aW (xs.drop n) (us.drop n)
 |_,_,0,r=>r
 |_,_,_+1,.nil=>.nil
 |_,_,n+1,.cons _ t=>aW.drop n t
def fV:Option V→Option Value→Prop
 |some v,some u=>bg v u
 |none,none=>True
 |_,_=>False
def KV{κ:Type}:List (κ×V)→List (κ×Value)→Prop:=Paired λ(p:κ×V) (q:κ×Value)=>p.1=q.1∧bg p.2 q.2
def kV:Key→V
 |.inl i=>.int i
 |.inr x=>.str x
inductive HO where
 |lst (xs:List V)
 |tup (xs:List V)
 |dK (kvs:List (Key×V))|dT (kvs:List (List Key×V))
 |set (S:Int→Bool) (n:Nat)
 |ins (C dx:Addr) (fs:List (Str×V))
 |own (x:Addr)
 |xd (fs:List (Str×V))
 |met (f x:Addr)
 |rng (lo hi:Int)
 |frz (o:Obj) (u:HO)
 |tbl (ps:Array Value)
 |ext (φ:Heap→Prop)
abbrev Hp:=Addr→Option HO
def upd(H:Hp)(a:Addr)(o:HO):Hp:=λb=>if b=a then some o else H b
theorem ac{H:Hp}{a:Addr}{o:HO}:upd H a o a=some o:=by unfold upd;rw[if_pos rfl]
theorem af{H:Hp}{a b:Addr}{o:HO}(h:b≠a):upd H a o b=H b:=by unfold upd;rw[if_neg h]
theorem bX{H:Hp}{a:Addr}{o u:HO}:upd (upd H a o) a u=upd H a u:=by
 funext b;unfold upd;split<;>rfl
theorem a9{H:Hp}{a b:Addr}{o u:HO}(h:H a=some o)(h':H b=some u)(d:o≠u):a≠b:=by
 intro e;subst e;rw[h]at h';exact d (Option.some.inj h')
theorem ai{H:Hp}{a b:Addr}{o:HO}(h:H a=some o)(h':H b=none):a≠b:=by
 intro e;subst e;rw[h]at h';cases h'
section
variable (P:Program) (w:World)
def bI(H:Hp)(h:Heap)(a:Addr):HO→Prop
 |.lst xs=>xs.length≤sizeLine∧∃(its:List Value) (n:Nat),aW xs its∧h.get? a=some {cls:=.type "list",data:=.seq its.toArray n}
 |.tup xs=>xs.length≤sizeLine∧∃its:List Value,aW xs its∧IsTup h a its.toArray
 |.dK kvs=>kvs.length≤sizeLine∧(a==sysModules)=false∧∃vs,KV kvs vs∧h.DictOf (bB P w) a vs
 |.dT kvs=>kvs.length≤sizeLine∧(a==sysModules)=false∧∃xs:List (List Key×Addr×Value),
   Paired (λ(p:List Key×V) (q:List Key×Addr×Value)=>p.1=q.1∧H q.2.1=some (.tup (p.1.map kV))∧bg p.2 q.2.2) kvs xs ∧
   ∃o es ep,h.get? a=some o∧o.ExactDict∧o.data=.dict es ep∧es.toList=xs.map (entryOfKey (tupleKind (bB P w)))∧(xs.map (·.1)).Nodup
 |.set S n=>h.SetOf (intKind P w) a S n
 |.ins C dx fs=>H dx=some (.own a)∧fs.length≤1000∧dx≠a∧h.get? a=some (PySem.W.instObj C dx) ∧
   ∃mA,h.Ns1 dx mA∧(∀f,fV (fs.lookup f) (mA f))∧PySem.Within mA (fs.map (·.1))
 |.own _=>∃o,h.get? a=some o
 |.xd fs=>∃mA,h.Ns1 a mA∧∀f,fV (fs.lookup f) (mA f)
 |.rng lo hi=>∃t u v,h.get? a=some {cls:=.type "range",data:=.fields #[.int lo t,.int hi u,.int 1 v]}
 |.frz o u=>h.get? a=some o∧bI H h a u
 |.tbl ps=>h.get? a=some {cls:=.none,data:=.fields ps}
 |.met f x=>h.get? a=some (PySem.W.methodObj (.ref f) (.ref x))
 |.ext φ=>φ h∧(∃o,h.get? a=some o)∧∀h1 h2:Heap,φ h1→(∀o,h1.get? a=some o→h2.get? a=some o)→φ h2
def HOk(H:Hp)(h:Heap):Prop:=∀a o,H a=some o→bI P w H h a o
end
section
variable {P:Program} {w:World} {H H':Hp} {h h':Heap} {a:Addr} {o:HO}
theorem bI.lt(x:bI P w H h a o):a<h.objs.size:=by
 cases o with
 |lst xs=>obtain⟨_,_,_,_,e⟩:=x;exact rg e
 |tup xs=>obtain⟨_,_,_,p⟩:=x;exact p.lt
 |dK kvs=>obtain⟨_,_,_,_,o,_,_,e,_⟩:=x;exact rg e
 |dT kvs=>obtain⟨_,_,_,_,o,_,_,e,_⟩:=x;exact rg e
 |set S n=>obtain⟨o,_,_,_,e,_⟩:=x;exact rg e
 |ins C dx fs=>obtain⟨_,_,_,e,_⟩:=x;exact rg e
 |own y=>obtain⟨_,e⟩:=x;exact rg e
 |xd fs=>obtain⟨_,⟨_,_,_,e,_⟩,_⟩:=x;exact rg e
 |rng lo hi=>obtain⟨_,_,_,e⟩:=x;exact rg e
 |frz ob u=>obtain⟨e,_⟩:=x;exact rg e
 |tbl ps=>exact rg (show h.get? a=some _ from x)
 |met f y=>exact rg (show h.get? a=some _ from x)
 |ext φ=>obtain⟨_,⟨_,e⟩,_⟩:=x;exact rg e
theorem Paired.mapP{α β:Type}{F G:α→β→Prop}:∀{l₁:List α} {l₂:List β},Paired F l₁ l₂→(∀a b,F a b→G a b)→Paired G l₁ l₂
 |_,_,.nil,_=>.nil
 |_,_,.cons r t,f=>.cons (f _ _ r) (Paired.mapP t f)
theorem bI.stay(x:bI P w H h a o)(k:∀b u,(b=a∨H b=some (.own a))→h.get? b=some u→h'.get? b=some u)(ho:∀b,H b=some (.own a)→H' b=some (.own a))(ht:∀b xs,H b=some (.tup xs)→H' b=some (.tup xs)):bI P w H' h' a o:=by
 induction o with
 |lst xs=>obtain⟨z,its,n,r,e⟩:=x;exact ut z its n r (k _ _ (.inl rfl) e)
 |tup xs=>obtain⟨z,its,r,ob,e,c⟩:=x;exact⟨z,t0 its r ob (k _ _ (.inl rfl) e) c⟩
 |dK kvs=>obtain⟨z,y,vs,r,ob,es,ep,e,c⟩:=x;exact uz z y vs r (t6 ob es ep (k _ _ (.inl rfl) e) c)
 |dT kvs =>
  obtain⟨z,y,xs,r,ob,es,ep,e,c⟩:=x;exact uz z y xs (Paired.mapP r λp q z=>tS z.1 (ht _ _ z.2.1) z.2.2) (t6 ob es ep (k _ _ (.inl rfl) e) c)
 |set S n=>obtain⟨ob,es,ep,t,e,c⟩:=x;exact⟨ob,t6 es ep t (k _ _ (.inl rfl) e) c⟩
 |ins C dx fs =>
  obtain⟨d,z,ne,e,mA,⟨od,es,ep,e2,c⟩,r⟩:=x;exact⟨ho _ d,ui z ne (k _ _ (.inl rfl) e) mA (t6 od es ep (k _ _ (.inr d) e2) c) r⟩
 |own y=>obtain⟨ob,e⟩:=x;exact⟨ob,k _ _ (.inl rfl) e⟩
 |xd fs=>obtain⟨mA,⟨od,es,ep,e,c⟩,r⟩:=x;exact tF mA (t6 od es ep (k _ _ (.inl rfl) e) c) r
 |rng lo hi=>obtain⟨t,u,v,e⟩:=x;exact⟨t,tU u v (k _ _ (.inl rfl) e)⟩
 |frz ob u ih=>obtain⟨e,q⟩:=x;exact⟨k _ _ (.inl rfl) e,ih q⟩
 |tbl ps =>
  have e:h.get? a=some {cls:=.none,data:=.fields ps}:=x;show h'.get? a=some {cls:=.none,data:=.fields ps};exact k a _ (.inl rfl) e
 |met f y =>
  have e:h.get? a=some (PySem.W.methodObj (.ref f) (.ref y)):=x;show h'.get? a=some (PySem.W.methodObj (.ref f) (.ref y));exact k a _ (.inl rfl) e
 |ext φ=>obtain⟨p,⟨o,e⟩,st⟩:=x;exact tS (st _ _ p λo q=>k _ _ (.inl rfl) q) ⟨o,k _ _ (.inl rfl) e⟩ st
theorem HOk.lt(x:HOk P w H h)(e:H a=some o):a<h.objs.size:=(x a o e).lt
theorem HOk.fresh(x:HOk P w H h)(e:h.objs.size≤a):H a=none:=by
 cases q:H a with
 |none=>rfl
 |some u=>exact absurd (rh (x.lt q) e) (rk _)
theorem HOk.kept(x:HOk P w H h)(k:∀b u,h.get? b=some u→h'.get? b=some u):HOk P w H h':=λa o e =>
 (x a o e).stay (λb u _ q=>k b u q) (λ_ q=>q) λ_ _ q=>q
theorem HOk.laid(x:HOk P w H h)(k:∀b u,h.get? b=some u→h'.get? b=some u)(hp:h.objs.size≤a)(new:bI P w (upd H a o) h' a o):HOk P w (upd H a o) h':=λb u e=>by
 have hn:=x.fresh hp;by_cases hb:b=a
 ·subst hb;rw[ac]at e;cases e;exact new
 ·rw[af hb]at e;exact(x b u e).stay (λc v _ q=>k c v q) (λc q=>by rw[af (ai q hn)];exact q) λc xs q=>by rw[af (ai q hn)];exact q
end
def Rd(H:Hp)(a:Addr)(u:HO):Prop:=H a=some u∨∃o,H a=some (.frz o u)
theorem Rd.ok{P:Program}{w:World}{H:Hp}{h:Heap}{a:Addr}{u:HO}(r:Rd H a u)(x:HOk P w H h):bI P w H h a u:=by
 rcases r with r|⟨o,r⟩
 ·exact x a u r
 ·obtain⟨_,q⟩:=x a _ r;exact q
def Mut:Option HO→Prop
 |some (.lst _)=>True
 |some (.dK _)=>True
 |some (.dT _)=>True
 |some (.set _ _)=>True
 |some (.ins _ _ _)=>True
 |some (.ext _)=>True
 |_=>False
section
variable {P:Program} {w:World} {H:Hp} {h h':Heap} {x e:Addr} {o':HO}
theorem HOk.write(ok:HOk P w H h)(mu:Mut (H x))(he:e=x∨H e=some (.own x))(k:∀b u,b≠e→h.get? b=some u→h'.get? b=some u)(heo:∃u,h'.get? e=some u)(new:bI P w (upd H x o') h' x o'):HOk P w (upd H x o') h':=λb u q=>by
 have nown:∀c y,H c=some (.own y)→c≠x:=λc y r z=>by subst z;rw[r]at mu;exact mu
 have ntup:∀c xs,H c=some (.tup xs)→c≠x:=λc xs r z=>by subst z;rw[r]at mu;exact mu
 by_cases hb:b=x
 ·subst hb;rw[ac]at q;cases q;exact new
 ·rw[af hb]at q;by_cases hbe:b=e
  ·have q':H b=some (.own x):=by
    rcases he with z|z
    ·exact absurd (hbe.trans z) hb
    ·rw[hbe];exact z
   rw[q]at q';cases q';obtain⟨v,hv⟩:=heo;exact⟨v,by rw[hbe];exact hv⟩
  ·refine(ok b u q).stay (λc v hc r=>k c v ?_ r) (λc r=>by rw[af (nown c b r)];exact r) λc xs r=>by rw[af (ntup c xs r)];exact r
   rcases hc with rfl|hc
   ·exact hbe
   ·rintro rfl;rcases he with z|z
    ·exact nown c b hc z
    ·rw[hc]at z;cases z;exact hb rfl
end
structure Un(fs ex:List Addr)(H H':Hp)(h h':Heap):Prop where
 keep:∀b o,h.get? b=some o→H b=none→b∉fs→b∉ex→h'.get? b=some o
 slot:∀b o,h.get? b=some o→H b=none→b∈fs→b∉ex→∃sl,h'.get? b=some {o with slots:=sl}
 free:∀b o,h.get? b=some o→H b=none→b∉ex→H' b=none
 there:∀b o,h.get? b=some o→b∉ex→∃o',h'.get? b=some o'
 tups:∀b xs,H b=some (.tup xs)→H' b=some (.tup xs)
 frzs:∀b o u,H b=some (.frz o u)→H' b=some (.frz o u)
 tbls:∀b ps,H b=some (.tbl ps)→∃more,H' b=some (.tbl (ps++more))
section
variable {fs fs' ex ex':List Addr} {H H1 H2:Hp} {h h1 h2 h':Heap} {a x e:Addr} {o:HO}
theorem Un.any(u:Un fs ex H H1 h h1){b:Addr}{ob:Obj}(q:h.get? b=some ob)(n:H b=none)(hx:b∉ex):∃sl,h1.get? b=some {ob with slots:=sl}:=by
 by_cases hb:b∈fs
 ·exact u.slot b ob q n hb hx
 ·exact⟨ob.slots,u.keep b ob q n hb hx⟩
theorem Un.kept(k:∀b u,h.get? b=some u→h'.get? b=some u):Un fs ex H H h h' :=
 ⟨λb ob q _ _ _=>k b ob q,λb ob q _ _ _=>⟨ob.slots,k b ob q⟩,λ_ _ _ n _=>n,λb ob q _=>⟨ob,k b ob q⟩,λ_ _ q=>q,λ_ _ _ q=>q,λ_ ps q=>⟨#[],by rw[q];simp⟩⟩
theorem Un.refl:Un fs ex H H h h:=Un.kept λ_ _ q=>q
theorem Un.laid(k:∀b u,h.get? b=some u→h'.get? b=some u)(hp:h.objs.size≤a)(hn:H a=none):Un fs ex H (upd H a o) h h' where
 keep:=λb u q _ _ _=>k b u q
 slot:=λb u q _ _ _=>⟨u.slots,k b u q⟩
 free:=λb u q n _=>by rw[af (rm (rh (rg q) hp))];exact n
 there:=λb u q _=>⟨u,k b u q⟩
 tups:=λb xs q=>by rw[af (ai q hn)];exact q
 frzs:=λb u xs q=>by rw[af (ai q hn)];exact q
 tbls:=λb ps q=>⟨#[],by rw[af (ai q hn),q];simp⟩
theorem Un.write(mu:Mut (H x))(he:e=x∨H e=some (.own x))(k:∀b u,b≠e→h.get? b=some u→h'.get? b=some u)(heo:∃u,h'.get? e=some u):Un fs ex H (upd H x o) h h':=by
 have hx:∀b,H b=none→b≠x:=λb n z=>by subst z;rw[n]at mu;exact mu
 have hb:∀b,H b=none→b≠e:=λb n z=>by
  subst z;rcases he with r|r
  ·exact hx b n r
  ·rw[n]at r;cases r
 have hm:∀b u,H b=some u→¬Mut (some u)→b≠x:=λb u q nm z=>by subst z;rw[q]at mu;exact nm mu
 refine⟨λb u q n _ _=>k b u (hb b n) q,λb u q n _ _=>⟨u.slots,k b u (hb b n) q⟩,λb u q n _=>by rw[af (hx b n)];exact n,λb u q _=>?_,
  λb xs q=>by rw[af (hm b _ q λz=>z)];exact q,λb u xs q=>by rw[af (hm b _ q λz=>z)];exact q,λb ps q=>⟨#[],by rw[af (hm b _ q λz=>z),q];simp⟩⟩
 by_cases hbe:b=e
 ·subst hbe;exact heo
 ·exact⟨u,k b u hbe q⟩
end
def trk(h:Heap)(H:Hp):List Addr:=(rn h.objs.size).filter λa=>(H a).isSome
def iF(h:Heap)(H:Hp):Heap:=PySem.W.hideAll h (trk h H)
theorem mJ(h:Heap)(H:Hp):(iF h H).objs.size=h.objs.size:=PySem.W.hideAll_size _ _
theorem qd{h:Heap}{H:Hp}{b:Addr}{o:Obj}(e:h.get? b=some o)(n:H b=none):(iF h H).get? b=some o :=
 PySem.W.hideAll_get _ e λhm=>by
  have q:(H b).isSome=true:=(List.mem_filter.mp hm).2;rw[n]at q;simp at q
theorem of_hidT{h:Heap}{H:Hp}{b:Addr}{o:Obj}(e:(iF h H).get? b=some o):h.get? b=some o∧H b=none:=by
 have e':h.get? b=some o:=PySem.W.of_hideAll (trk h H) e;refine⟨e',?_⟩;cases q:H b with
 |none=>rfl
 |some x =>
  have hm:b∈trk h H:=List.mem_filter.mpr ⟨rp.mpr (rg e'),by simp[q]⟩;have z:(iF h H).get? b=none:=PySem.W.hideAll_none (trk h H) hm;rw[z]at e;cases e
end L2
namespace L2
open PySem PySem.Spec PyProof.Rows
structure Mod(K:fG)(mg:Str→Option Value)(base:Heap):Prop where
 kin:K.In base
 glob:base.Ns mainGlobals mg
 blt:∃mb,base.Ns builtinsNs mb∧∀x:Str,x≠"__name__"→mb x=bootBuiltins x
 nolimit:base.NoLimit
structure Cx where
 prog:Program
 w:World
 K:fG
 mg:Str→Option Value
 base:Heap
 A:Around
 N:List Str
 s_0:Shared
 H_0:Hp
 env:Env
 outer:List Env
 stack:List Env
 ex:List Addr
 fn:Str→Bool
 calm:Bool
 pn:List (Addr×Obj)
 xe:Value→Shared→Prop
def frs(l:List Env):List Addr:=l.filterMap (·.frame)
abbrev Cx.fs(X:Cx):List Addr:=frs X.outer
def Vis(sc:Scope)(x:Str):Prop:=sc.names.lookup x=some .local∨sc.names.lookup x=some .cell∨sc.names.lookup x=some .free
def Loc(sc:Scope)(x:Str):Prop:=sc.names.lookup x=some .local∨sc.names.lookup x=some .cell
def Look(env:Env)(h:Heap)(m:Str→Option Value)(x:Str)(u:Value):Prop :=
 (env.kindOf x=some .local∧m x=some u)∨((env.kindOf x=some .cell∨env.kindOf x=some .free)∧∃c,env.cells.lookup x=some c∧h.IsCell c (some u))
structure Cx.Ok(X:Cx):Prop where
 mod:Mod X.K X.mg X.base
 kind:X.env.scope.kind=.function
 glob:X.env.globals=mainGlobals
 blt:X.env.builtins=builtinsNs
 above:X.s_0.heap.objs.size≤X.env.locals
 inj:∀x y c,X.env.cells.lookup x=some c→X.env.cells.lookup y=some c→x=y
 has:∀x,(X.env.kindOf x=some .cell∨X.env.kindOf x=some .free)→∃c,X.env.cells.lookup x=some c
 cab:∀x c,X.fn x=true→X.env.cells.lookup x=some c→X.s_0.heap.objs.size≤c
 hd:X.calm=true→X.A.handled=none
 frames:X.A.frames=some X.stack
 stk:X.stack=X.outer∨(X.stack=X.env::X.outer∧X.env.frame=some X.env.locals)
 exf:∀b∈X.ex,b≠X.env.locals∧∀x c,X.env.cells.lookup x=some c→c≠b
 bs:∀b o,X.base.get? b=some o→X.s_0.heap.get? b=some o∧X.H_0 b=none
 bsz:X.base.objs.size≤X.s_0.heap.objs.size
 noex:∀b o,X.base.get? b=some o→b∉X.ex
 exfs:∀b∈X.ex,b∉X.fs
 funs:X.s_0.heap.FunFrames X.base X.outer
 frf:∀b∈X.fs,X.H_0 b=none
structure Inv(X:Cx)(pins:List (Addr×Obj))(σ:List (Option V))(H:Hp)(s:Shared):Prop where
 ok:X.Ok
 os:s.os=X.s_0.os
 bare:AllBare s.gens
 base:Un X.fs X.ex X.H_0 H X.s_0.heap s.heap
 loc:∃m,s.heap.Ns X.env.locals m∧∀(i:Nat) (x:Str) (v:V),X.N[i]?=some x→σ[i]?=some (some v)→Vis X.env.scope x→∃u,bg v u∧Look X.env s.heap m x u
 cell:∀x c,X.env.cells.lookup x=some c→∃v,s.heap.IsCell c v
 free:H X.env.locals=none
 freeC:∀x c,X.env.cells.lookup x=some c→H c=none
 pin:∀p∈X.pn++pins,s.heap.get? p.1=some p.2∧H p.1=none∧p.1≠X.env.locals∧p.1∉X.fs∧∀v,p.2.data≠.cell v
 hok:HOk X.prog X.w H s.heap
 len:σ.length=X.N.length
section
variable {X:Cx} {pins:List (Addr×Obj)} {σ:List (Option V)} {H H':Hp} {s:Shared} {h':Heap}
theorem Cx.Ok.nofr(ok:X.Ok){b:Addr}{o:Obj}(e:X.base.get? b=some o):b∉X.fs:=λhb=>by
 have:=(ok.funs.mem hb).1;rw[e]at this;cases this
theorem Inv.bs(I:Inv X pins σ H s):∀b o,X.base.get? b=some o→s.heap.get? b=some o∧H b=none:=λb o e =>
 ⟨I.base.keep b o (I.ok.bs b o e).1 (I.ok.bs b o e).2 (I.ok.nofr e) (I.ok.noex b o e),I.base.free b o (I.ok.bs b o e).1 (I.ok.bs b o e).2 (I.ok.noex b o e)⟩
theorem Inv.bk(I:Inv X pins σ H s):∀b o,X.base.get? b=some o→s.heap.get? b=some o:=λb o e=>(I.bs b o e).1
theorem Inv.mod(I:Inv X pins σ H s):Mod X.K X.mg X.base:=I.ok.mod
theorem Inv.kIn(I:Inv X pins σ H s):X.K.In s.heap:=I.ok.mod.kin.keeps I.bk
theorem Inv.lt(I:Inv X pins σ H s):X.env.locals<s.heap.objs.size:=let ⟨_,hn,_⟩:=I.loc;hn.lt
theorem Inv.sz(I:Inv X pins σ H s):X.s_0.heap.objs.size≤s.heap.objs.size:=rq I.ok.above (Nat.le_of_lt I.lt)
theorem Inv.nofs(I:Inv X pins σ H s){a:Addr}(h:s.heap.objs.size≤a):a∉X.fs:=λhb=>by
 obtain⟨_,o,ho,_⟩:=I.ok.funs.mem hb;exact absurd (rh (rg ho) (rq I.sz h)) (rk _)
theorem Inv.cne(I:Inv X pins σ H s):∀x c,X.env.cells.lookup x=some c→c≠X.env.locals:=λx c e z=>by
 obtain⟨v,o,ho,hd⟩:=I.cell x c e;obtain⟨m,⟨o',es,ep,ho',hd',_⟩,_⟩:=I.loc;rw[z,ho']at ho;cases ho;rw[hd']at hd;cases hd
theorem Inv.funs(I:Inv X pins σ H s):s.heap.FunFrames X.base X.outer:=by
 have all:∀(l:List Env),(∀b∈frs l,b∈X.fs)→X.s_0.heap.FunFrames X.base l→s.heap.FunFrames X.base l:=by
  intro l;induction l with
  |nil=>intro _ _;trivial
  |cons env r ih =>
   intro hs hl;obtain⟨hk,⟨L,o,hf,hn,ho,hd⟩,hr⟩:=hl;have hL:L∈X.fs:=hs L (by unfold frs;rw[List.filterMap_cons,hf];exact rA);obtain⟨sl,e⟩:=I.base.slot L o ho (I.ok.frf L hL) hL λz=>I.ok.exfs L z hL;exact tS hk (tP L _ hf hn e hd) (ih (λb hb=>hs b (by unfold frs;rw[List.filterMap_cons,hf];exact rB _ hb)) hr)
 exact all X.outer (λ_ hb=>hb) I.ok.funs
theorem Inv.stack(I:Inv X pins σ H s):s.heap.FunFrames X.base X.stack:=by
 rcases I.ok.stk with e|⟨e,hf⟩
 ·rw[e];exact I.funs
 ·rw[e];obtain⟨m,hn,_⟩:=I.loc;refine .cons (by rw[I.ok.kind];decide) hf hn ?_ I.funs;exact Heap.get?_none_of_le (rq I.ok.bsz I.ok.above)
theorem Inv.stkSub(I:Inv X pins σ H s):∀b∈frs X.stack,b∈X.env.locals::X.fs:=λb hb=>by
 rcases I.ok.stk with e|⟨e,hf⟩
 ·rw[e]at hb;exact rB _ hb
 ·rw[e]at hb;unfold frs at hb;rw[List.filterMap_cons,hf]at hb;exact hb
theorem Inv.stkFree(I:Inv X pins σ H s):∀b∈frs X.stack,H b=none:=λb hb=>by
 rcases rC.mp (I.stkSub b hb) with e|hb
 ·rw[e];exact I.free
 ·obtain⟨_,o,ho,_⟩:=I.ok.funs.mem hb;exact I.base.free b o ho (I.ok.frf b hb) λz=>I.ok.exfs b z hb
theorem Inv.step{g':Array GenState}{t':Nat}{d':Drawn}{ch:List Addr}(I:Inv X pins σ H s)(hch:∀b∈ch,(b∈X.ex∨X.s_0.heap.objs.size≤b)∧b≠X.env.locals∧(∀x c,X.env.cells.lookup x=some c→c≠b)∧∀p∈X.pn++pins,p.1≠b)(keep:∀b o,b≠X.env.locals→b∉X.fs→b∉ch→s.heap.get? b=some o→H b=none→h'.get? b=some o)(slot:∀b o,b≠X.env.locals→b∈X.fs→b∉ch→s.heap.get? b=some o→H b=none→∃sl,h'.get? b=some {o with slots:=sl})(free:∀b o,b∉ch→s.heap.get? b=some o→H b=none→H' b=none)(there:∀b o,b∉ch→s.heap.get? b=some o→∃o',h'.get? b=some o')(tups:∀b xs,H b=some (.tup xs)→H' b=some (.tup xs))(frzs:∀b o u,H b=some (.frz o u)→H' b=some (.frz o u))(tbls:∀b ps,H b=some (.tbl ps)→∃more,H' b=some (.tbl (ps++more)))(ns:∀m,s.heap.Ns X.env.locals m→h'.Ns X.env.locals m)(hok:HOk X.prog X.w H' h')(hg:AllBare g'):Inv X pins σ H' {s with heap:=h',gens:=g',drawn:=d',toks:=t'}:=by
 have neL:∀b o,X.s_0.heap.get? b=some o→b≠X.env.locals:=λb o e=>rm (rh (rg e) I.ok.above);have neC:∀b o,X.s_0.heap.get? b=some o→b∉X.ex→b∉ch:=λb o e hx hb=>by
  rcases (hch b hb).1 with z|z
  ·exact hx z
  ·exact absurd (rh (rg e) z) (rk _)
 have cellK:∀x c,X.env.cells.lookup x=some c→∀v,s.heap.IsCell c v→h'.IsCell c v:=λx c e v ⟨o,ho,hd⟩=>by
  have nch:c∉ch:=λz=>(hch c z).2.2.1 x c e rfl;by_cases hc:c∈X.fs
  ·obtain⟨sl,q⟩:=slot c o (I.cne x c e) hc nch ho (I.freeC x c e);exact tF _ q hd
  ·exact tF o (keep c o (I.cne x c e) hc nch ho (I.freeC x c e)) hd
 refine⟨I.ok,I.os,hg,⟨λb o e n hb hx=>?_,λb o e n hb hx=>?_,λb o e n hx=>?_,λb o e hx=>?_,λb xs e=>tups b xs (I.base.tups b xs e),λb o xs e=>frzs b o xs (I.base.frzs b o xs e),λb ps e=>?_⟩,?_,λx c e=>?_,?_,λx c e=>?_,λp hp=>?_,hok,I.len⟩
 ·exact keep b o (neL b o e) hb (neC b o e hx) (I.base.keep b o e n hb hx) (I.base.free b o e n hx)
 ·obtain⟨sl,e1⟩:=I.base.slot b o e n hb hx;obtain⟨sl',e2⟩:=slot b _ (neL b o e) hb (neC b o e hx) e1 (I.base.free b o e n hx);exact⟨sl',e2⟩
 ·obtain⟨o',e1⟩:=I.base.there b o e hx;exact free b o' (neC b o e hx) e1 (I.base.free b o e n hx)
 ·obtain⟨o',e1⟩:=I.base.there b o e hx;exact there b o' (neC b o e hx) e1
 ·obtain⟨m1,e1⟩:=I.base.tbls b ps e;obtain⟨m2,e2⟩:=tbls b _ e1;exact⟨m1++m2,by rw[e2,Array.append_assoc]⟩
 ·obtain⟨m,hn,hl⟩:=I.loc;refine tF m (ns m hn) (λi x v e1 e2 e3=>?_);obtain⟨u,r,l⟩:=hl i x v e1 e2 e3;refine tF u r ?_;rcases l with l|⟨k,c,e,z⟩
  ·exact .inl l
  ·exact .inr (tX k c e (cellK x c e _ z))
 ·obtain⟨v,z⟩:=I.cell x c e;exact⟨v,cellK x c e v z⟩
 ·obtain⟨m,⟨o,_,_,ho,_⟩,_⟩:=I.loc;exact free _ o (λz=>(hch _ z).2.1 rfl) ho I.free
 ·obtain⟨v,o,ho,hd⟩:=I.cell x c e;exact free c o (λz=>(hch c z).2.2.1 x c e rfl) ho (I.freeC x c e)
 ·obtain⟨e,n,ne,nf,d⟩:=I.pin p hp;have nch:p.1∉ch:=λz=>(hch p.1 z).2.2.2 p hp rfl;exact uw (keep p.1 p.2 ne nf nch e n) (free p.1 p.2 nch e n) ne nf d
theorem Inv.un{t':Nat}(I:Inv X pins σ H s)(u:Un X.fs [] H H' s.heap h')(hok:HOk X.prog X.w H' h'):Inv X pins σ H' {s with heap:=h',toks:=t'}:=by
 obtain⟨m,⟨o,es,ep,ho,r⟩,_⟩:=id I.loc;obtain⟨sl,hL⟩:=u.any ho I.free (by simp);exact I.step (g':=s.gens) (d':=s.drawn) (ch:=[]) (λ_ z=>nomatch z) (λb o _ hb _ e n=>u.keep b o e n hb (by simp)) (λb o _ hb _ e n=>u.slot b o e n hb (by simp)) (λb o _ e n=>u.free b o e n (by simp)) (λb o _ e=>u.there b o e (by simp)) u.tups u.frzs u.tbls (λm' hm=>by
  obtain⟨o',es',ep',ho',r'⟩:=hm;rw[ho]at ho';cases ho';exact t6 _ es' ep' hL r') hok I.bare
theorem Inv.call{g':Array GenState}{t':Nat}{d':Drawn}{ch:List Addr}(I:Inv X pins σ H s)(u:Un (frs X.stack) ch H H' s.heap h')(hok:HOk X.prog X.w H' h')(hg:AllBare g')(hch:∀b∈ch,(b∈X.ex∨X.s_0.heap.objs.size≤b)∧b≠X.env.locals∧(∀x c,X.env.cells.lookup x=some c→c≠b)∧∀p∈X.pn++pins,p.1≠b):Inv X pins σ H' {s with heap:=h',gens:=g',drawn:=d',toks:=t'}:=by
 obtain⟨m,⟨o,es,ep,ho,r⟩,_⟩:=id I.loc;obtain⟨sl,hL⟩:=u.any ho I.free λz=>(hch _ z).2.1 rfl;exact I.step (ch:=ch) hch (λb o hL hb hc e n=>u.keep b o e n (λz=>(rC.mp (I.stkSub b z)).elim hL hb) hc) (λb o _ _ hc e n=>u.any e n hc) (λb o hc e n=>u.free b o e n hc) (λb o hc e=>u.there b o e hc) u.tups u.frzs u.tbls (λm' hm=>by
  obtain⟨o',es',ep',ho',r'⟩:=hm;rw[ho]at ho';cases ho';exact t6 _ es' ep' hL r') hok hg
theorem Inv.turned{t':Nat}{it:Addr}(I:Inv X pins σ H s)(k:∀b o,b≠it→s.heap.get? b=some o→h'.get? b=some o)(hn:H it=none)(hL:it≠X.env.locals)(h1:it∈X.ex∨X.s_0.heap.objs.size≤it)(h2:∀x c,X.env.cells.lookup x=some c→c≠it)(h3:∀p∈X.pn++pins,p.1≠it):Inv X pins σ H {s with heap:=h',toks:=t'}:=by
 have nit:∀b u,H b=some u→b≠it:=λb u e z=>by rw[z,hn]at e;cases e
 refine I.step (g':=s.gens) (d':=s.drawn) (ch:=[it]) (λb hb=>?_) (λb o _ _ hc e _=>k b o (λz=>hc (by simp[z])) e) (λb o _ _ hc e _=>⟨o.slots,k b o (λz=>hc (by simp[z])) e⟩) (λ_ _ _ _ n=>n)
  (λb o hc e=>⟨o,k b o (λz=>hc (by simp[z])) e⟩) (λ_ _ e=>e) (λ_ _ _ e=>e) (λb ps e=>⟨#[],by rw[e];simp⟩) (λm hm=>?_) (λb u e=>?_) I.bare
 ·have e:b=it:=by simpa using hb
  subst e;exact ud h1 hL h2 h3
 ·obtain⟨o,es,ep,ho,r⟩:=hm;exact t6 o es ep (k _ o (Ne.symm hL) ho) r
 ·refine(I.hok b u e).stay (λc v hc q=>k c v ?_ q) (λ_ q=>q) λ_ _ q=>q;rcases hc with z|z
  ·rw[z];exact nit b u e
  ·exact nit c _ z
theorem Inv.tok(I:Inv X pins σ H s)(t:Nat):Inv X pins σ H {s with toks:=t}:=I.un (h':=s.heap) (t':=t) Un.refl I.hok
theorem Inv.kept{t':Nat}(I:Inv X pins σ H s)(k:∀b u,s.heap.get? b=some u→h'.get? b=some u):Inv X pins σ H {s with heap:=h',toks:=t'}:=I.un (Un.kept k) (I.hok.kept k)
theorem Inv.laid{a:Addr}{o:HO}{t':Nat}(I:Inv X pins σ H s)(k:∀b u,s.heap.get? b=some u→h'.get? b=some u)(hp:s.heap.objs.size≤a)(new:bI X.prog X.w (upd H a o) h' a o):Inv X pins σ (upd H a o) {s with heap:=h',toks:=t'}:=I.un (Un.laid k hp (I.hok.fresh hp)) (I.hok.laid k hp new)
theorem Inv.write{x e:Addr}{o:HO}{t':Nat}(I:Inv X pins σ H s)(mu:Mut (H x))(he:e=x∨H e=some (.own x))(k:∀b u,b≠e→s.heap.get? b=some u→h'.get? b=some u)(heo:∃u,h'.get? e=some u)(new:bI X.prog X.w (upd H x o) h' x o):Inv X pins σ (upd H x o) {s with heap:=h',toks:=t'}:=I.un (Un.write mu he k heo) (I.hok.write mu he k heo new)
theorem Inv.weak{σ':List (Option V)}(I:Inv X pins σ H s)(hl:σ'.length=σ.length)(w:∀(i:Nat) v,σ'[i]?=some (some v)→σ[i]?=some (some v)):Inv X pins σ' H s :=
 ⟨I.ok,I.os,I.bare,I.base,let ⟨m,hn,hl'⟩:=I.loc;⟨m,hn,λi x v e1 e2 e3=>hl' i x v e1 (w i v e2) e3⟩,I.cell,I.free,I.freeC,I.pin,I.hok,hl.trans I.len⟩
theorem Inv.pins_of{pins':List (Addr×Obj)}(I:Inv X pins σ H s)(h:∀p∈pins',s.heap.get? p.1=some p.2∧H p.1=none∧p.1≠X.env.locals∧p.1∉X.fs∧∀v,p.2.data≠.cell v):Inv X pins' σ H s :=
 ⟨I.ok,I.os,I.bare,I.base,I.loc,I.cell,I.free,I.freeC,λp hp=>(rD.mp hp).elim (λz=>I.pin p (List.mem_append_left _ z)) (h p),I.hok,I.len⟩
theorem k9{N:List Str}(hN:N.Nodup){i j:Nat}{x:Str}(a:N[i]?=some x)(b:N[j]?=some x):i=j:=by
 obtain⟨h1,e1⟩:=rE.mp a;obtain⟨h2,e2⟩:=rE.mp b;exact(List.getElem_inj hN).mp (e1.trans e2.symm)
theorem mf{M:Model}{A:Around}{E:Value→Shared→Prop}{i:Nat}{x:Str}{v:V}{u:Value}{Q:Unit→Shared→Prop}(I:Inv X pins σ H s)(hN:X.N.Nodup)(hi:X.N[i]?=some x)(hx:Loc X.env.scope x)(r:bg v u)(h:∀s',Inv X pins (σ.set i (some v)) H s'→(∃a,Heap.SameBut a s.heap s'.heap∧(a=X.env.locals∨X.env.cells.lookup x=some a))→Q () s')(hf:X.fn x=true∨X.env.scope.names.lookup x=some .local:=by first|exact .inl rfl|exact .inr rfl|assumption):wpAny M A (storeName X.env x u) Q E s:=by
 obtain⟨m,hn,hl⟩:=id I.loc;have hcls:(X.env.scope.kind==.class||(X.env.scope.kind==.module&&X.env.locals != X.env.globals))=false:=by rw[I.ok.kind];rfl
 have hiσ:i<σ.length:=by rw[I.len];exact(rE.mp hi).1
 have cne:=I.cne;have tracked:∀{a:Addr} {h':Heap},(∃o,s.heap.get? a=some o∧H a=none)→Heap.SameBut a s.heap h'→HOk X.prog X.w H h':=λ{a h'} ha hs b ob e=>by
  obtain⟨_,_,hfree⟩:=ha;refine(I.hok b ob e).stay (λc w' hc q=>(hs.2 c ?_).trans q) (λ_ q=>q) λ_ _ q=>q;rintro rfl;rcases hc with rfl|hc
  ·rw[hfree]at e;cases e
  ·rw[hfree]at hc;cases hc
 rcases hx with hk|hk
 ·refine wpAny_storeName_local hk hn (λh' hn' hs=>?_) hcls;obtain⟨oL,_,_,hoL,_⟩:=id hn;refine h _ ⟨I.ok,I.os,I.bare,⟨λb o e n hb hx=>?_,λb o e n hb hx=>?_,I.base.free,λb o e hx=>?_,I.base.tups,I.base.frzs,I.base.tbls⟩,(tF _ hn' (λj y v' e1 e2 e3=>?_)),λy c e=>?_,I.free,I.freeC,λp hp=>?_,tracked (tF oL hoL I.free) hs,by simpa using I.len⟩ (tF _ hs (.inl rfl))
  ·exact(hs.2 b (rm (rh (rg e) I.ok.above))).trans (I.base.keep b o e n hb hx)
  ·obtain⟨sl,e1⟩:=I.base.slot b o e n hb hx;exact⟨sl,(hs.2 b (rm (rh (rg e) I.ok.above))).trans e1⟩
  ·obtain⟨o',e1⟩:=I.base.there b o e hx;exact⟨o',(hs.2 b (rm (rh (rg e) I.ok.above))).trans e1⟩
  ·by_cases hj:j=i
   ·subst hj;rw[hi]at e1;cases e1;rw[List.getElem?_set_self hiσ]at e2;cases e2;exact tF u r (.inl ⟨hk,by simp⟩)
   ·rw[List.getElem?_set_ne (Ne.symm hj)]at e2;obtain⟨u',r',q⟩:=hl j y v' e1 e2 e3;refine tF u' r' ?_;rcases q with⟨k,e⟩|⟨k,c,e,z⟩
    ·refine .inl ⟨k,?_⟩;have:y≠x:=λe=>hj (k9 hN e1 (e ▸ hi));simp[this,e]
    ·exact .inr (tX k c e (z.sameBut hs (cne y c e)))
  ·obtain⟨w',z⟩:=I.cell y c e;exact⟨w',z.sameBut hs (cne y c e)⟩
  ·obtain⟨e,n,ne,nf,d⟩:=I.pin p hp;exact uw ((hs.2 p.1 ne).trans e) n ne nf d
 ·have hfn:X.fn x=true:=by
   rcases hf with z|z
   ·exact z
   ·rw[z]at hk;cases hk
  obtain⟨c,hc⟩:=I.ok.has x (.inl hk);obtain⟨w',z⟩:=I.cell x c hc;refine wpAny_storeName_cell I.ok.kind hk hc z (λh' hc' hs=>?_);obtain⟨oc,hoc,hocd⟩:=id z;refine h {s with heap:=h'} ⟨I.ok,I.os,I.bare,⟨λb o e n hb hx=>?_,λb o e n hb hx=>?_,I.base.free,λb o e hx=>?_,I.base.tups,I.base.frzs,I.base.tbls⟩,(tF m (hn.sameBut hs (Ne.symm (cne x c hc))) (λj y v' e1 e2 e3=>?_)),λy c' e=>?_,I.free,I.freeC,λp hp=>?_,tracked (tF oc hoc (I.freeC x c hc)) hs,by simpa using I.len⟩ (tF c hs (.inr hc))
  ·exact(hs.2 b (rm (rh (rg e) (I.ok.cab x c hfn hc)))).trans (I.base.keep b o e n hb hx)
  ·obtain⟨sl,e1⟩:=I.base.slot b o e n hb hx;exact⟨sl,(hs.2 b (rm (rh (rg e) (I.ok.cab x c hfn hc)))).trans e1⟩
  ·obtain⟨o',e1⟩:=I.base.there b o e hx;exact⟨o',(hs.2 b (rm (rh (rg e) (I.ok.cab x c hfn hc)))).trans e1⟩
  ·by_cases hj:j=i
   ·subst hj;rw[hi]at e1;cases e1;rw[List.getElem?_set_self hiσ]at e2;cases e2;exact tF u r (.inr (tX (.inl hk) c hc hc'))
   ·rw[List.getElem?_set_ne (Ne.symm hj)]at e2;obtain⟨u',r',q⟩:=hl j y v' e1 e2 e3;refine tF u' r' ?_;rcases q with q|⟨k,c',e,z'⟩
    ·exact .inl q
    ·refine .inr (tX k c' e (z'.sameBut hs ?_));rintro rfl;exact hj (k9 hN e1 (I.ok.inj _ _ _ e hc ▸ hi))
  ·by_cases hcc:c'=c
   ·subst hcc;exact⟨_,hc'⟩
   ·obtain⟨w2,z2⟩:=I.cell y c' e;exact⟨w2,z2.sameBut hs hcc⟩
  ·obtain⟨e,n,ne,nf,d⟩:=I.pin p hp;refine uw ((hs.2 p.1 ?_).trans e) n ne nf d;intro q;rw[q,hoc]at e;have q':oc=p.2:=Option.some.inj e;exact d w' (by rw[←q'];exact hocd)
theorem iX{M:Model}{A:Around}{E:Value→Shared→Prop}{i:Nat}{x:Str}{v:V}{u:Value}{Q:Unit→Shared→Prop}(I:Inv X pins σ H s)(hN:X.N.Nodup)(hi:X.N[i]?=some x)(hx:Loc X.env.scope x)(r:bg v u)(h:∀s',Inv X pins (σ.set i (some v)) H s'→Q () s')(hf:X.fn x=true∨X.env.scope.names.lookup x=some .local:=by first|exact .inl rfl|exact .inr rfl|assumption):wpAny M A (storeName X.env x u) Q E s :=
 mf I hN hi hx r (λs' I' _=>h s' I') hf
theorem Inv.call'{s':Shared}{ch:List Addr}(I:Inv X pins σ H s)(ho:s'.os=s.os)(u:Un (frs X.stack) ch H H' s.heap s'.heap)(hok:HOk X.prog X.w H' s'.heap)(hg:AllBare s'.gens)(hch:∀b∈ch,(b∈X.ex∨X.s_0.heap.objs.size≤b)∧b≠X.env.locals∧(∀x c,X.env.cells.lookup x=some c→c≠b)∧∀p∈X.pn++pins,p.1≠b):Inv X pins σ H' s':=by
 obtain⟨h',g',d',t',o'⟩:=s';have e:o'=s.os:=ho;subst e;exact I.call (g':=g') (t':=t') (d':=d') u hok hg hch
end
abbrev XK:=Value→Option Addr→Hp→Prop
abbrev St:=List (Option V)
abbrev VK:=V→Hp→Prop
abbrev TE:=St→Hp→VK→Prop
abbrev TT:=St→Hp→(Bool→Hp→Prop)→Prop
abbrev TA:=St→Hp→(List V→Hp→Prop)→Prop
structure hG where
 nx:St→Hp→Prop
 rt:VK
 bk:St→Hp→Prop:=λ_ _=>False
 ct:St→Hp→Prop:=λ_ _=>False
abbrev TS:=hG→St→Hp→Prop
def EP(X:Cx)(pins:List (Addr×Obj))(σ:St)(Q:VK)(u:Value)(s':Shared):Prop:=∃v H',Inv X pins σ H' s'∧bg v u∧Q v H'
def TP(X:Cx)(pins:List (Addr×Obj))(σ:St)(Q:Bool→Hp→Prop)(b:Bool)(s':Shared):Prop:=∃H',Inv X pins σ H' s'∧Q b H'
def AP(X:Cx)(pins:List (Addr×Obj))(σ:St)(Q:List V→Hp→Prop)(us:List Value)(s':Shared):Prop:=∃vs H',Inv X pins σ H' s'∧aW vs us∧Q vs H'
def SP(X:Cx)(pins:List (Addr×Obj))(D:hG)(f:Flow)(s':Shared):Prop :=
 match f with
 |.next=>∃σ' H',Inv X pins σ' H' s'∧D.nx σ' H'
 |.brk=>∃σ' H',Inv X pins σ' H' s'∧D.bk σ' H'
 |.cont=>∃σ' H',Inv X pins σ' H' s'∧D.ct σ' H'
 |.ret u=>∃v σ' H',Inv X pins σ' H' s'∧bg v u∧D.rt v H'
def PE(X:Cx)(e:Expr)(t:TE):Prop :=
 ∀(pins:List (Addr×Obj)) (s:Shared) (σ:St) (H:Hp) (Q:VK),Inv X pins σ H s→t σ H Q→wpAny (model X.prog X.w) X.A (eval e X.env) (EP X pins σ Q) X.xe s
def PT(X:Cx)(e:Expr)(t:TT):Prop :=
 ∀(pins:List (Addr×Obj)) (s:Shared) (σ:St) (H:Hp) (Q:Bool→Hp→Prop),Inv X pins σ H s→t σ H Q→wpAny (model X.prog X.w) X.A (isTrue e X.env (eval e X.env)) (TP X pins σ Q) X.xe s
def PW(X:Cx)(e:Expr)(t:TT):Prop :=
 ∀(whole:Sem Value) (pins:List (Addr×Obj)) (s:Shared) (σ:St) (H:Hp) (Q:Bool→Hp→Prop),Inv X pins σ H s→t σ H Q→wpAny (model X.prog X.w) X.A (isTrue e X.env whole) (TP X pins σ Q) X.xe s
theorem PW.pt{X:Cx}{e:Expr}{t:TT}(h:PW X e t):PT X e t:=h _
def PA(X:Cx)(es:List Expr)(t:TA):Prop :=
 ∀(pos:Pos) (pins:List (Addr×Obj)) (s:Shared) (σ:St) (H:Hp) (Q:List V→Hp→Prop),Inv X pins σ H s→t σ H Q→wpAny (model X.prog X.w) X.A (spliced (backTo pos (starEach es X.env))) (AP X pins σ Q) X.xe s
def PS(X:Cx)(st:Stmt)(t:TS):Prop :=
 ∀(pins:List (Addr×Obj)) (s:Shared) (σ:St) (H:Hp) (D:hG),Inv X pins σ H s→t D σ H→wpAny (model X.prog X.w) X.A (exec st X.env) (SP X pins D) X.xe s
def PSs(X:Cx)(st:List Stmt)(t:TS):Prop :=
 ∀(pins:List (Addr×Obj)) (s:Shared) (σ:St) (H:Hp) (D:hG),Inv X pins σ H s→t D σ H→wpAny (model X.prog X.w) X.A (execs st X.env) (SP X pins D) X.xe s
theorem thn{α:Type}{t:Sem α}{Q Q':α→Shared→Prop}{M:Model}{A:Around}{E:Value→Shared→Prop}{s:Shared}(h:wpAny M A t Q E s)(hQ:∀a s,Q a s→Q' a s):wpAny M A t Q' E s:=wpAny_mono h hQ λ_ _ x=>x
end L2
namespace L2
open PySem PySem.Spec PyProof.Rows
section
variable {X:Cx}
def dc(i:Nat):TE:=λσ H Q=>∃v,σ[i]?=some (some v)∧Q v H
def tC(v:V):TE:=λ_ H Q=>Q v H
theorem pe_var{i:Nat}{x:Str}{pos:Pos}(hN:X.N[i]?=some x)(hv:Vis X.env.scope x)(hd:(x==("__debug__" : Str))=false:=by decide)(hcd:(x==("__classdict__" : Str))=false:=by decide):PE X (.Name x pos) (dc i):=by
 intro pins s σ H Q I h;obtain⟨v,e,h⟩:=h;obtain⟨m,hn,hl⟩:=I.loc;obtain⟨u,r,l⟩:=hl i x v hN e hv;have fin:EP X pins σ Q u s:=tH v H I r h
 rcases l with⟨hk,hm⟩|⟨hk,c,hc,hcell⟩
 ·exact wpAny_Name (wpAny_loadName_local I.ok.kind hk hn hm fin) hd
 ·rcases hk with hk|hk
  ·exact wpAny_Name (wpAny_loadName_cell I.ok.kind hk hc hcell fin) hd
  ·exact wpAny_Name (wpAny_loadName_free I.ok.kind hk hc hcell fin hcd) hd
theorem al{i j pos}:PE X (.Constant (.int i) j pos) (tC (.int i)):=λ_ _ _ H _ I h=>wpAny_Constant_int (tH (.int i) H (I.tok _) ⟨_,rfl⟩ h)
theorem cF{x j pos}:PE X (.Constant (.str x) j pos) (tC (.str x)):=λ_ _ _ H _ I h=>Calls.Constant_str (tH (.str x) H (I.tok _) ⟨_,rfl⟩ h)
def Gl(X:Cx)(x:Str):Prop:=X.env.kindOf x=some .globalImplicit
theorem ko{E:Value→Shared→Prop}{pins:List (Addr×Obj)}{s:Shared}{σ:St}{H:Hp}{x:Str}{u:Value}{pos:Pos}{Q:Value→Shared→Prop}(I:Inv X pins σ H s)(hg:Gl X x)(hm:X.mg x=some u)(h:Q u s)(hd:(x==("__debug__" : Str))=false:=by decide):wpAny (model X.prog X.w) X.A (eval (.Name x pos) X.env) Q E s :=
 Calls.Name_function_global I.ok.kind hg (Calls.loadGlobal_global (by rw[I.ok.glob];exact I.mod.glob.keeps I.bk) hm h) hd
theorem eD{E:Value→Shared→Prop}{pins:List (Addr×Obj)}{s:Shared}{σ:St}{H:Hp}{x:Str}{u:Value}{pos:Pos}{Q:Value→Shared→Prop}(I:Inv X pins σ H s)(hg:Gl X x)(hm:X.mg x=none)(hv:bootBuiltins x=some u)(h:Q u s)(hn:x≠"__name__":=by decide)(hd:(x==("__debug__" : Str))=false:=by decide):wpAny (model X.prog X.w) X.A (eval (.Name x pos) X.env) Q E s:=by
 obtain⟨mb,h1,h2⟩:=I.mod.blt;exact Calls.Name_function_global I.ok.kind hg (Calls.loadGlobal_builtin (by rw[I.ok.glob];exact I.mod.glob.keeps I.bk) hm (by rw[I.ok.blt];exact h1.keeps I.bk) ((h2 x hn).trans hv) h) hd
theorem a8{x:Str}{v:V}{u:Value}{pos:Pos}(hg:Gl X x)(hm:X.mg x=some u)(r:bg v u)(hd:(x==("__debug__" : Str))=false:=by decide):PE X (.Name x pos) (tC v) :=
 λ_ _ _ H _ I h=>ko I hg hm (tH v H I r h) hd
variable {a b:Expr} {ta tb:TE} {pos:Pos}
def PC(X:Cx)(op:CmpOp)(a b:Expr)(t:TE):Prop :=
 ∀(pins:List (Addr×Obj)) (s:Shared) (σ:St) (H:Hp) (Q:VK),Inv X pins σ H s→t σ H Q →
  wpAny (model X.prog X.w) X.A (eval a X.env) (λv s₁=>wpAny (model X.prog X.w) X.A (eval b X.env) (λu s₂=>wpAny (model X.prog X.w) X.A (compareOp op v u) (EP X pins σ Q) X.xe s₂) X.xe s₁) X.xe s
def tB(t:TE):TT:=λσ H Q=>t σ H λx H1=>∃c,x=.bl c∧Q c H1
theorem pt_cmp{op:CmpOp}{t:TE}(h:PC X op a b t)(h1:behindInMarks op b=false:=by first|exact nobehind _ (by decide) (by decide)|rfl):PT X (.Compare a [op] [b] pos) (tB t):=by
 intro pins s σ H Q I hw;refine wpAny_isTrue_Compare1 (thn (h pins s σ H _ I hw) λv s1 h1=>thn h1 λu s2 h2=>thn h2 λc s3 ⟨x,H1,I1,r1,q1⟩=>?_) h1;obtain⟨d,rfl,q⟩:=q1;cases r1;exact wpAny_truthy_bool (tF H1 I1 q)
theorem di{e:Expr}{t:TE}(h:PE X e t)(he:∀whole,isTrue e X.env whole=(do let v ←whole;standAt e.pos;holding [v] (truthy v)):=by intro _;rfl):PT X e (tB t):=by
 intro pins s σ H Q I hw;refine isTrue_plain (thn (h pins s σ H _ I hw) λv s1 ⟨x,H1,I1,r1,q1⟩=>?_) (he _);obtain⟨d,rfl,q⟩:=q1;cases r1;exact wpAny_truthy_bool (tF H1 I1 q)
variable {tA tB':TT} {rest:List Expr}
def tAnd(t u:TT):TT:=λσ H Q=>t σ H λc H1=>if c=true then u σ H1 Q else Q false H1
def tOr(t u:TT):TT:=λσ H Q=>t σ H λc H1=>if c=true then Q true H1 else u σ H1 Q
def tNot(t:TT):TT:=λσ H Q=>t σ H λc H1=>Q (!c) H1
theorem pw_and1(ha:PT X a tA):PW X (.BoolOp .And [a] pos) tA:=by
 intro wh pins s σ H Q I h;refine isTrue_and (thn (ha pins s σ H Q I h) λc s1 e=>?_);cases c with
 |true=>exact isTrue_and_nil e
 |false=>exact e
theorem nH(ha:PT X a tA):PW X (.BoolOp .Or [a] pos) tA:=by
 intro wh pins s σ H Q I h;refine isTrue_or (thn (ha pins s σ H Q I h) λc s1 e=>?_);cases c with
 |false=>exact isTrue_or_nil e
 |true=>exact e
theorem pw_and(ha:PT X a tA)(hb:PW X (.BoolOp .And (b::rest) pos) tB'):PW X (.BoolOp .And (a::b::rest) pos) (tAnd tA tB'):=by
 intro wh pins s σ H Q I h;refine isTrue_and (thn (ha pins s σ H _ I h) λc s1 ⟨H1,I1,q1⟩=>?_);cases c with
 |true=>exact hb wh pins s1 σ H1 Q I1 q1
 |false=>exact tF H1 I1 q1
theorem pw_or(ha:PT X a tA)(hb:PW X (.BoolOp .Or (b::rest) pos) tB'):PW X (.BoolOp .Or (a::b::rest) pos) (tOr tA tB'):=by
 intro wh pins s σ H Q I h;refine isTrue_or (thn (ha pins s σ H _ I h) λc s1 ⟨H1,I1,q1⟩=>?_);cases c with
 |true=>exact tF H1 I1 q1
 |false=>exact hb wh pins s1 σ H1 Q I1 q1
theorem jw(ha:PT X a tA):PT X (.UnaryOp .Not a pos) (tNot tA):=by
 intro pins s σ H Q I h;exact isTrue_not (ha pins s σ H (λc H1=>Q (!c) H1) I h)
def tAndV(ta tb:TE):TE:=λσ H Q=>ta σ H λx H1=>∃c,x=.bl c∧if c=true then tb σ H1 Q else Q (.bl false) H1
def tOrV(ta tb:TE):TE:=λσ H Q=>ta σ H λx H1=>∃c,x=.bl c∧if c=true then Q (.bl true) H1 else tb σ H1 Q
def tNotV(ta:TE):TE:=λσ H Q=>ta σ H λx H1=>∃c,x=.bl c∧Q (.bl (!c)) H1
theorem nP{op}{t:TE}(h:PE X a t):PE X (.BoolOp op [a] pos) t:=λpins s σ H Q I hw=>BoolOp_one (h pins s σ H Q I hw)
theorem pe_and(ha:PE X a ta)(hb:PE X (.BoolOp .And (b::rest) pos) tb):PE X (.BoolOp .And (a::b::rest) pos) (tAndV ta tb):=by
 intro pins s σ H Q I h;refine BoolOp_and (thn (ha pins s σ H _ I h) λv s1 ⟨x,H1,I1,r1,q1⟩=>?_);obtain⟨c,rfl,q1⟩:=q1;cases r1;refine wpAny_truthy_bool ?_;cases c with
 |true=>exact hb pins s1 σ H1 Q I1 q1
 |false=>exact tH (.bl false) H1 I1 rfl q1
theorem pe_or(ha:PE X a ta)(hb:PE X (.BoolOp .Or (b::rest) pos) tb):PE X (.BoolOp .Or (a::b::rest) pos) (tOrV ta tb):=by
 intro pins s σ H Q I h;refine BoolOp_or (thn (ha pins s σ H _ I h) λv s1 ⟨x,H1,I1,r1,q1⟩=>?_);obtain⟨c,rfl,q1⟩:=q1;cases r1;refine wpAny_truthy_bool ?_;cases c with
 |false=>exact hb pins s1 σ H1 Q I1 q1
 |true=>exact tH (.bl true) H1 I1 rfl q1
theorem pe_not(ha:PE X a ta):PE X (.UnaryOp .Not a pos) (tNotV ta):=by
 intro pins s σ H Q I h;refine UnaryOp_ (thn (ha pins s σ H _ I h) λv s1 ⟨x,H1,I1,r1,q1⟩=>?_);obtain⟨c,rfl,q1⟩:=q1;cases r1;exact not_of (wpAny_truthy_bool (tH (.bl (!c)) H1 I1 rfl q1))
def tIf(t:TT)(ta tb:TE):TE:=λσ H Q=>t σ H λc H1=>if c=true then ta σ H1 Q else tb σ H1 Q
theorem pC{c:Expr}(hc:PT X c tA)(ha:PE X a ta)(hb:PE X b tb):PE X (.IfExp c a b pos) (tIf tA ta tb):=by
 intro pins s σ H Q I h;refine wpAny_IfExp (thn (hc pins s σ H _ I h) λd s1 ⟨H1,I1,q1⟩=>?_);cases d with
 |true=>exact ha pins s1 σ H1 Q I1 q1
 |false=>exact hb pins s1 σ H1 Q I1 q1
end
end L2
namespace L2
open PySem PySem.Spec PyProof.Rows
def SqL(K:fG)(H:Hp)(a:Addr)(xs:List V):Prop :=
 Rd H a (.lst xs) ∨
  ∃(o:Obj) (its:Array Value) (n:Nat),K.lookup a=some o∧o.cls=.type "list"∧o.dict=none∧o.data=.seq its n∧its.size≤sizeLine∧aW xs its.toList
def SqT(K:fG)(H:Hp)(a:Addr)(xs:List V):Prop :=
 Rd H a (.tup xs) ∨
  ∃(o:Obj) (its:Array Value) (n:Nat),K.lookup a=some o∧o.cls=.type "tuple"∧o.data=.seq its n∧its.size≤sizeLine∧aW xs its.toList
def absV:Value→Option V
 |.none=>some .non
 |.bool b=>some (.bl b)
 |.int i _=>some (.int i)
 |.str x _=>some (.str x)
 |.bytes b _=>some (.byt b)
 |.float b _=>some (.flt b)
 |.ref a=>some (.ref a)
 |.type n=>some (.ty n)
 |_=>none
theorem bg.abs{x:V}{u:Value}(r:bg x u):absV u=some x:=by
 cases x with
 |non=>cases r;rfl
 |bl _=>cases r;rfl
 |int _=>obtain⟨t,rfl⟩:=r;rfl
 |str _=>obtain⟨t,rfl⟩:=r;rfl
 |byt _=>obtain⟨t,rfl⟩:=r;rfl
 |flt _=>obtain⟨t,rfl⟩:=r;rfl
 |ref _=>cases r;rfl
 |ty _=>cases r;rfl
theorem bg.inj{x y:V}{u:Value}(r:bg x u)(q:bg y u):x=y:=Option.some.inj (r.abs.symm.trans q.abs)
theorem aW.inj:∀{xs ys:List V} {us:List Value},aW xs us→aW ys us→xs=ys
 |_,_,_,.nil,.nil=>rfl
 |_,_,_,.cons r t,.cons r' t'=>by rw[r.inj r',aW.inj t t']
section
variable {X:Cx} {pins:List (Addr×Obj)} {σ:St} {H:Hp} {s:Shared} {a:Addr} {xs ys:List V}
theorem SqL.of{K:fG}(h:H a=some (.lst xs)):SqL K H a xs:=.inl (.inl h)
theorem SqT.of{K:fG}(h:H a=some (.tup xs)):SqT K H a xs:=.inl (.inl h)
theorem Inv.list(I:Inv X pins σ H s)(h:SqL X.K H a xs):∃its:List Value,aW xs its∧PlainL s.heap a its.toArray∧xs.length≤sizeLine:=by
 rcases h with h|⟨o,its,n,hk,hc,hd,hs,hz,r⟩
 ·obtain⟨z,its,n,r,e⟩:=h.ok I.hok;exact tK its r (tP _ n e rfl rfl rfl) z
 ·refine tK its.toList r (tP o n (I.kIn a o hk) hc hd (by simpa using hs)) ?_;have e:=r.length;simp only[rF]at e;omega
theorem Inv.tuple(I:Inv X pins σ H s)(h:SqT X.K H a xs):∃its:List Value,aW xs its∧IsTup s.heap a its.toArray∧xs.length≤sizeLine:=by
 rcases h with h|⟨o,its,n,hk,hc,hs,hz,r⟩
 ·obtain⟨z,its,r,p⟩:=h.ok I.hok;exact tK its r p z
 ·refine tK its.toList r (ux o (I.kIn a o hk) hc n (by simpa using hs)) ?_;have e:=r.length;simp only[rF]at e;omega
theorem Inv.list_inj(I:Inv X pins σ H s)(h:SqL X.K H a xs)(h':SqL X.K H a ys):xs=ys:=by
 obtain⟨its,r,⟨o,n,e,_,_,d⟩,_⟩:=I.list h;obtain⟨its',r',⟨o',n',e',_,_,d'⟩,_⟩:=I.list h';rw[e]at e';cases e';rw[d]at d';injection d' with d1 _;have:its=its':=by simpa using congrArg Array.toList d1
 subst this;exact r.inj r'
theorem Inv.tuple_inj(I:Inv X pins σ H s)(h:SqT X.K H a xs)(h':SqT X.K H a ys):xs=ys:=by
 obtain⟨its,r,⟨o,e,_,n,d⟩,_⟩:=I.tuple h;obtain⟨its',r',⟨o',e',_,n',d'⟩,_⟩:=I.tuple h';rw[e]at e';cases e';rw[d]at d';injection d' with d1 _;have:its=its':=by simpa using congrArg Array.toList d1
 subst this;exact r.inj r'
end
abbrev Cx.wish(X:Cx)(E:Value→Shared→Prop):Cx:={X with xe:=E}
abbrev Cx.nox(X:Cx):Cx:=X.wish λ_ _=>False
theorem Cx.Ok.wish{X:Cx}(ok:X.Ok)(E:Value→Shared→Prop):(X.wish E).Ok :=
 ⟨ok.mod,ok.kind,ok.glob,ok.blt,ok.above,ok.inj,ok.has,ok.cab,ok.hd,ok.frames,ok.stk,ok.exf,ok.bs,ok.bsz,ok.noex,ok.exfs,ok.funs,ok.frf⟩
theorem Cx.Ok.unwish{X:Cx}{E:Value→Shared→Prop}(ok:(X.wish E).Ok):X.Ok :=
 ⟨ok.mod,ok.kind,ok.glob,ok.blt,ok.above,ok.inj,ok.has,ok.cab,ok.hd,ok.frames,ok.stk,ok.exf,ok.bs,ok.bsz,ok.noex,ok.exfs,ok.funs,ok.frf⟩
section
variable {X:Cx} {pins:List (Addr×Obj)} {σ:St} {H:Hp} {s:Shared} {E:Value→Shared→Prop}
theorem Inv.wish(I:Inv X pins σ H s)(E:Value→Shared→Prop):Inv (X.wish E) pins σ H s:=⟨I.ok.wish E,I.os,I.bare,I.base,I.loc,I.cell,I.free,I.freeC,I.pin,I.hok,I.len⟩
theorem Inv.unwish(I:Inv (X.wish E) pins σ H s):Inv X pins σ H s:=⟨I.ok.unwish,I.os,I.bare,I.base,I.loc,I.cell,I.free,I.freeC,I.pin,I.hok,I.len⟩
theorem SP.unwish{D:hG}{f:Flow}{s':Shared}(h:SP (X.wish E) pins D f s'):SP X pins D f s':=by
 cases f with
 |next=>obtain⟨σ',H',I,q⟩:=h;exact tO σ' H' I.unwish q
 |brk=>obtain⟨σ',H',I,q⟩:=h;exact tO σ' H' I.unwish q
 |cont=>obtain⟨σ',H',I,q⟩:=h;exact tO σ' H' I.unwish q
 |ret u=>obtain⟨v,σ',H',I,r,q⟩:=h;exact tM v σ' H' I.unwish r q
theorem PSs.nox{st:List Stmt}{t:TS}(h:PSs X.nox st t):PSs X st t:=λpins s σ H D I hw =>
 wpAny_mono (h pins s σ H D (I.wish _) hw) (λ_ _ q=>q.unwish) λ_ _ z=>False.elim z
end
section
variable {X:Cx} {st:Stmt} {rest:List Stmt} {t u:TS} {e:Expr} {te:TE} {pos:Pos}
def tNext:TS:=λD σ H=>D.nx σ H
def tSeq(t u:TS):TS:=λD σ H=>t {D with nx:=u D} σ H
theorem aI:PSs X [] tNext:=λ_ _ σ H _ I h=>wpAny_execs_nil (tO σ H I h)
theorem ad(h1:PS X st t)(h2:PSs X rest u):PSs X (st::rest) (tSeq t u):=by
 intro pins s σ H D I h;refine wpAny_execs_cons (thn (h1 pins s σ H {D with nx:=u D} I h) λf s1 q=>?_);cases f with
 |next =>
  obtain⟨σ',H',I',q⟩:=q;exact h2 pins s1 σ' H' D I' q
 |ret v=>exact q
 |brk=>exact q
 |cont=>exact q
theorem ah(h1:PS X st t):PSs X [st] t:=by
 intro pins s σ H D I h;refine wpAny_execs_cons (thn (h1 pins s σ H D I h) λf s1 q=>?_);cases f with
 |next=>exact wpAny_execs_nil q
 |ret v=>exact q
 |brk=>exact q
 |cont=>exact q
theorem Inv.quiet{pins:List (Addr×Obj)}{σ:St}{H:Hp}{s:Shared}(I:Inv X pins σ H s):interactive X.env=false:=by simp[interactive,I.ok.kind]
def tDrop(te:TE):TS:=λD σ H=>te σ H λ_ H1=>D.nx σ H1
theorem bU(he:PE X e te)(hs:swapsWith e none pos.line X.env=pure false:=by rfl):PS X (.Expr e pos) (tDrop te):=by
 intro pins s σ H D I h;exact wpAny_Expr_any (thn (he pins s σ H _ I h) λv s1 ⟨x,H1,I1,r1,q1⟩=>tO σ H1 I1 q1) I.quiet hs
def tRet(te:TE):TS:=λD σ H=>te σ H D.rt
theorem aj(he:PE X e te):PS X (.Return (some e) pos) (tRet te):=by
 intro pins s σ H D I h;exact wpAny_Return_some (thn (he pins s σ H _ I h) λv s1 ⟨x,H1,I1,r1,q1⟩=>tM x σ H1 I1 r1 q1)
def tIfS(c:TT)(t u:TS):TS:=λD σ H=>c σ H λb H1=>if b=true then t D σ H1 else u D σ H1
theorem bh{c:Expr}{a b:List Stmt}{tc:TT}(hc:PT X c tc)(ha:PSs X a t)(hb:PSs X b u):PS X (.If c a b pos) (tIfS tc t u):=by
 intro pins s σ H D I h;refine wpAny_If (thn (hc pins s σ H _ I h) λd s1 ⟨H1,I1,q1⟩=>?_);cases d with
 |true=>exact ha pins s1 σ H1 D I1 q1
 |false=>exact hb pins s1 σ H1 D I1 q1
end
abbrev TG:=V→St→Hp→(St→Hp→Prop)→Prop
abbrev TGs:=List V→St→Hp→(St→Hp→Prop)→Prop
def PG(X:Cx)(target:Expr)(t:TG):Prop :=
 ∀(pins:List (Addr×Obj)) (s:Shared) (σ:St) (H:Hp) (v:V) (u:Value) (Q:St→Hp→Prop),Inv X pins σ H s→bg v u→t v σ H Q →
  wpAny (model X.prog X.w) X.A (assign target X.env u) (λ_ s'=>∃σ' H',Inv X pins σ' H' s'∧Q σ' H') X.xe s
def PGs(X:Cx)(ts:List Expr)(t:TGs):Prop :=
 ∀(pins:List (Addr×Obj)) (s:Shared) (σ:St) (H:Hp) (vs:List V) (us:List Value) (Q:St→Hp→Prop),Inv X pins σ H s→aW vs us→t vs σ H Q →
  wpAny (model X.prog X.w) X.A (assignInOrder ((assignEach ts X.env).map (·.2)) us) (λ_ s'=>∃σ' H',Inv X pins σ' H' s'∧Q σ' H') X.xe s
abbrev TSet:=V→V→V→Hp→(Hp→Prop)→Prop
def PSet(X:Cx)(t:TSet):Prop :=
 ∀(pins:List (Addr×Obj)) (s:Shared) (σ:St) (H:Hp) (o i v:V) (ov iv u:Value) (Q:Hp→Prop),Inv X pins σ H s→bg o ov→bg i iv→bg v u→t o i v H Q →
  wpAny (model X.prog X.w) X.A (setItem ov iv u) (λ_ s'=>∃H',Inv X pins σ H' s'∧Q H') X.xe s
section
variable {X:Cx} {pos:Pos}
def dq(i:Nat):TG:=λv σ H Q=>Q (σ.set i (some v)) H
theorem aw{i:Nat}{x:Str}(hN:X.N.Nodup)(hi:X.N[i]?=some x)(hx:Loc X.env.scope x)(hf:X.fn x=true∨X.env.scope.names.lookup x=some .local:=by first|exact .inl rfl|exact .inr rfl|assumption):PG X (.Name x pos) (dq i):=by
 intro pins s σ H v u Q I r h;exact wpAny_assign_Name (iX I hN hi hx r (λs' I'=>tO _ H I' h) hf)
def gNil:TGs:=λvs σ H Q=>vs=[]∧Q σ H
def fq(t:TG)(u:TGs):TGs:=λvs σ H Q=>∃v r,vs=v::r∧t v σ H λσ' H'=>u r σ' H' Q
theorem cM:PGs X [] gNil:=by
 intro pins s σ H vs us Q I r h;obtain⟨e,h⟩:=h;subst e;cases r;exact assignInOrder_nil (tO σ H I h)
theorem aS{e:Expr}{es:List Expr}{t:TG}{u:TGs}(h1:PG X e t)(h2:PGs X es u)(hs:(assignEach (e::es) X.env).map (·.2)=assign e X.env::(assignEach es X.env).map (·.2):=by rfl):PGs X (e::es) (fq t u):=by
 intro pins s σ H vs us Q I r h;obtain⟨v,vr,e1,h⟩:=h;subst e1;cases r with
 |cons r rr =>
  rw[hs];refine assignInOrder_cons (thn (h1 pins s σ H _ _ _ I r h) λ_ s1 ⟨σ1,H1,I1,q1⟩=>?_);exact h2 pins s1 σ1 H1 _ _ Q I1 rr q1
def gTup(K:fG)(n:Nat)(t:TGs):TG:=λv σ H Q=>∃a xs,v=.ref a∧SqT K H a xs∧xs.length=n∧t xs σ H Q
theorem dD{es:List Expr}{k:Nat}{t:TGs}{n:Nat}(hc:X.calm=true)(h:PGs X es t)(hn:(assignEach es X.env).length=n:=by rfl)(hst:(assignEach es X.env).findIdx? (·.1)=none:=by rfl):PG X (.Tuple es k pos) (gTup X.K n t):=by
 intro pins s σ H v u Q I r hw;obtain⟨a,xs,e1,hq,hl,hw⟩:=hw;subst e1;cases r;obtain⟨its,rv,ht,hz⟩:=I.tuple hq;refine assign_Tuple_tuple (I.ok.hd hc) ht (by simp[hn,←hl,rv.length]) hst λh' hx=>?_;have I1:Inv X pins σ H {s with heap:=h'}:=I.kept (t':=s.toks) λb o e=>hx b o (rm (rg e)) e;exact h pins _ σ H xs _ Q I1 (by simpa using rv) hw
def gSub(to ti:TE)(t:TSet):TG:=λv σ H Q=>to σ H λo H1=>ti σ H1 λi H2=>t o i v H2 λH3=>Q σ H3
theorem iy{o i:Expr}{to ti:TE}{t:TSet}(ho:PE X o to)(hi:PE X i ti)(hs:PSet X t)(ha:∀v,assign (.Subscript o i pos) X.env v=(do
   let ov ←holding [v] (eval o X.env);let iv ←holding [v,ov] (eval i X.env)
   standAt pos
   holding [v,ov,iv] (setItem ov iv v)
   release [v,ov,iv] []):=by intro _;rfl):PG X (.Subscript o i pos) (gSub to ti t):=by
 intro pins s σ H v u Q I r h;rw[ha];refine wpAny_bind (wpAny_holding (thn (ho pins s σ H _ I h) λov s1 ⟨x,H1,I1,r1,q1⟩=>?_));refine wpAny_bind (wpAny_holding (thn (hi pins s1 σ H1 _ I1 q1) λiv s2 ⟨y,H2,I2,r2,q2⟩=>?_));refine wpAny_bind (wpAny_standAt (wpAny_bind (wpAny_holding (thn (hs pins s2 σ H2 x y v ov iv u _ I2 r1 r2 r q2) λ_ s3 ⟨H3,I3,q3⟩=>?_))));exact wpAny_release (tO σ H3 I3 q3)
def tAsg(te:TE)(g:TG):TS:=λD σ H=>te σ H λx H1=>g x σ H1 D.nx
theorem iw{tg e:Expr}{te:TE}{g:TG}(he:PE X e te)(hg:PG X tg g)(hs:swapsWithSole [tg] e pos.line X.env=pure false:=by rfl)(hw:swappedStores [tg] e X.env=pure none:=by rfl)(h1:(assignEach [tg] X.env).map (·.2)=[assign tg X.env]:=by rfl):PS X (.Assign [tg] e pos) (tAsg te g):=by
 intro pins s σ H D I h;refine wpAny_Assign_stores (thn (he pins s σ H _ I h) λv s1 ⟨x,H1,I1,r1,q1⟩=>?_) hs hw;rw[h1];exact thn (hg pins s1 σ H1 x v _ I1 r1 q1) λ_ s2 q=>q
theorem aC{i:Nat}{x:Str}{e:Expr}{te:TE}{pos':Pos}(hN:X.N.Nodup)(hi:X.N[i]?=some x)(hx:Loc X.env.scope x)(he:PE X e te)(hs:swapsWith e (some (.Name x pos')) pos.line X.env=pure false:=by rfl)(hf:X.fn x=true∨X.env.scope.names.lookup x=some .local:=by first|exact .inl rfl|exact .inr rfl|assumption):PS X (.Assign [.Name x pos'] e pos) (tAsg te (dq i)):=by
 intro pins s σ H D I h;refine wpAny_Assign_Name (thn (he pins s σ H _ I h) λv s1 ⟨y,H1,I1,r1,q1⟩=>?_) hs;exact iX I1 hN hi hx r1 (λs2 I2=>tO _ H1 I2 q1) hf
end
section
variable {X:Cx} {pos:Pos}
def tWhile(c:TT)(tb:TS):TS:=λD σ H=>∃W:Nat→St→Hp→Prop,(∃m,W m σ H)∧∀m σ H,W m σ H →
 c σ H λb H1=>if b=true then ∃N:St→Hp→Prop,(∀σ' H',N σ' H'→∃m',m'<m∧W m' σ' H')∧tb {D with nx:=N,ct:=N,bk:=D.nx} σ H1 else D.nx σ H1
theorem pq{c:Expr}{body:List Stmt}{tc:TT}{tb:TS}(hp:PassesOwn (model X.prog X.w) X.A X.env X.xe)(hc:PT X c tc)(hb:PSs X body tb):PS X (.While c body [] pos) (tWhile tc tb):=by
 intro pins s σ H D I h;obtain⟨W,⟨m0,w0⟩,turn⟩:=h;refine wpAny_While (codeAny_whileLoop (λn s'=>∃σ' H',Inv X pins σ' H' s'∧W n σ' H') ?_ m0 (tO σ H I w0));rintro n s1 ⟨σ1,H1,I1,w1⟩;refine wpAny_passesOwn hp (thn (hc pins s1 σ1 H1 _ I1 (turn n σ1 H1 w1)) λb s2 ⟨H2,I2,q2⟩=>?_);cases b with
 |true =>
  obtain⟨N,hN,q2⟩:=q2;rw[if_pos rfl];refine wpAny_passesOwn hp (thn (hb pins s2 σ1 H2 _ I2 q2) λf s3 q3=>?_);cases f with
  |next =>
   obtain⟨σ3,H3,I3,n3⟩:=q3;obtain⟨m',hm,w3⟩:=hN σ3 H3 n3;exact uo m' hm σ3 H3 I3 w3
  |cont =>
   obtain⟨σ3,H3,I3,n3⟩:=q3;obtain⟨m',hm,w3⟩:=hN σ3 H3 n3;exact uo m' hm σ3 H3 I3 w3
  |brk=>exact q3
  |ret v=>exact q3
 |false =>
  rw[if_neg rG];exact wpAny_execs_nil (tO σ1 H2 I2 q2)
end
structure It where
 go:Nat→Hp→Prop
 yld:Nat→Hp→V→Hp→Prop
 stop:Nat→Hp→Prop
def kg(X:Cx)(pins:List (Addr×Obj))(H:Hp)(b:Addr):Prop :=
 H b=none∧b≠X.env.locals∧b∉X.fs∧(b∈X.ex∨X.s_0.heap.objs.size≤b)∧(∀x c,X.env.cells.lookup x=some c→c≠b)∧∀p∈X.pn++pins,p.1≠b
theorem Inv.fpOk{X:Cx}{pins:List (Addr×Obj)}{σ:St}{H H':Hp}{s:Shared}{b:Addr}(I:Inv X pins σ H s)(hb:s.heap.objs.size≤b)(hn:H' b=none):kg X pins H' b:=by
 refine um hn (rH (rh I.lt hb)) (I.nofs hb) (.inr (rq I.sz hb)) (λx c e z=>?_) (λp hp z=>?_)
 ·obtain⟨v,q⟩:=I.cell x c e;exact absurd (rh q.lt (by rw[z];exact hb)) (rk _)
 ·exact absurd (rh (rg (I.pin p hp).1) (by rw[z];exact hb)) (rk _)
structure Turn(P:Program)(w:World)(K:fG)(tg:Expr)(J:It)(fp:List Addr)(it:Addr)(tn:Nat→Heap→Prop):Prop where
 mem:it∈fp
 obj:∀i h,tn i h→∀b∈fp,∃o,h.get? b=some o∧∀v,o.data≠.cell v
 keep:∀i h h',tn i h→(∀b∈fp,∀o,h.get? b=some o→h'.get? b=some o)→tn i h'
 item:∀(X:Cx),X.prog=P→X.w=w→X.K=K→X.calm=true→∀(i:Nat) (pins:List (Addr×Obj)) (s:Shared) (σ:St) (H:Hp) (E:Value→Shared→Prop),Inv X pins σ H s→(∀b∈fp,kg X pins H b)→tn i s.heap→J.go i H →
  wpAny (model P w) X.A (pyNext (.ref it)) (λr s1=>∃u,r=some u ∧
   wpAny (model P w) X.A (letOwnedTupleGo tg (.ref it) u) (λ_ s2=>∃x H',Inv X pins σ H' s2∧bg x u∧J.yld i H x H'∧tn (i+1) s2.heap∧∀b∈fp,H' b=none) E s1) E s
 done:∀(X:Cx),X.prog=P→X.w=w→X.K=K→X.calm=true→∀(i:Nat) (pins:List (Addr×Obj)) (s:Shared) (σ:St) (H:Hp) (E:Value→Shared→Prop),Inv X pins σ H s→(∀b∈fp,kg X pins H b)→tn i s.heap→J.stop i H →
  wpAny (model P w) X.A (pyNext (.ref it)) (λr s1=>r=none∧Inv X pins σ H s1) E s
 self:∀(A:Around) (i:Nat) (s:Shared) (Q:Value→Shared→Prop) (E:Value→Shared→Prop),tn i s.heap→Q (.ref it) s→wpAny (model P w) A (pyIter (.ref it)) Q E s
abbrev TI:=St→Hp→(It→Hp→Prop)→Prop
def PIE(X:Cx)(pins:List (Addr×Obj))(σ:St)(tg:Expr)(R:It→Hp→Prop)(itv:Value)(s2:Shared):Prop :=
 ∃(it:Addr) (fp:List Addr) (tn:Nat→Heap→Prop) (J:It) (H':Hp),itv=.ref it∧Inv X pins σ H' s2∧Turn X.prog X.w X.K tg J fp it tn∧tn 0 s2.heap∧(∀b∈fp,kg X pins H' b)∧R J H'
def PI(X:Cx)(tg iter:Expr)(wi:TI):Prop :=
 ∀(pins:List (Addr×Obj)) (s:Shared) (σ:St) (H:Hp) (R:It→Hp→Prop),Inv X pins σ H s→wi σ H R →
  wpAny (model X.prog X.w) X.A (eval iter X.env) (λv s1=>wpAny (model X.prog X.w) X.A (pyIter v) (PIE X pins σ tg R) X.xe s1) X.xe s
theorem go_of{M:Model}{A:Around}{E:Value→Shared→Prop}{s:Shared}{tg:Expr}{it:Addr}{u:Value}{o:Obj}{n:String}{vs:Array Value}{Q:Unit→Shared→Prop}(ho:s.heap.get? it=some o)(hc:o.cls=.type n)(hd:o.data=.fields vs)(hn:["enumerate","zip","dict_itemiterator","dict_reverseitemiterator","odict_iterator","itertools.zip_longest","itertools.pairwise"].contains n=false)(hQ:Q () s):wpAny M A (letOwnedTupleGo tg (.ref it) u) Q E s:=by
  unfold letOwnedTupleGo;cases tg<;>first
    | exact wpAny_pure hQ
    | (cases u<;>first
        | exact wpAny_pure hQ
        | (refine wpAny_bind (wpAny_load ho ?_)
           rw[hc,hd];show wpAny M A (if (["enumerate","zip","dict_itemiterator","dict_reverseitemiterator","odict_iterator","itertools.zip_longest","itertools.pairwise"].contains n&&vs[0]?==some (rawInt _))=true then _ else _) Q E s;rw[if_neg (by intro h;rw[hn,Bool.false_and]at h;cases h)];exact wpAny_pure hQ))
def Itl(K:fG)(a:Addr):It :=
 ⟨λi H=>∃xs x,SqL K H a xs∧xs[i]?=some x,λi H x H'=>H'=H∧∀xs,SqL K H a xs→xs[i]?=some x,λi H=>∃xs,SqL K H a xs∧xs.length≤i⟩
def Itt(K:fG)(a:Addr):It :=
 ⟨λi H=>∃xs x,SqT K H a xs∧xs[i]?=some x,λi H x H'=>H'=H∧∀xs,SqT K H a xs→xs[i]?=some x,λi H=>∃xs,SqT K H a xs∧xs.length≤i⟩
def Itr(lo:Int)(n:Nat):It:=⟨λi _=>i<n,λi H x H'=>H'=H∧x=.int (lo+i),λi _=>n≤i⟩
theorem turn_list{P:Program}{w:World}{K:fG}{tg:Expr}(a it:Addr):Turn P w K tg (Itl K a) [it] it (λi h=>h.IsListIter it a i) where
 mem:=by simp
 obj:=λi h st b hb=>by
  have e:b=it:=by simpa using hb
  subst e;obtain⟨o,e,c,d⟩:=st;exact tF o e (λv z=>by rw[d]at z;cases z)
 keep:=λi h h' st k=>st.at λo e=>k it (by simp) o e
 item:=by
  intro X hP hw hK hc i pins s σ H E I hf st hg;subst hP hw hK;obtain⟨xs,x,hq,hx⟩:=hg;obtain⟨its,rv,p,hz⟩:=I.list hq;obtain⟨u,hu,ru⟩:=rv.get hx;obtain⟨f0,f1,f2,f3,f4,f5⟩:=hf it (by simp);refine wpAny_pyNext_list_item st p.isList (x:=u) (by simpa using hu) λh' st' sb=>?_;have I1:Inv X pins σ H {s with heap:=h'}:=I.turned (t':=s.toks) (λb o hb e=>(sb.2 b hb).trans e) f0 f1 f3 f4 f5;obtain⟨o,e,c,d⟩:=id st';exact tF u rfl (go_of (s:={s with heap:=h'}) e c d (by decide) (tG x H I1 ru ⟨rfl,λys hy=>by rw[I.list_inj hy hq];exact hx⟩ st' (λb hb=>(hf b hb).1)))
 done:=by
  intro X hP hw hK hc i pins s σ H E I hf st hg;subst hP hw hK;obtain⟨xs,hq,hx⟩:=hg;obtain⟨its,rv,p,hz⟩:=I.list hq;obtain⟨f0,f1,f2,f3,f4,f5⟩:=hf it (by simp);have hl:=rv.length;exact wpAny_pyNext_list_end (I.ok.hd hc) st p.isList (by simp;omega) λh' eb=>⟨rfl,I.turned (t':=s.toks) (λb o hb e=>eb b o hb e) f0 f1 f3 f4 f5⟩
 self:=λ_ _ _ _ _ st h=>wpAny_pyIter_listiter st h
theorem qt{P:Program}{w:World}{K:fG}{tg:Expr}(a it:Addr):Turn P w K tg (Itt K a) [it] it (λi h=>h.IsTupleIter it a i) where
 mem:=by simp
 obj:=λi h st b hb=>by
  have e:b=it:=by simpa using hb
  subst e;obtain⟨o,e,c,d⟩:=st;exact tF o e (λv z=>by rw[d]at z;cases z)
 keep:=λi h h' st k=>st.at λo e=>k it (by simp) o e
 item:=by
  intro X hP hw hK hc i pins s σ H E I hf st hg;subst hP hw hK;obtain⟨xs,x,hq,hx⟩:=hg;obtain⟨its,rv,p,hz⟩:=I.tuple hq;obtain⟨u,hu,ru⟩:=rv.get hx;obtain⟨f0,f1,f2,f3,f4,f5⟩:=hf it (by simp);refine wpAny_pyNext_tuple_item st (show s.heap.IsTuple a its.toArray from p) (x:=u) (by simpa using hu) λh' st' sb=>?_;have I1:Inv X pins σ H {s with heap:=h'}:=I.turned (t':=s.toks) (λb o hb e=>(sb.2 b hb).trans e) f0 f1 f3 f4 f5;obtain⟨o,e,c,d⟩:=id st';exact tF u rfl (go_of (s:={s with heap:=h'}) e c d (by decide) (tG x H I1 ru ⟨rfl,λys hy=>by rw[I.tuple_inj hy hq];exact hx⟩ st' (λb hb=>(hf b hb).1)))
 done:=by
  intro X hP hw hK hc i pins s σ H E I hf st hg;subst hP hw hK;obtain⟨xs,hq,hx⟩:=hg;obtain⟨its,rv,p,hz⟩:=I.tuple hq;obtain⟨f0,f1,f2,f3,f4,f5⟩:=hf it (by simp);have hl:=rv.length;exact wpAny_pyNext_tuple_end (I.ok.hd hc) st (show s.heap.IsTuple a its.toArray from p) (by simp;omega) λh' eb=>⟨rfl,I.turned (t':=s.toks) (λb o hb e=>eb b o hb e) f0 f1 f3 f4 f5⟩
 self:=λ_ _ _ _ _ st h=>wpAny_pyIter_tupleiter st h
theorem qx{P:Program}{w:World}{K:fG}{tg:Expr}(it:Addr)(lo:Int)(n:Nat):Turn P w K tg (Itr lo n) [it] it (λi h=>IsRangeIter h it (lo+(i:Nat)*1) ((n:Int)-(i:Nat)) 1) where
 mem:=by simp
 obj:=λi h st b hb=>by
  have e:b=it:=by simpa using hb
  subst e;exact tF _ st (λv z=>by
   have z':Data.fields _=Data.cell v:=z;cases z')
 keep:=λi h h' st k=>k it (by simp) _ st
 item:=by
  intro X hP hw hK hc i pins s σ H E I hf st hg;subst hP hw hK;obtain⟨f0,f1,f2,f3,f4,f5⟩:=hf it (by simp);have W:=Walks.range (prog:=X.prog) (w:=X.w) (I.ok.hd hc) it lo 1 n;refine W.item i s _ _ hg st λv h' tk hv st' kk=>?_;obtain⟨t,rfl⟩:=hv;have I1:Inv X pins σ H {s with heap:=h',toks:=tk}:=I.turned (λb o hb e=>kk b o (by simpa using hb) e) f0 f1 f3 f4 f5;refine tF _ rfl (go_of (s:={s with heap:=h',toks:=tk}) (n:="range_iterator") st' rfl rfl (by decide) (tG (.int (lo+i)) H I1 ⟨t,?_⟩ ⟨rfl,rfl⟩ st' (λb hb=>(hf b hb).1)));rw[Int.mul_one]
 done:=by
  intro X hP hw hK hc i pins s σ H E I hf st hg;subst hP hw hK;obtain⟨f0,f1,f2,f3,f4,f5⟩:=hf it (by simp);exact wpAny_pyNext_range_end (I.ok.hd hc) st (by have:n≤i:=hg;omega) λh' eb=>⟨rfl,I.turned (t':=s.toks) (λb o hb e=>eb b o hb e) f0 f1 f3 f4 f5⟩
 self:=λ_ _ _ _ _ st h=>wpAny_pyIter_rangeiter st h
end L2
namespace L2
open PySem PySem.Spec PyProof.Rows
section
variable {X:Cx} {tg:Expr}
def iList(K:fG)(tl:TE):TI:=λσ H R=>tl σ H λx H1=>∃a,x=.ref a∧(∃xs,SqL K H1 a xs)∧R (Itl K a) H1
def iTup(K:fG)(tl:TE):TI:=λσ H R=>tl σ H λx H1=>∃a,x=.ref a∧(∃xs,SqT K H1 a xs)∧R (Itt K a) H1
theorem bZ{l:Expr}{tl:TE}(hl:PE X l tl):PI X tg l (iList X.K tl):=by
 intro pins s σ H R I h;refine thn (hl pins s σ H _ I h) λv s1 ⟨x,H1,I1,r1,q1⟩=>?_;obtain⟨a,e,⟨xs,hq⟩,q⟩:=q1;subst e;cases r1;obtain⟨its,rv,p,hz⟩:=I1.list hq;refine wpAny_pyIter_list p.isList ?_;refine tY s1.heap.objs.size [s1.heap.objs.size] _ _ (tJ H1 rfl (I1.kept (t':=s1.toks) λb o e=>rJ _ e) (turn_list a _) (tK _ (rK _ rfl) rfl rfl) (λb hb=>?_) q);have e:b=s1.heap.objs.size:=by simpa using hb
 subst e;exact I1.fpOk (rL _) (I1.hok.fresh (rL _))
theorem pi_tup{l:Expr}{tl:TE}(hl:PE X l tl):PI X tg l (iTup X.K tl):=by
 intro pins s σ H R I h;refine thn (hl pins s σ H _ I h) λv s1 ⟨x,H1,I1,r1,q1⟩=>?_;obtain⟨a,e,⟨xs,hq⟩,q⟩:=q1;subst e;cases r1;obtain⟨its,rv,p,hz⟩:=I1.tuple hq;refine wpAny_pyIter_tuple (show s1.heap.IsTuple a its.toArray from p) ?_;refine tY s1.heap.objs.size [s1.heap.objs.size] _ _ (tJ H1 rfl (I1.kept (t':=s1.toks) λb o e=>rJ _ e) (qt a _) (tK _ (rK _ rfl) rfl rfl) (λb hb=>?_) q);have e:b=s1.heap.objs.size:=by simpa using hb
 subst e;exact I1.fpOk (rL _) (I1.hok.fresh (rL _))
theorem o9{pins:List (Addr×Obj)}{σ:St}{H:Hp}{s:Shared}{R:It→Hp→Prop}{E:Value→Shared→Prop}{lo hi:Int}{t u v:Tok}{tk:Nat}(I:Inv X pins σ H s)(h1 : -(2^62)≤lo)(h2:lo<2^62)(h3 : -(2^62)≤hi)(h4:hi<2^62)(q:R (Itr lo (hi-lo).toNat) H):wpAny (model X.prog X.w) X.A (pyIter (.ref s.heap.objs.size)) (PIE X pins σ tg R) E {s with heap:=s.heap.push {cls:=.type "range",data:=.fields #[.int lo t,.int hi u,.int 1 v]},toks:=tk}:=by
 refine wpAny_pyIter_range (IsRange.new ..) (small_one h1 h2 h3 h4) ?_;have I1:Inv X pins σ H {s with heap:=s.heap.push {cls:=.type "range",data:=.fields #[.int lo t,.int hi u,.int 1 v]},toks:=tk}:=I.kept λb o e=>rJ _ e;refine tY ((s.heap.push {cls:=.type "range",data:=.fields #[.int lo t,.int hi u,.int 1 v]}).objs.size) [(s.heap.push {cls:=.type "range",data:=.fields #[.int lo t,.int hi u,.int 1 v]}).objs.size] _ _ (tJ H rfl (
  I1.kept (t':=tk) λb o e=>rJ _ e) (qx _ lo (hi-lo).toNat) ?_ (λb hb=>?_) q)
 ·have e1:lo+((0:Nat):Int)*1=lo:=by simp
  have e2:(((hi-lo).toNat:Nat):Int)-((0:Nat):Int)=Builtin.Range.rangeSize lo hi 1:=by rw[rangeSize_one];split<;>omega
  show IsRangeIter _ _ (lo+((0:Nat):Int)*1) ((((hi-lo).toNat:Nat):Int)-((0:Nat):Int)) 1;rw[e1,e2];exact rK _ rfl
 ·have e:b=(s.heap.push {cls:=.type "range",data:=.fields #[.int lo t,.int hi u,.int 1 v]}).objs.size:=by simpa using hb
  subst e;exact I1.fpOk (rL _) (I1.hok.fresh (rL _))
def iRng1(ta:TA):TI:=λσ H R=>ta σ H λvs H1=>∃j:Int,vs=[.int j]∧-(2^62)≤j∧j<2^62∧R (Itr 0 j.toNat) H1
def iRng2(ta:TA):TI:=λσ H R=>ta σ H λvs H1=>∃i j:Int,vs=[.int i,.int j]∧(-(2^62)≤i∧i<2^62∧-(2^62)≤j∧j<2^62)∧R (Itr i (j-i).toNat) H1
theorem gT{a:Expr}{ta:TA}{p pos:Pos}(hg:Gl X "range")(hm:X.mg "range" = none)(ha:PA X [a] ta)(hs:starEach [a] X.env=[(false,eval a X.env)]:=by rfl):PI X tg (.Call (.Name "range" p) [a] [] pos) (iRng1 ta):=by
 intro pins s σ H R I h;refine Call_ (eD I hg hm boot_range (PyProof.Rows.callWith_type1 (thn (ha pos pins s σ H _ I h) λus s1 ⟨vs,H1,I1,r1,q1⟩=>?_) hs rfl));obtain⟨j,e,q1,q2,q⟩:=q1;subst e;cases r1 with
 |cons r rr =>
  cases rr;obtain⟨t,rfl⟩:=r;exact call_range_1 (o9 I1 (by omega) (by omega) q1 q2 (by simpa using q))
theorem gS{a b:Expr}{ta:TA}{p pos:Pos}(hg:Gl X "range")(hm:X.mg "range" = none)(ha:PA X [a,b] ta)(hs:starEach [a,b] X.env=[(false,eval a X.env),(false,eval b X.env)]:=by rfl)(hs2:starEach [b] X.env=[(false,eval b X.env)]:=by rfl):PI X tg (.Call (.Name "range" p) [a,b] [] pos) (iRng2 ta):=by
 intro pins s σ H R I h;refine Call_ (eD I hg hm boot_range (PyProof.Rows.callWith_type1 (thn (ha pos pins s σ H _ I h) λus s1 ⟨vs,H1,I1,r1,q1⟩=>?_) (by rw[hs,hs2]) (by rw[hs2];rfl)));obtain⟨i,j,e,⟨q1,q2,q3,q4⟩,q⟩:=q1;subst e;cases r1 with
 |cons r rr =>
  cases rr with
  |cons r' rr =>
   cases rr;obtain⟨t,rfl⟩:=r;obtain⟨t',rfl⟩:=r';exact call_range_2 (o9 I1 q1 q2 q3 q4 q)
def tFor(wi:TI)(g:TG)(tb:TS):TS:=λD σ H=>wi σ H λJ H1=>∃W:Nat→Nat→St→Hp→Prop,(∃m,W 0 m σ H1)∧∀i m σ H,W i m σ H →
 (J.stop i H∧D.nx σ H)∨(J.go i H∧∃N:St→Hp→Prop,(∀σ' H',N σ' H'→∃m',m'<m∧W (i+1) m' σ' H')∧∀x H',J.yld i H x H'→g x σ H' λσ2 H2=>tb {D with nx:=N,ct:=N,bk:=D.nx} σ2 H2)
def k0(fp:List Addr)(h:Heap):List (Addr×Obj):=fp.filterMap λb=>(h.get? b).map λo=>(b,o)
theorem iA{fp:List Addr}{h:Heap}{b:Addr}{o:Obj}(hb:b∈fp)(e:h.get? b=some o):(b,o)∈k0 fp h:=rM.mpr (tF b hb (by rw[e];rfl))
theorem of_pinsAt{fp:List Addr}{h:Heap}{p:Addr×Obj}(hp:p∈k0 fp h):p.1∈fp∧h.get? p.1=some p.2:=by
 obtain⟨b,hb,e⟩:=rM.mp hp;cases q:h.get? b with
 |none=>rw[q]at e;cases e
 |some o =>
  rw[q]at e;have e':(b,o)=p:=Option.some.inj e;subst e';exact⟨hb,q⟩
theorem Inv.pinned{pins:List (Addr×Obj)}{σ:St}{H:Hp}{s:Shared}{fp:List Addr}(I:Inv X pins σ H s)(hf:∀b∈fp,kg X pins H b)(ho:∀b∈fp,∃o,s.heap.get? b=some o∧∀v,o.data≠.cell v):Inv X (pins++k0 fp s.heap) σ H s :=
 I.pins_of λp hp=>(rD.mp hp).elim (λz=>I.pin p (rN _ z)) λz=>by
  obtain⟨hb,e⟩:=of_pinsAt z;obtain⟨f0,f1,f2,_⟩:=hf p.1 hb;obtain⟨o,e',d⟩:=ho p.1 hb;rw[e]at e';cases e';exact uw e f0 f1 f2 d
theorem Inv.unpinned{pins pl:List (Addr×Obj)}{σ:St}{H:Hp}{s:Shared}(I:Inv X (pins++pl) σ H s):Inv X pins σ H s:=I.pins_of λp hp=>I.pin p (rN _ (List.mem_append_left _ hp))
theorem cn{iter:Expr}{body:List Stmt}{wi:TI}{g:TG}{tb:TS}{pos:Pos}(hp:PassesOwn (model X.prog X.w) X.A X.env X.xe)(hc:X.calm=true)(hi:PI X tg iter wi)(hg:PG X tg g)(hb:PSs X body tb)(hs:∀x,foldedSetIterable iter X.env x=pure x:=by intro _;rfl):PS X (.For tg iter body [] pos) (tFor wi g tb):=by
 intro pins s σ H D I h;refine wpAny_For (thn (hi pins s σ H _ I h) λv s1 h1=>thn h1 λitv s2 h2=>?_) hs;obtain⟨it,fp,tn,J,H2,e,I2,T,st2,f2,W,⟨m0,w0⟩,turn⟩:=h2;subst e;have stat:∀{H':Hp},(∀b∈fp,H' b=none)→∀b∈fp,kg X pins H' b:=λhn b hb=>⟨hn b hb,(f2 b hb).2⟩
 refine codeAny_forLoop_any (λn s'=>∃i σ' H',Inv X pins σ' H' s'∧tn i s'.heap∧(∀b∈fp,H' b=none)∧W i n σ' H') ?_ m0 (tI 0 σ H2 I2 st2 (λb hb=>(f2 b hb).1) w0);rintro n s3 ⟨i,σ3,H3,I3,st3,fr3,w3⟩;rcases turn i n σ3 H3 w3 with⟨stop,qn⟩|⟨go,N,hN,step⟩
 ·refine wpAny_passesOwn hp (thn (T.done X rfl rfl rfl hc i pins s3 σ3 H3 X.xe I3 (stat fr3) st3 stop) λr s4 ⟨hr,I4⟩=>?_);subst hr;exact wpAny_execs_nil (tO σ3 H3 I4 qn)
 ·refine wpAny_passesOwn hp (thn (T.item X rfl rfl rfl hc i pins s3 σ3 H3 X.xe I3 (stat fr3) st3 go) λr s4 ⟨u,hr,h4⟩=>?_);subst hr;refine wpAny_passesOwn hp (thn h4 λ_ s5 ⟨x,H5,I5,r5,y5,st5,fr5⟩=>?_);have I5':=I5.pinned (stat fr5) (T.obj _ _ st5);refine wpAny_passesOwn hp (thn (hg _ s5 σ3 H5 x u _ I5' r5 (step x H5 y5)) λ_ s6 ⟨σ6,H6,I6,q6⟩=>?_);refine wpAny_passesOwn hp (thn (hb _ s6 σ6 H6 _ I6 q6) λf s7 q7=>?_);have again:∀{σ7:St} {H7:Hp},Inv X (pins++k0 fp s5.heap) σ7 H7 s7→N σ7 H7→∃m,m<n∧∃i σ' H',Inv X pins σ' H' s7∧tn i s7.heap∧(∀b∈fp,H' b=none)∧W i m σ' H':=λ{σ7 H7} I7 n7=>by
   obtain⟨m',hm,w7⟩:=hN σ7 H7 n7;refine tF m' hm (tI (i+1) σ7 H7 I7.unpinned (T.keep _ _ _ st5 λb hb o e=>(I7.pin (b,o) (rN _ (rN _ (iA hb e)))).1) (λb hb=>?_) w7);obtain⟨o,e,d⟩:=T.obj _ _ st5 b hb;exact(I7.pin (b,o) (rN _ (rN _ (iA hb e)))).2.1
  cases f with
  |next=>obtain⟨σ7,H7,I7,n7⟩:=q7;exact again I7 n7
  |cont=>obtain⟨σ7,H7,I7,n7⟩:=q7;exact again I7 n7
  |brk=>obtain⟨σ7,H7,I7,q7⟩:=q7;exact tO σ7 H7 I7.unpinned q7
  |ret v=>obtain⟨x7,σ7,H7,I7,r7,q7⟩:=q7;exact tM x7 σ7 H7 I7.unpinned r7 q7
end
theorem dS{K:fG}{a:Addr}{xs:List V}{g:TG}{tb:TS}{D:hG}{σ:St}{H:Hp}(Pv:Nat→St→Hp→Prop)(h0:Pv 0 σ H)(hl:∀i σ H,i≤xs.length→Pv i σ H→SqL K H a xs)(hs:∀i x σ H,xs[i]?=some x→Pv i σ H→g x σ H λσ2 H2=>tb {D with nx:=Pv (i+1),ct:=Pv (i+1),bk:=D.nx} σ2 H2)(hd:∀σ H,Pv xs.length σ H→D.nx σ H):∃W:Nat→Nat→St→Hp→Prop,(∃m,W 0 m σ H)∧∀i m σ H,W i m σ H →
   ((Itl K a).stop i H∧D.nx σ H)∨((Itl K a).go i H∧∃N:St→Hp→Prop,(∀σ' H',N σ' H'→∃m',m'<m∧W (i+1) m' σ' H')∧∀x H',(Itl K a).yld i H x H'→g x σ H' λσ2 H2=>tb {D with nx:=N,ct:=N,bk:=D.nx} σ2 H2):=by
 refine tF (λi m σ H=>m=xs.length-i∧i≤xs.length∧Pv i σ H) (tK xs.length (by simp) (rO _) h0) ?_;rintro i m σ H ⟨rfl,hi,p⟩;have q:=hl i σ H hi p;by_cases hlt:i<xs.length
 ·refine .inr (tX (tO xs (xs[i]) q (by simp[hlt])) (Pv (i+1)) (λσ' H' p'=>ua (xs.length-(i+1)) (by omega) rfl hlt p') (λx H' y=>?_));obtain⟨e,y⟩:=y;subst e;exact hs i x σ _ (y xs q) p
 ·have e:i=xs.length:=by omega
  subst e;exact .inl ⟨(tF xs q (rL _)),hd σ H p⟩
theorem for_tup{K:fG}{a:Addr}{xs:List V}{g:TG}{tb:TS}{D:hG}{σ:St}{H:Hp}(Pv:Nat→St→Hp→Prop)(h0:Pv 0 σ H)(hl:∀i σ H,i≤xs.length→Pv i σ H→SqT K H a xs)(hs:∀i x σ H,xs[i]?=some x→Pv i σ H→g x σ H λσ2 H2=>tb {D with nx:=Pv (i+1),ct:=Pv (i+1),bk:=D.nx} σ2 H2)(hd:∀σ H,Pv xs.length σ H→D.nx σ H):∃W:Nat→Nat→St→Hp→Prop,(∃m,W 0 m σ H)∧∀i m σ H,W i m σ H →
   ((Itt K a).stop i H∧D.nx σ H)∨((Itt K a).go i H∧∃N:St→Hp→Prop,(∀σ' H',N σ' H'→∃m',m'<m∧W (i+1) m' σ' H')∧∀x H',(Itt K a).yld i H x H'→g x σ H' λσ2 H2=>tb {D with nx:=N,ct:=N,bk:=D.nx} σ2 H2):=by
 refine tF (λi m σ H=>m=xs.length-i∧i≤xs.length∧Pv i σ H) (tK xs.length (by simp) (rO _) h0) ?_;rintro i m σ H ⟨rfl,hi,p⟩;have q:=hl i σ H hi p;by_cases hlt:i<xs.length
 ·refine .inr (tX (tO xs (xs[i]) q (by simp[hlt])) (Pv (i+1)) (λσ' H' p'=>ua (xs.length-(i+1)) (by omega) rfl hlt p') (λx H' y=>?_));obtain⟨e,y⟩:=y;subst e;exact hs i x σ _ (y xs q) p
 ·have e:i=xs.length:=by omega
  subst e;exact .inl ⟨(tF xs q (rL _)),hd σ H p⟩
theorem ft{lo:Int}{n:Nat}{g:TG}{tb:TS}{D:hG}{σ:St}{H:Hp}(Pv:Nat→St→Hp→Prop)(h0:Pv 0 σ H)(hs:∀i σ H,i<n→Pv i σ H→g (.int (lo+i)) σ H λσ2 H2=>tb {D with nx:=Pv (i+1),ct:=Pv (i+1),bk:=D.nx} σ2 H2)(hd:∀σ H,Pv n σ H→D.nx σ H):∃W:Nat→Nat→St→Hp→Prop,(∃m,W 0 m σ H)∧∀i m σ H,W i m σ H →
   ((Itr lo n).stop i H∧D.nx σ H)∨((Itr lo n).go i H∧∃N:St→Hp→Prop,(∀σ' H',N σ' H'→∃m',m'<m∧W (i+1) m' σ' H')∧∀x H',(Itr lo n).yld i H x H'→g x σ H' λσ2 H2=>tb {D with nx:=N,ct:=N,bk:=D.nx} σ2 H2):=by
 refine tF (λi m σ H=>m=n-i∧i≤n∧Pv i σ H) (tK n (by simp) (rO _) h0) ?_;rintro i m σ H ⟨rfl,hi,p⟩;by_cases hlt:i<n
 ·refine .inr (tX hlt (Pv (i+1)) (λσ' H' p'=>ua (n-(i+1)) (by omega) rfl hlt p') (λx H' y=>?_));obtain⟨e,y⟩:=y;subst e y;exact hs i σ _ hlt p
 ·have e:i=n:=by omega
  subst e;exact .inl ⟨rL _,hd σ H p⟩
theorem oM{c:TT}{tb:TS}{D:hG}{σ:St}{H:Hp}(Pv:St→Hp→Prop)(μ:St→Hp→Nat)(h0:Pv σ H)(hs:∀σ H,Pv σ H→c σ H λb H1=>if b=true then tb {D with nx:=λσ' H'=>Pv σ' H'∧μ σ' H'<μ σ H,ct:=λσ' H'=>Pv σ' H'∧μ σ' H'<μ σ H,bk:=D.nx} σ H1 else D.nx σ H1)(mono:∀σ H Q Q',(∀b H1,Q b H1→Q' b H1)→c σ H Q→c σ H Q'):tWhile c tb D σ H:=by
 refine tF (λm σ H=>m=μ σ H∧Pv σ H) (tF _ rfl h0) ?_;rintro m σ H ⟨rfl,p⟩;refine mono σ H _ _ (λb H1 q=>?_) (hs σ H p);cases b with
 |true=>exact tF _ (λσ' H' ⟨p',l⟩=>tK _ l rfl p') q
 |false=>exact q
end L2
namespace L2
open PySem PySem.Spec PyProof.Rows
abbrev R2:=V→V→Hp→VK→Prop
def OpR(X:Cx)(f:Value→Value→Sem Value)(r:R2):Prop :=
 ∀(pins:List (Addr×Obj)) (s:Shared) (σ:St) (H:Hp) (x y:V) (v u:Value) (Q:VK),Inv X pins σ H s→bg x v→bg y u→r x y H Q →
  wpAny (model X.prog X.w) X.A (f v u) (EP X pins σ Q) X.xe s
def UnR(X:Cx)(f:Value→Sem Value)(r:V→Hp→VK→Prop):Prop :=
 ∀(pins:List (Addr×Obj)) (s:Shared) (σ:St) (H:Hp) (x:V) (v:Value) (Q:VK),Inv X pins σ H s→bg x v→r x H Q →
  wpAny (model X.prog X.w) X.A (f v) (EP X pins σ Q) X.xe s
def j8(X:Cx)(f:Value)(r:List V→Hp→VK→Prop):Prop :=
 ∀(pins:List (Addr×Obj)) (s:Shared) (σ:St) (H:Hp) (xs:List V) (us:List Value) (Q:VK),Inv X pins σ H s→aW xs us→r xs H Q →
  wpAny (model X.prog X.w) X.A (call f us) (EP X pins σ Q) X.xe s
def tOp(r:R2)(ta tb:TE):TE:=λσ H Q=>ta σ H λx H1=>tb σ H1 λy H2=>r x y H2 Q
def tUn(r:V→Hp→VK→Prop)(ta:TE):TE:=λσ H Q=>ta σ H λx H1=>r x H1 Q
def rI(C:Int→Int→Prop)(g:Int→Int→V):R2:=λx y H Q=>∃i j,x=.int i∧y=.int j∧C i j∧Q (g i j) H
def rI0(g:Int→Int→V):R2:=λx y H Q=>∃i j,x=.int i∧y=.int j∧Q (g i j) H
def rU(g:Int→V):V→Hp→VK→Prop:=λx H Q=>∃i,x=.int i∧Q (g i) H
section
variable {X:Cx} {a b c:Expr} {ta tb tc:TE} {pos:Pos}
theorem binT(ha:PE X a ta)(hb:PE X b tb){pins:List (Addr×Obj)}{s:Shared}{σ:St}{H:Hp}{R:V→V→Hp→Prop}(I:Inv X pins σ H s)(h:ta σ H λx H1=>tb σ H1 λy H2=>R x y H2){Q:Value→Shared→Prop}{f:Value→Value→Sem Value}(hf:∀v u s2 x y H2,Inv X pins σ H2 s2→bg x v→bg y u→R x y H2→wpAny (model X.prog X.w) X.A (f v u) Q X.xe s2):wpAny (model X.prog X.w) X.A (eval a X.env) (λv s₁=>wpAny (model X.prog X.w) X.A (eval b X.env) (λu s₂=>wpAny (model X.prog X.w) X.A (f v u) Q X.xe s₂) X.xe s₁) X.xe s:=by
 refine thn (ha pins s σ H _ I h) λv s1 ⟨x,H1,I1,r1,q1⟩=>?_;refine thn (hb pins s1 σ H1 _ I1 q1) λu s2 ⟨y,H2,I2,r2,q2⟩=>?_;exact hf v u s2 x y H2 I2 r1 r2 q2
theorem aT{op:Operator}{r:R2}(ho:OpR X (binaryOp op) r)(ha:PE X a ta)(hb:PE X b tb):PE X (.BinOp a op b pos) (tOp r ta tb):=by
 intro pins s σ H Q I h;exact wpAny_BinOp (binT ha hb I h λv u s2 x y H2 I2 rx ry q=>ho pins s2 σ H2 x y v u Q I2 rx ry q)
theorem jX{op:UnaryOp}{r:V→Hp→VK→Prop}(ho:UnR X (unaryOp op) r)(ha:PE X a ta):PE X (.UnaryOp op a pos) (tUn r ta):=by
 intro pins s σ H Q I h;exact UnaryOp_ (thn (ha pins s σ H _ I h) λv s1 ⟨x,H1,I1,r1,q1⟩=>ho pins s1 σ H1 x v Q I1 r1 q1)
theorem opI{f:Value→Value→Sem Value}{C:Int→Int→Prop}{g:Int→Int→Int}(rule:∀(i j:Int) (t u:Tok) (s:Shared) (Q:Value→Shared→Prop) (E:Value→Shared→Prop),C i j→Q (.int (g i j) s.toks) {s with toks:=s.toks+1}→wpAny (model X.prog X.w) X.A (f (.int i t) (.int j u)) Q E s):OpR X f (rI C λi j=>.int (g i j)):=by
 intro pins s σ H x y v u Q I rx ry h;obtain⟨i,j,rfl,rfl,hc,q⟩:=h;obtain⟨t,rfl⟩:=rx;obtain⟨t',rfl⟩:=ry;exact rule i j t t' s _ _ hc (tH (.int (g i j)) H (I.tok _) ⟨_,rfl⟩ q)
theorem opI0{f:Value→Value→Sem Value}{g:Int→Int→Int}(rule:∀(i j:Int) (t u:Tok) (s:Shared) (Q:Value→Shared→Prop) (E:Value→Shared→Prop),Q (.int (g i j) s.toks) {s with toks:=s.toks+1}→wpAny (model X.prog X.w) X.A (f (.int i t) (.int j u)) Q E s):OpR X f (rI0 λi j=>.int (g i j)):=by
 intro pins s σ H x y v u Q I rx ry h;obtain⟨i,j,rfl,rfl,q⟩:=h;obtain⟨t,rfl⟩:=rx;obtain⟨t',rfl⟩:=ry;exact rule i j t t' s _ _ (tH (.int (g i j)) H (I.tok _) ⟨_,rfl⟩ q)
theorem opB0{f:Value→Value→Sem Value}{g:Int→Int→Bool}(rule:∀(i j:Int) (t u:Tok) (s:Shared) (Q:Value→Shared→Prop) (E:Value→Shared→Prop),Q (.bool (g i j)) s→wpAny (model X.prog X.w) X.A (f (.int i t) (.int j u)) Q E s):OpR X f (rI0 λi j=>.bl (g i j)):=by
 intro pins s σ H x y v u Q I rx ry h;obtain⟨i,j,rfl,rfl,q⟩:=h;obtain⟨t,rfl⟩:=rx;obtain⟨t',rfl⟩:=ry;exact rule i j t t' s _ _ (tH (.bl (g i j)) H I rfl q)
def CMul(i j:Int):Prop:=(-(2^64)<i∧i<2^64)∨(-(2^64)<j∧j<2^64)
theorem CMul.ok{i j:Int}(h:CMul i j):IntMulOk i j:=by
 rcases h with⟨h1,h2⟩|⟨h1,h2⟩
 ·exact .of_left (intBits_le_64 h1 h2)
 ·exact .of_right (intBits_le_64 h1 h2)
theorem cB:OpR X (binaryOp .Add) (rI0 λi j=>.int (i+j)):=opI0 λ_ _ _ _ _ _ _ q=>add_int q
theorem dZ:OpR X (binaryOp .Sub) (rI0 λi j=>.int (i-j)):=opI0 λ_ _ _ _ _ _ _ q=>sub_int q
theorem op_mul:OpR X (binaryOp .Mult) (rI CMul λi j=>.int (i*j)):=opI λ_ _ _ _ _ _ _ hc q=>mul_int q hc.ok
theorem op_mod:OpR X (binaryOp .Mod) (rI (λ_ j=>0<j) λi j=>.int (i%j)):=opI λi j _ _ _ _ _ hc q=>by
 have h1:(0:Int)<j:=hc;exact mod_int' (by omega) (by rw[Int.fmod_eq_emod_of_nonneg i (by omega)];exact q)
theorem unI{f:Value→Sem Value}{g:Int→Int}(rule:∀(i:Int) (t:Tok) (s:Shared) (Q:Value→Shared→Prop) (E:Value→Shared→Prop),Q (.int (g i) s.toks) {s with toks:=s.toks+1}→wpAny (model X.prog X.w) X.A (f (.int i t)) Q E s):UnR X f (rU λi=>.int (g i)):=by
 intro pins s σ H x v Q I rx h;obtain⟨i,rfl,q⟩:=h;obtain⟨t,rfl⟩:=rx;exact rule i t s _ _ (tH (.int (g i)) H (I.tok _) ⟨_,rfl⟩ q)
theorem fY:UnR X (unaryOp .USub) (rU λi=>.int (-i)):=unI λ_ _ _ _ _ q=>neg_int q
end
def scal:V→V→Bool
 |.non,.non=>true|.non,.int _=>true|.int _,.non=>true|.non,.bl _=>true|.bl _,.non=>true|.non,.str _=>true|.str _,.non=>true
 |.int _,.int _=>true|.bl _,.bl _=>true|.str _,.str _=>true|.byt _,.byt _=>true
 |.int _,.str _=>true|.str _,.int _=>true|.bl _,.str _=>true|.str _,.bl _=>true
 |_,_=>false
def rEq:R2:=λx y H Q=>scal x y=true∧Q (.bl (decide (x=y))) H
def rNe:R2:=λx y H Q=>scal x y=true∧Q (.bl (!decide (x=y))) H
theorem dec_int{i j:Int}:decide (V.int i=V.int j)=(i==j):=by
 rw[Bool.eq_iff_iff];simp
theorem dec_bl{i j:Bool}:decide (V.bl i=V.bl j)=(i==j):=by
 rw[Bool.eq_iff_iff];simp
theorem dec_str{i j:Str}:decide (V.str i=V.str j)=(i==j):=by
 rw[Bool.eq_iff_iff];simp
theorem dec_byt{i j:Array UInt8}:decide (V.byt i=V.byt j)=(i.toList==j.toList):=by
 rw[Bool.eq_iff_iff];cases i;cases j;simp
section
variable {X:Cx} {a b c:Expr} {ta tb tc:TE} {pos:Pos}
theorem bt{pins:List (Addr×Obj)}{σ:St}{H:Hp}{s:Shared}{Q:VK}{k k':Bool}(I:Inv X pins σ H s)(q:Q (.bl k) H)(e:k=k'):EP X pins σ Q (.bool k') s:=by
 subst e;exact tH (.bl k) H I rfl q
theorem bH:OpR X (compareOp .Eq) rEq:=by
 intro pins s σ H x y v u Q I rx ry h;obtain⟨hs,q⟩:=h;cases x with
 |non =>
  cases rx;cases y with
  |non=>cases ry;exact PySem.EqNone.eq_none_none (bt I q (by simp))
  |bl j=>cases ry;exact PySem.EqNone.eq_none_bool (bt I q (by simp))
  |int j=>obtain⟨t',rfl⟩:=ry;exact PySem.EqNone.eq_none_int (bt I q (by simp))
  |str j=>obtain⟨t',rfl⟩:=ry;exact PySem.EqNone.eq_none_str (bt I q (by simp))
  |_=>exact absurd (show false=true from hs) rG
 |bl i =>
  cases rx;cases y with
  |non=>cases ry;exact PySem.EqNone.eq_bool_none (bt I q (by simp))
  |bl j=>cases ry;exact eq_bool (bt I q dec_bl)
  |str j=>obtain⟨t',rfl⟩:=ry;exact PySem.EqMixed.eq_bool_str (bt I q (by simp))
  |_=>exact absurd (show false=true from hs) rG
 |int i =>
  obtain⟨t,rfl⟩:=rx;cases y with
  |non=>cases ry;exact PySem.EqNone.eq_int_none (bt I q (by simp))
  |int j=>obtain⟨t',rfl⟩:=ry;exact eq_int (bt I q dec_int)
  |str j=>obtain⟨t',rfl⟩:=ry;exact PySem.EqMixed.eq_int_str (bt I q (by simp))
  |_=>exact absurd (show false=true from hs) rG
 |str i =>
  obtain⟨t,rfl⟩:=rx;cases y with
  |non=>cases ry;exact PySem.EqNone.eq_str_none (bt I q (by simp))
  |bl j=>cases ry;exact PySem.EqMixed.eq_str_bool (bt I q (by simp))
  |int j=>obtain⟨t',rfl⟩:=ry;exact PySem.EqMixed.eq_str_int (bt I q (by simp))
  |str j=>obtain⟨t',rfl⟩:=ry;exact eq_str (bt I q dec_str)
  |_=>exact absurd (show false=true from hs) rG
 |byt i =>
  obtain⟨t,rfl⟩:=rx;cases y with
  |byt j=>obtain⟨t',rfl⟩:=ry;exact PySem.W.eq_bytes (bt I q dec_byt)
  |_=>exact absurd (show false=true from hs) rG
 |_=>cases y<;>exact absurd (show false=true from hs) rG
theorem op_ne:OpR X (compareOp .NotEq) rNe:=by
 intro pins s σ H x y v u Q I rx ry h;obtain⟨hs,q⟩:=h;cases x with
 |non =>
  cases rx;cases y with
  |non=>cases ry;exact PySem.EqNone.ne_none_none (bt I q (by simp))
  |bl j=>cases ry;exact PySem.EqNone.ne_none_bool (bt I q (by simp))
  |int j=>obtain⟨t',rfl⟩:=ry;exact PySem.EqNone.ne_none_int (bt I q (by simp))
  |str j=>obtain⟨t',rfl⟩:=ry;exact PySem.EqNone.ne_none_str (bt I q (by simp))
  |_=>exact absurd (show false=true from hs) rG
 |bl i =>
  cases rx;cases y with
  |non=>cases ry;exact PySem.EqNone.ne_bool_none (bt I q (by simp))
  |bl j=>cases ry;exact ne_bool (bt I q (congrArg not dec_bl))
  |str j=>obtain⟨t',rfl⟩:=ry;exact PySem.EqMixed.ne_bool_str (bt I q (by simp))
  |_=>exact absurd (show false=true from hs) rG
 |int i =>
  obtain⟨t,rfl⟩:=rx;cases y with
  |non=>cases ry;exact PySem.EqNone.ne_int_none (bt I q (by simp))
  |int j=>obtain⟨t',rfl⟩:=ry;exact ne_int (bt I q (congrArg not dec_int))
  |str j=>obtain⟨t',rfl⟩:=ry;exact PySem.EqMixed.ne_int_str (bt I q (by simp))
  |_=>exact absurd (show false=true from hs) rG
 |str i =>
  obtain⟨t,rfl⟩:=rx;cases y with
  |non=>cases ry;exact PySem.EqNone.ne_str_none (bt I q (by simp))
  |bl j=>cases ry;exact PySem.EqMixed.ne_str_bool (bt I q (by simp))
  |int j=>obtain⟨t',rfl⟩:=ry;exact PySem.EqMixed.ne_str_int (bt I q (by simp))
  |str j=>obtain⟨t',rfl⟩:=ry;exact ne_str (bt I q (congrArg not dec_str))
  |_=>exact absurd (show false=true from hs) rG
 |byt i =>
  obtain⟨t,rfl⟩:=rx;cases y with
  |byt j=>obtain⟨t',rfl⟩:=ry;exact PySem.W.ne_bytes (bt I q (congrArg not dec_byt))
  |_=>exact absurd (show false=true from hs) rG
 |_=>cases y<;>exact absurd (show false=true from hs) rG
theorem op_lt:OpR X (compareOp .Lt) (rI0 λi j=>.bl (decide (i<j))):=opB0 λ_ _ _ _ _ _ _ q=>lt_int q
theorem op_le:OpR X (compareOp .LtE) (rI0 λi j=>.bl (decide (i≤j))):=opB0 λ_ _ _ _ _ _ _ q=>le_int q
theorem k5:OpR X (compareOp .Gt) (rI0 λi j=>.bl (decide (j<i))):=opB0 λ_ _ _ _ _ _ _ q=>gt_int q
theorem ja:OpR X (compareOp .GtE) (rI0 λi j=>.bl (decide (j≤i))):=opB0 λ_ _ _ _ _ _ _ q=>ge_int q
theorem aO(b:Expr){op:CmpOp}(h:op≠.In:=by decide)(h2:op≠.NotIn:=by decide):behindInMarks op b=false:=by
 have e1:(op==CmpOp.In)=false:=by cases op<;>first|rfl|exact absurd rfl h
 have e2:(op==CmpOp.NotIn)=false:=by cases op<;>first|rfl|exact absurd rfl h2
 cases b<;>simp[behindInMarks,e1,e2]
theorem b8{op:CmpOp}{r:R2}(ho:OpR X (compareOp op) r)(ha:PE X a ta)(hb:PE X b tb)(hm:behindInMarks op b=false):PE X (.Compare a [op] [b] pos) (tOp r ta tb):=by
 intro pins s σ H Q I h;exact wpAny_Compare1 (binT ha hb I h λv u s2 x y H2 I2 rx ry q=>ho pins s2 σ H2 x y v u Q I2 rx ry q) hm
def tTest(t:TE):TT:=λσ H Q=>t σ H λx H'=>∃k,x=.bl k∧Q k H'
theorem aP{op:CmpOp}{r:R2}(ho:OpR X (compareOp op) r)(ha:PE X a ta)(hb:PE X b tb)(hm:behindInMarks op b=false):PT X (.Compare a [op] [b] pos) (tTest (tOp r ta tb)):=by
 intro pins s σ H Q I h;refine wpAny_isTrue_Compare1 (thn (ha pins s σ H _ I h) λv s1 ⟨x,H1,I1,r1,q1⟩=>thn (hb pins s1 σ H1 _ I1 q1) λu s2 ⟨y,H2,I2,r2,q2⟩ =>
  thn (ho pins s2 σ H2 x y v u _ I2 r1 r2 q2) λc s3 ⟨z,H3,I3,r3,k,e,q3⟩=>?_) hm
 subst e;cases r3;exact wpAny_truthy_bool (tF H3 I3 q3)
def tChain(r r':R2)(ta tb tc:TE):TE:=λσ H Q=>ta σ H λx H1=>tb σ H1 λy H2=>r x y H2 λz H3=>∃k,z=.bl k ∧
 (if k=true then tc σ H3 λw' H4=>r' y w' H4 Q else Q (.bl false) H3)
theorem pE{op op':CmpOp}{r r':R2}(ho:OpR X (compareOp op) r)(ho':OpR X (compareOp op') r')(ha:PE X a ta)(hb:PE X b tb)(hc:PE X c tc)(hm:lastMarks [op,op'] [b,c]=false:=by with_unfolding_all rfl):PE X (.Compare a [op,op'] [b,c] pos) (tChain r r' ta tb tc):=by
 intro pins s σ H Q I h;refine Compare_chain (thn (ha pins s σ H _ I h) λv s1 ⟨x,H1,I1,r1,q1⟩=>chain_link (thn (hb pins s1 σ H1 _ I1 q1) λu s2 ⟨y,H2,I2,r2,q2⟩ =>
  thn (ho pins s2 σ H2 x y v u _ I2 r1 r2 q2) λd s3 ⟨z,H3,I3,r3,k,e,q3⟩=>?_)) hm
 subst e;cases r3;refine wpAny_truthy_bool ?_;cases k with
 |false=>exact ite_ff (tH (.bl false) H3 I3 rfl q3)
 |true=>exact ite_tt (chain_last (thn (hc pins s3 σ H3 _ I3 q3) λw' s4 ⟨z',H4,I4,r4,q4⟩=>ho' pins s4 σ H4 y z' u w' Q I4 r2 r4 q4))
theorem ln:(sizeLine:Nat)<2^63:=by rw[sizeLine_eq];decide
theorem vals1{x:V}{us:List Value}(r:aW [x] us):∃u,us=[u]∧bg x u:=by
 cases r with
 |cons r1 r2=>cases r2;exact tF _ rfl r1
end
end L2
namespace L2
open PySem PySem.Spec PyProof.Rows
structure ObjM(h:Heap)(x dx C:Addr)(mA:Str→Option Value):Prop where
 obj:h.get? x=some (PySem.W.instObj C dx)
 ns:h.Ns1 dx mA
 ne:dx≠x
theorem lookIn_ns{h:Heap}{dx:Addr}{mA:Str→Option Value}(n:h.Ns1 dx mA):∃od,h.get? dx=some od∧∀name,PySem.W.lookIn name od=some (mA name):=by
 obtain⟨o,es,ep,ho,hd,hk,_,hm⟩:=n;refine tF o ho (λname=>?_);have e:=hm name;unfold nsFind findBy at e;rw[←Array.find?_toList]at e;unfold PySem.W.lookIn;rw[hd];dsimp only;split
 ·rename_i y q;rw[q]at e;exact congrArg some e
 ·rename_i q;rw[q]at e;have a:es.toList.any (·.refKey)=false:=by
   rw[List.any_eq_false];intro y hy;obtain⟨z,t,hkey⟩:=hk y (Array.mem_toList_iff.mp hy);simp[DictEntry.refKey,hkey]
  have a':¬es.toList.any (·.refKey)=true:=by rw[a];exact rG
  rw[if_neg a'];exact congrArg some e
theorem ObjM.look{h:Heap}{x dx C:Addr}{mA:Str→Option Value}(I:ObjM h x dx C mA):∃od,PySem.W.InstAt h x (PySem.W.instObj C dx) C (some od)∧∀name,PySem.W.lookIn name od=some (mA name) :=
 let ⟨od,ho,hl⟩:=lookIn_ns I.ns
 (tF od ⟨I.obj,rfl,rfl,ho⟩ hl)
section
variable {prog:Program} {w:World} {A:Around} {E:Value→Shared→Prop} {s:Shared} {K:fG} {x dx C f:Addr} {mA:Str→Option Value} {name:Str} {v:Value}
theorem get_map{expr:Bool}{Q:Value→Shared→Prop}(X:K.In s.heap)(I:ObjM s.heap x dx C mA)(hg:PySem.W.plainGet K C name=true)(hh:PySem.W.hasDictIn K C=true)(ha:PySem.W.findIn K (.ref C) name=some none)(hv:mA name=some v)(hv':PySem.W.handedIn v=true)(h:Q v {s with toks:=s.toks+1}):wpAny (model prog w) A (getAttr (.ref x) name expr) Q E s:=by
 obtain⟨od,J,hl⟩:=I.look;exact PySem.W.get_value X J (PySem.W.plainGet_of hg).1 (PySem.W.findObj_own hh ha rfl (by rw[hl,hv])) hv' h
theorem get_meth{pl:Sem Bool}{Q:Value×List Value→Shared→Prop}(X:K.In s.heap)(I:ObjM s.heap x dx C mA)(hg:PySem.W.plainGet K C name=true)(hf:PySem.W.findIn K (.ref C) name=some (some (.ref f)))(ht:PySem.W.isFn K (.ref f)=true)(hv:mA name=none)(h:Q (.ref f,[.ref x]) s):wpAny (model prog w) A (getMethod (.ref x) name pl) Q E s:=by
 obtain⟨od,J,hl⟩:=I.look;exact PySem.W.method_fn X J (PySem.W.plainGet_of hg).1 (PySem.W.plainGet_of hg).2 hf (beq_iff_eq.mp ht) (by show(PySem.W.lookIn name od).map (·.isSome)=some false;rw[hl,hv];rfl) h
theorem set_map{ns:List Str}{Q:Unit→Shared→Prop}(X:K.In s.heap)(I:ObjM s.heap x dx C mA)(hs:PySem.W.findIn K (.ref C) "__setattr__" = some (some (.builtin "object.__setattr__")))(hp:PySem.W.plainOver K C=true)(ht:PySem.W.takerIn K C name=some none)(hh:PySem.W.hasDictIn K C=true)(hw:PySem.Within mA ns)(hsz:ns.length≤sizeLine)(h:∀h',ObjM h' x dx C (λy=>if y=name then some v else mA y)→Heap.SameBut dx s.heap h'→Q () {s with heap:=h',toks:=s.toks+2}):wpAny (model prog w) A (setAttr (.ref x) name v) Q E s:=by
 obtain⟨od,J,hl⟩:=I.look;refine PySem.W.set_plain X J hs (PySem.W.osa_open (s:={s with toks:=s.toks+1}) (r:=none) X J hp ht λb=>?_);obtain⟨cd,hc,hd'⟩:=PySem.W.any_some hh;have hx:s.heap.get? x=some ⟨.ref C,some dx,.plain,#[]⟩:=I.obj;refine wpAny_bind (wpAny_pure (wpAny_bind (wpAny_bind (wpAny_loadPart hx (wpAny_bind (PySem.W.Looks.here (s:={s with toks:=s.toks+1}) (PySem.W.looks_clsIn X hc) ?_))))));rw[hd'];refine wpAny_pure (a:=some dx) (wpAny_bind (wpAny_pure (wpAny_bind ?_)));refine wpAny_nsSet1 (s:={s with toks:=s.toks+1}) I.ns λh' hn2 hs2=>?_;obtain⟨oD,esD,epD,hoD,hdD,hcD⟩:=hn2.count (PySem.Within.cons name v hw);refine wpAny_bind (wpAny_lookBehind hoD (by rw[hdD];exact pastItsLine_dict (rq hcD (by rw[rP];omega))) ?_);exact wpAny_pure (h _ ⟨(hs2.2 _ (Ne.symm I.ne)).trans I.obj,hn2,I.ne⟩ hs2)
theorem make_map{R:Result→Shared→Prop}{vs:List Value}{kw:List (Str×Value)}(X:K.In s.heap)(hm:PySem.W.makesIn K C=true)(hi:PySem.W.findIn K (.ref C) "__init__" = some (some (.ref f)))(hf:PySem.W.typeIn K (.ref f)=some (.type "function"))(h:codeAny (model prog w) (A.under (.builtin "type.__call__" ⟨.ref C::vs,kw⟩)) (.call (.ref f) ⟨.ref (s.heap.objs.size+1)::vs,kw⟩) (PySem.W.InitBack (s.heap.objs.size+1) R)
   {s with heap:=(s.heap.push PySem.W.emptyDict).push (PySem.W.instObj C s.heap.objs.size)}):codeAny (model prog w) A (.call (.ref C) ⟨vs,kw⟩) R s:=by
 obtain⟨hh,g,d,t,os⟩:=s;exact PySem.W.make_core (PySem.W.makes_of X hm) (PySem.W.looks_findIn X hi) (λself=>PySem.W.bind_fn X self hf) (.inl rfl) h
end
def a7(f:Str)(v:V):List (Str×V)→List (Str×V)
 |[]=>[(f,v)]
 |(g,x)::r=>if g=f then (g,v)::r else (g,x)::a7 f v r
theorem bj(f g:Str)(v:V):∀fs:List (Str×V),(a7 f v fs).lookup g=if g=f then some v else fs.lookup g
 |[]=>by
  show List.lookup g [(f,v)]=_;by_cases h:g=f
  ·have hb:(g==f)=true:=beq_iff_eq.mpr h;simp only[List.lookup,hb,if_pos h]
  ·have hb:(g==f)=false:=beq_eq_false_iff_ne.mpr h;simp only[List.lookup,hb,if_neg h]
 |(k,x)::r=>by
  have ih:=bj f g v r;rw[show a7 f v ((k,x)::r)=(if k=f then (k,v)::r else (k,x)::a7 f v r) from rfl];by_cases hk:k=f
  ·rw[if_pos hk];by_cases h:g=k
   ·have hb:(g==k)=true:=beq_iff_eq.mpr h;simp only[List.lookup,hb,if_pos (h.trans hk)]
   ·have hb:(g==k)=false:=beq_eq_false_iff_ne.mpr h;simp only[List.lookup,hb,if_neg (λe:g=f=>h (e.trans hk.symm))]
  ·rw[if_neg hk];by_cases h:g=k
   ·have hb:(g==k)=true:=beq_iff_eq.mpr h;simp only[List.lookup,hb,if_neg (λe:g=f=>hk (h.symm.trans e))]
   ·have hb:(g==k)=false:=beq_eq_false_iff_ne.mpr h;simp only[List.lookup,hb];exact ih
theorem jE(f:Str)(v:V):∀fs:List (Str×V),f∈(a7 f v fs).map (·.1)∧∀g,g∈fs.map (·.1)→g∈(a7 f v fs).map (·.1)
 |[]=>⟨by simp[a7],λg h=>by simp at h⟩
 |(k,x)::r=>by
  obtain⟨i1,i2⟩:=jE f v r;rw[show a7 f v ((k,x)::r)=(if k=f then (k,v)::r else (k,x)::a7 f v r) from rfl];by_cases hk:k=f
  ·rw[if_pos hk];subst hk;exact⟨by simp,λg h=>by simpa using h⟩
  ·rw[if_neg hk];refine⟨?_,λg h=>?_⟩
   ·rw[rQ];exact rB _ i1
   ·rw[rQ]at h ⊢;rcases rC.mp h with e|e
    ·exact rC.mpr (.inl e)
    ·exact rB _ (i2 g e)
theorem j1(f:Str)(v:V):∀fs:List (Str×V),(a7 f v fs).length≤fs.length+1
 |[]=>by simp[a7]
 |(k,x)::r=>by
  have ih:=j1 f v r;rw[show a7 f v ((k,x)::r)=(if k=f then (k,v)::r else (k,x)::a7 f v r) from rfl];by_cases hk:k=f
  ·rw[if_pos hk,rP,rP];omega
  ·rw[if_neg hk,rP,rP];omega
theorem fV.some_of{v:V}{o:Option Value}(r:fV (some v) o):∃u,o=some u∧bg v u:=by
 cases o with
 |none=>exact(show False from r).elim
 |some u=>exact tF u rfl r
theorem fV.none_of{o:Option Value}(r:fV none o):o=none:=by
 cases o with
 |none=>rfl
 |some u=>exact(show False from r).elim
theorem handed_of{v:V}{u:Value}(r:bg v u):PySem.W.handedIn u=true:=by
 cases v with
 |non=>cases (show u=Value.none from r);rfl
 |bl b=>cases (show u=Value.bool b from r);rfl
 |int i=>obtain⟨t,e⟩:=(show ∃t,u=Value.int i t from r);cases e;rfl
 |str x=>obtain⟨t,e⟩:=(show ∃t,u=Value.str x t from r);cases e;rfl
 |byt b=>obtain⟨t,e⟩:=(show ∃t,u=Value.bytes b t from r);cases e;rfl
 |flt b=>obtain⟨t,e⟩:=(show ∃t,u=Value.float b t from r);cases e;rfl
 |ref a=>cases (show u=Value.ref a from r);rfl
 |ty n=>cases (show u=Value.type n from r);rfl
section
variable {P:Program} {w:World} {H H':Hp} {h h':Heap} {a C dx:Addr} {fs fs':List (Str×V)}
theorem ou(hok:HOk P w H h)(e:H a=some (.ins C dx fs)):∃mA,ObjM h a dx C mA∧(∀f,fV (fs.lookup f) (mA f))∧PySem.Within mA (fs.map (·.1))∧fs.length≤1000∧H dx=some (.own a):=by
 obtain⟨d,z,ne,ob,mA,n,r,q⟩:=(show bI P w H h a (.ins C dx fs) from hok a _ e)
 exact t8 mA ⟨ob,n,ne⟩ r q z d
end
structure Cls(K:fG)(C:Addr):Prop where
 pg:PySem.W.plainGet K C Str.empty=true
 hd:PySem.W.hasDictIn K C=true
 po:PySem.W.plainOver K C=true
 sa:PySem.W.findIn K (.ref C) "__setattr__" = some (some (.builtin "object.__setattr__"))
theorem Cls.get{K:fG}{C:Addr}(c:Cls K C)(f:Str):PySem.W.plainGet K C f=true:=c.pg
def c7(K:fG)(C:Addr)(f:Str):Prop:=PySem.W.findIn K (.ref C) f=some none
theorem c7.taker{K:fG}{C:Addr}{f:Str}(n:c7 K C f):PySem.W.takerIn K C f=some none:=by
 unfold PySem.W.takerIn;rw[show PySem.W.findIn K (.ref C) f=some none from n];rfl
structure Meth(K:fG)(C:Addr)(m:Str)(f:Addr):Prop where
 at_:PySem.W.findIn K (.ref C) m=some (some (.ref f))
 fn:PySem.W.isFn K (.ref f)=true
 kp:PySem.W.keepIn K (.ref f)=true
section
variable {X:Cx} {pins:List (Addr×Obj)} {σ:St} {H:Hp} {s:Shared} {a C dx:Addr} {fs:List (Str×V)} {f:Str} {v:V} {A:Around} {E:Value→Shared→Prop}
theorem qY{b:Bool}{Q:Value→Shared→Prop}(I:Inv X pins σ H s)(e:H a=some (.ins C dx fs))(c:Cls X.K C)(n:c7 X.K C f)(l:fs.lookup f=some v)(h:∀u s',Inv X pins σ H s'→bg v u→Q u s'):wpAny (model X.prog X.w) A (getAttr (.ref a) f b) Q E s:=by
 obtain⟨mA,O,r,_,_,_⟩:=ou I.hok e;obtain⟨u,hu,ru⟩:=fV.some_of (v:=v) (o:=mA f) (by rw[←l];exact r f);exact get_map I.kIn O (c.get f) c.hd n hu (handed_of ru) (h u _ (I.tok _) ru)
theorem iG{m:Str}{g:Addr}{pl:Sem Bool}{Q:Value×List Value→Shared→Prop}(I:Inv X pins σ H s)(e:H a=some (.ins C dx fs))(c:Cls X.K C)(k:Meth X.K C m g)(l:fs.lookup m=none)(h:Q (.ref g,[.ref a]) s):wpAny (model X.prog X.w) A (getMethod (.ref a) m pl) Q E s:=by
 obtain⟨mA,O,r,_,_,_⟩:=ou I.hok e;have hn:mA m=none:=fV.none_of (by rw[←l];exact r m);exact get_meth I.kIn O (c.get m) k.at_ k.fn hn h
theorem qF{y:V}{u:Value}{Q:Unit→Shared→Prop}(I:Inv X pins σ H s)(e:H a=some (.ins C dx fs))(c:Cls X.K C)(n:c7 X.K C f)(hl:fs.length<1000)(ry:bg y u)(h:∀s',Inv X pins σ (upd H a (.ins C dx (a7 f y fs))) s'→Q () s'):wpAny (model X.prog X.w) A (setAttr (.ref a) f u) Q E s:=by
 obtain⟨mA,O,r,wi,_,ho⟩:=ou I.hok e;have hz:(fs.map (·.1)).length≤sizeLine:=by rw[rR,sizeLine_eq];omega
 refine set_map I.kIn O c.sa c.po n.taker c.hd wi hz λh' O' sb=>h _ ?_;have hd:∃o,h'.get? dx=some o:=let ⟨o,_,_,e',_⟩:=O'.ns;⟨o,e'⟩;refine I.write (x:=a) (e:=dx) (by rw[e];exact True.intro) (.inr ho) (λb q hb z=>(sb.2 b hb).trans z) hd ?_;refine⟨by rw[af O.ne];exact ho,?_,O.ne,O'.obj,_,O'.ns,λg=>?_,λg hg=>?_⟩
 ·have:=j1 f y fs;omega
 ·show fV ((a7 f y fs).lookup g) (if g=f then some u else mA g);rw[bj];by_cases q:g=f
  ·rw[if_pos q,if_pos q];exact ry
  ·rw[if_neg q,if_neg q];exact r g
 ·by_cases q:g=f
  ·rw[q];exact(jE f y fs).1
  ·refine(jE f y fs).2 g (wi g λz=>hg ?_);show(if g=f then some u else mA g)=none;rw[if_neg q];exact z
theorem Inv.made(I:Inv X pins σ H s):Inv X pins σ (upd (upd H s.heap.objs.size (.own (s.heap.objs.size+1))) (s.heap.objs.size+1) (.ins C s.heap.objs.size []))
  {s with heap:=(s.heap.push PySem.W.emptyDict).push (PySem.W.instObj C s.heap.objs.size)}:=by
 have e1:(s.heap.push PySem.W.emptyDict).get? s.heap.objs.size=some PySem.W.emptyDict:=rK s.heap rfl;have e2:((s.heap.push PySem.W.emptyDict).push (PySem.W.instObj C s.heap.objs.size)).get? (s.heap.objs.size+1)=some (PySem.W.instObj C s.heap.objs.size):=by
  have:=rK (s.heap.push PySem.W.emptyDict) (o:=PySem.W.instObj C s.heap.objs.size) rfl
  rwa [rS]at this
 have e3:(s.heap.push PySem.W.emptyDict).Ns s.heap.objs.size (λ_=>none):=tI PySem.W.emptyDict (#[]) _ e1 rfl (λe he=>absurd he (by simp)) (λ_=>rfl)
 have I1:=I.laid (a:=s.heap.objs.size) (o:=.own (s.heap.objs.size+1)) (h':=s.heap.push PySem.W.emptyDict) (t':=s.toks) (λb u q=>rJ _ q) (rL _) ⟨_,e1⟩;refine I1.laid (a:=s.heap.objs.size+1) (o:=.ins C s.heap.objs.size []) (t':=s.toks) (λb u q=>rJ _ q) (Nat.le_of_eq (rS _ _)) ?_;have ne:s.heap.objs.size≠s.heap.objs.size+1:=rm (Nat.lt_succ_self _);refine ud (by rw[af ne,ac]) (rO _) ne (uk e2 (λ_=>none) ((Heap.Ns1.of_empty e3).at λo q=>rJ _ q) (λ_=>True.intro) (λy hy=>absurd rfl hy))
theorem attr_of{prog:Program}{w:World}{env:Env}{e:Expr}{f:Str}{pos:Pos}{s:Shared}{Q:Value→Shared→Prop}(hb:attributeBase e f env (eval e env)=eval e env)(h:wpAny (model prog w) A (eval e env) (λo s₁=>wpAny (model prog w) A (getAttr o f true) Q E s₁) E s):wpAny (model prog w) A (eval (.Attribute e f pos) env) Q E s :=
 Attribute_any_ h (by rw[arm_eval_Attribute,hb])
end
def tFld(K:fG)(ta:TE)(f:Str):TE:=λσ H Q=>ta σ H λx H1=>∃a C dx fs v,x=.ref a∧H1 a=some (.ins C dx fs)∧Cls K C∧c7 K C f∧fs.lookup f=some v∧Q v H1
def sFld(K:fG)(ta tv:TE)(f:Str):TS:=λD σ H=>tv σ H λy H1=>ta σ H1 λx H2=>∃a C dx fs,x=.ref a∧H2 a=some (.ins C dx fs)∧Cls K C∧c7 K C f∧fs.length<1000 ∧
 D.nx σ (upd H2 a (.ins C dx (a7 f y fs)))
section
variable {X:Cx} {o e value:Expr} {f:Str} {pos pos' tpos:Pos} {ta tv:TE}
theorem ax(he:PE X e ta)(hb:attributeBase e f X.env (eval e X.env)=eval e X.env):PE X (.Attribute e f pos) (tFld X.K ta f):=by
 intro pins s σ H Q I h;refine attr_of hb (thn (he pins s σ H _ I h) λu s1 ⟨x,H1,I1,rx,a,C,dx,fs,v,ex,ea,c,n,l,q⟩=>?_);subst ex;obtain rfl:u=Value.ref a:=rx;exact qY I1 ea c n l λu' s2 I2 ru=>tH v H1 I2 ru q
theorem cR(ha:PE X o ta)(hv:PE X value tv)(hs:swapsWith value (some (.Attribute o f pos')) pos.line X.env=pure false):PS X (.Assign [.Attribute o f pos'] value pos) (sFld X.K ta tv f):=by
 intro pins s σ H D I h;refine plainObj_wpAny_Assign_Attribute (thn (hv pins s σ H _ I h) λu s1 ⟨y,H1,I1,ry,q⟩=>thn (ha pins s1 σ H1 _ I1 q) λov s2 ⟨x,H2,I2,rx,a,C,dx,fs,ex,ea,c,n,l,q2⟩=>?_) hs;subst ex;obtain rfl:ov=Value.ref a:=rx;exact qF I2 ea c n l ry λs3 I3=>tO σ _ I3 q2
end
end L2
namespace L2
open PySem PySem.Spec PyProof.Rows
structure bP(k:Nat)(A:Around):Prop where
 hd:A.handled=none
 dp:A.depth+3*k+5<recursionLimit
 un:A.units+16*k+200<cLine
theorem bP.mono{j k:Nat}{A:Around}(r:bP k A)(h:j≤k):bP j A:=⟨r.hd,by have:=r.dp;omega,by have:=r.un;omega⟩
theorem bP.deeper{k:Nat}{A:Around}(r:bP (k+1) A)(env:Env):bP k (A.deeper env) :=
 ⟨r.hd,by have:=r.dp;show A.depth+1+3*k+5<_;omega,by have:=r.un;show A.units+3+16*k+200<_;omega⟩
theorem qW{A:Around}{C:Addr}{us:List Value}{kw:List (Str×Value)}:(A.under (.builtin "type.__call__" ⟨.ref C::us,kw⟩)).depth=A.depth+1:=by
 first|rfl|simp[Around.under,Code.weight,Code.isCreation,Code.isGuard,Code.isCaller,Code.frames,Code.isFrame,guardIds]
theorem qV{A:Around}{C:Addr}{us:List Value}{kw:List (Str×Value)}:(A.under (.builtin "type.__call__" ⟨.ref C::us,kw⟩)).units=A.units+1:=by
 first|rfl|simp[Around.under,Code.cUnits,Code.frames,Code.isFrame]
theorem bP.make{k:Nat}{A:Around}(r:bP (k+1) A)(C:Addr)(us:List Value)(kw:List (Str×Value)):bP k (A.under (.builtin "type.__call__" ⟨.ref C::us,kw⟩)) :=
 ⟨r.hd,by have:=r.dp;rw[qW];omega,by have:=r.un;rw[qV];omega⟩
theorem bP.depth{k:Nat}{A:Around}(r:bP k A):A.depth<recursionLimit:=by have:=r.dp;omega
theorem bP.units{k:Nat}{A:Around}(r:bP k A):A.units+64<cLine:=by have:=r.un;omega
def tNil:TA:=λ_ H Q=>Q [] H
def ia(ta:TE)(tr:TA):TA:=λσ H Q=>ta σ H λx H1=>tr σ H1 λxs H2=>Q (x::xs) H2
section
variable {X:Cx} {e:Expr} {es:List Expr} {te:TE} {t:TA} {pos:Pos}
theorem ae:PA X [] tNil:=λ_ _ _ _ H Q I h=>Calls.spliced_nil (tH [] H I .nil h)
theorem aa(ha:PE X e te)(hr:PA X es t)(hs:starEach (e::es) X.env=(false,eval e X.env)::starEach es X.env:=by rfl):PA X (e::es) (ia te t):=by
 intro pos pins s σ H Q I h;rw[hs];show wpAny _ _ (spliced ((false,eval e X.env)::backTo pos (starEach es X.env))) _ _ s;refine Calls.spliced_cons (thn (ha pins s σ H _ I h) λu s1 ⟨x,H1,I1,r1,q1⟩=>?_);exact thn (hr pos pins s1 σ H1 _ I1 q1) λus s2 ⟨xs,H2,I2,r2,q2⟩=>tH (x::xs) H2 I2 (.cons r1 r2) q2
def tTup(t:TA):TE:=λσ H Q=>t σ H λxs H1=>xs.length≤sizeLine∧∀p,H1 p=none→Q (.ref p) (upd H1 p (.tup xs))
def tLst(t:TA):TE:=λσ H Q=>t σ H λxs H1=>xs.length≤sizeLine∧∀p,H1 p=none→Q (.ref p) (upd H1 p (.lst xs))
theorem nO{x1}(h:PA X es t):PE X (.Tuple es x1 pos) (tTup t):=by
 intro pins s σ H Q I hq;refine wpAny_Tuple_spliced (thn (h pos pins s σ H _ I hq) λus s1 ⟨xs,H1,I1,r,z,q⟩=>⟨by rw[←r.length];exact z,?_⟩);have hf:H1 s1.heap.objs.size=none:=I1.hok.fresh (rL _);refine tH (.ref s1.heap.objs.size) (upd H1 s1.heap.objs.size (.tup xs)) (I1.laid (t':=s1.toks) (λb u e=>rJ _ e) (rL _) ?_) rfl (q _ hf);exact tX z us r (ux _ (rK _ rfl) rfl _ rfl)
theorem aG(h:PA X es t):PE X (.List es pos) (tLst t):=by
 intro pins s σ H Q I hq;refine wpAny_List_spliced (thn (h pos pins s σ H _ I hq) λus s1 ⟨xs,H1,I1,r,z,q⟩=>⟨by rw[←r.length];exact z,?_⟩);have hf:H1 s1.heap.objs.size=none:=I1.hok.fresh (rL _);refine tH (.ref s1.heap.objs.size) (upd H1 s1.heap.objs.size (.lst xs)) (I1.laid (t':=s1.toks) (λb u e=>rJ _ e) (rL _) ?_) rfl (q _ hf);exact ut z us 0 r (rK _ rfl)
end
abbrev Sp:=List V→Hp→VK→XK→Prop
abbrev CXT:=List Env→Hp→Shared→XK→Value→Shared→Prop
structure Env0(P:Program)(w:World)(K:fG)(mg:Str→Option Value)(base:Heap)(A:Around)(outer:List Env)(s:Shared)(H:Hp):Prop where
 frames:A.frames=some outer
 mod:Mod K mg base
 bs:∀b o,base.get? b=some o→s.heap.get? b=some o∧H b=none
 bsz:base.objs.size≤s.heap.objs.size
 funs:s.heap.FunFrames base outer
 frf:∀b∈frs outer,H b=none
 hok:HOk P w H s.heap
 bare:AllBare s.gens
def CE(outer:List Env)(P:Program)(w:World)(H:Hp)(s:Shared)(Q:VK)(u:Value)(s':Shared):Prop :=
 ∃v H',s'.os=s.os∧AllBare s'.gens∧Un (frs outer) [] H H' s.heap s'.heap∧HOk P w H' s'.heap∧bg v u∧Q v H'
def CR(CX:CXT)(outer:List Env)(P:Program)(w:World)(H:Hp)(s:Shared)(Q:VK)(E:XK)(r:Result)(s':Shared):Prop :=
 match r with
 |.ok (.ret u)=>CE outer P w H s Q u s'
 |.ok _=>False
 |.error e=>CX outer H s E e s'
structure aZ(P:Program)(w:World)(K:fG)(mg:Str→Option Value)(base:Heap)(CX:CXT)(k:Nat)(f:Addr)(fd:FuncData)(ps:List Str)(sp:Sp):Prop where
 len:∀vs H Q E,sp vs H Q E→vs.length=ps.length
 run:∀(A:Around) (outer:List Env) (s:Shared) (H:Hp) (args:Args) (us:List Value) (vs:List V) (Q:VK) (E:XK),bP k A→Env0 P w K mg base A outer s H→BindsTo s fd args (ps.zip us)→aW vs us→sp vs H Q E →
  codeAny (model P w) A (.call (.ref f) args) (CR CX outer P w H s Q E) s
theorem Env0.make{P:Program}{w:World}{K:fG}{mg:Str→Option Value}{base:Heap}{A:Around}{outer:List Env}{s:Shared}{H:Hp}(e:Env0 P w K mg base A outer s H)(C:Addr)(us:List Value)(kw:List (Str×Value)):Env0 P w K mg base (A.under (.builtin "type.__call__" ⟨.ref C::us,kw⟩)) outer s H:=⟨by first|exact e.frames|(simpa [Around.under,Code.envs,Code.isFrame,pushEnvs] using e.frames),e.mod,e.bs,e.bsz,e.funs,e.frf,e.hok,e.bare⟩
section
variable {X:Cx} {pins:List (Addr×Obj)} {σ:St} {H:Hp} {s s':Shared}
theorem Inv.env0(I:Inv X pins σ H s):Env0 X.prog X.w X.K X.mg X.base X.A X.stack s H :=
 ⟨I.ok.frames,I.ok.mod,I.bs,rq I.ok.bsz I.sz,I.stack,I.stkFree,I.hok,I.bare⟩
theorem Inv.after{Q:VK}{u:Value}(I:Inv X pins σ H s)(h:CE X.stack X.prog X.w H s Q u s'):EP X pins σ Q u s':=by
 obtain⟨v,H',os,bare,un,hok,r,q⟩:=h;obtain⟨hh,g,d,t,os'⟩:=s';obtain rfl:os'=s.os:=os;exact tH v H' (I.call (h':=hh) (g':=g) (d':=d) (t':=t) (ch:=[]) un hok bare (λb z=>absurd z (by simp))) r q
end
def tCall(sp:Sp)(dvs:List V)(E:XK)(t:TA):TE:=λσ H Q=>t σ H λvs H1=>sp (vs++dvs) H1 Q E
def tMeth(C:Addr)(m:Str)(sp:Sp)(dvs:List V)(E:XK)(ta:TE)(t:TA):TE:=λσ H Q=>ta σ H λx H1=>∃a dx fs,x=.ref a∧H1 a=some (.ins C dx fs)∧fs.lookup m=none ∧
 t σ H1 λvs H2=>sp (x::(vs++dvs)) H2 Q E
def tMake(C:Addr)(sp:Sp)(dvs:List V)(E:XK)(t:TA):TE:=λσ H Q=>t σ H λvs H1=>∀x dx,H1 x=none→H1 dx=none→dx≠x →
 sp (.ref x::(vs++dvs)) (upd (upd H1 dx (.own x)) x (.ins C dx [])) (λv H2=>v=.non∧Q (.ref x) H2) E
def ck(K:fG)(fd:FuncData)(ps:List Str)(ds:List Value):Prop :=
 ∀(s:Shared) (us:List Value),K.In s.heap→(us++ds).length=ps.length→BindsTo s fd ⟨us,[]⟩ (ps.zip (us++ds))
theorem ck.all{K:fG}{fd:FuncData}{ps:List Str}(h:∀us:List Value,us.length=ps.length→bindArgs fd ⟨us,[]⟩=pure (ps.zip us)):ck K fd ps []:=λs us _ hl=>by
 rw[rT]at hl ⊢;exact .of_eq (h us hl)
def gG(CX:CXT)(X:Cx)(E:XK):Prop:=∀(pins:List (Addr×Obj)) (σ:St) (H:Hp) (s:Shared) (e:Value) (s':Shared),Inv X pins σ H s→CX X.stack H s E e s'→X.xe e s'
section
variable {X:Cx} {CX:CXT} {k:Nat} {f C:Addr} {fd:FuncData} {ps:List Str} {sp:Sp} {dvs:List V} {ds:List Value} {E:XK} {x m:Str} {p pos apos:Pos} {e o:Expr} {es:List Expr} {ta:TE} {t:TA}
theorem nG{pins:List (Addr×Obj)}{σ:St}{H:Hp}{s:Shared}{Q:VK}{us:List Value}{vs:List V}(F:aZ X.prog X.w X.K X.mg X.base CX k f fd ps sp)(hr:bP k X.A)(hb:ck X.K fd ps ds)(hd:aW dvs ds)(hx:gG CX X E)(I:Inv X pins σ H s)(r:aW vs us)(h:sp (vs++dvs) H Q E):wpAny (model X.prog X.w) X.A (call (.ref f) us) (EP X pins σ Q) X.xe s:=by
 have r2:aW (vs++dvs) (us++ds):=r.append hd;have hl:(us++ds).length=ps.length:=by rw[←r2.length];exact F.len _ _ _ _ h
 refine wpAny_call (codeAny_mono (F.run X.A X.stack s H ⟨us,[]⟩ (us++ds) (vs++dvs) Q E hr I.env0 (hb s us I.kIn hl) r2 h) λr s' hq=>?_);cases r with
 |error e=>exact hx pins σ H s e s' I hq
 |ok fl =>
  cases fl with
  |ret u=>exact I.after hq
  |next=>exact False.elim hq
  |brk=>exact False.elim hq
  |cont=>exact False.elim hq
theorem aJ(F:aZ X.prog X.w X.K X.mg X.base CX k f fd ps sp)(hr:bP k X.A)(hg:Gl X x)(hm:X.mg x=some (.ref f))(hk:PySem.W.keepIn X.K (.ref f)=true)(hb:ck X.K fd ps ds)(hd:aW dvs ds)(hx:gG CX X E)(ha:PA X (e::es) t)(hdb:(x==("__debug__" : Str))=false:=by decide)(he:starEach (e::es) X.env=(false,eval e X.env)::starEach es X.env:=by rfl)(hpl:(backTo pos (starEach es X.env)).any (·.1)=false:=by rfl):PE X (.Call (.Name x p) (e::es) [] pos) (tCall sp dvs E t):=by
 intro pins s σ H Q I h;refine wpAny_Call_Name_kw (ko I hg hm ?_ hdb);refine PySem.W.callWith_K (h₀:=X.base) I.ok.mod.kin hk (thn (ha pos pins s σ H _ I h) λus s1 ⟨vs,H1,I1,r,q⟩=>⟨I1.kIn,?_⟩) he hpl;exact nG F hr hb hd hx I1 r q
theorem bM{pl:Sem Bool}(he:PE X o ta)(c:Cls X.K C)(hm:Meth X.K C m f)(F:aZ X.prog X.w X.K X.mg X.base CX k f fd ps sp)(hr:bP k X.A)(hb:ck X.K fd ps ds)(hd:aW dvs ds)(hx:gG CX X E)(ha:PA X (e::es) t)(hst:starEach (e::es) X.env=(false,eval e X.env)::starEach es X.env:=by rfl)(hpl:(backTo pos (starEach es X.env)).any (·.1)=false:=by rfl)(ht:eval (.Call (.Attribute o m apos) (e::es) [] pos) X.env=(do
   let ov ←eval o X.env
   standAt apos.atName
   let (f,first) ←holding [ov] (getMethod ov m pl)
   callWith pos f first (backTo pos (starEach (e::es) X.env)) (backToKw pos (keywordEach [] X.env))):=by rfl):PE X (.Call (.Attribute o m apos) (e::es) [] pos) (tMeth C m sp dvs E ta t):=by
 intro pins s σ H Q I h;refine PySem.W.methodCall_KW (pl:=pl) (thn (he pins s σ H _ I h) λu s1 ⟨x,H1,I1,rx,a,dx,fs,ex,ea,l,q⟩=>?_) ht;subst ex;obtain rfl:u=Value.ref a:=rx;refine iG I1 ea c hm l ?_;refine PySem.W.callWith_K (first:=[.ref a]) (h₀:=X.base) I.ok.mod.kin hm.kp (thn (ha pos pins s1 σ H1 _ I1 q) λus s2 ⟨vs,H2,I2,r,q2⟩=>⟨I2.kIn,?_⟩) hst hpl;exact nG (us:=.ref a::us) (vs:=.ref a::vs) F hr hb hd hx I2 (.cons rfl r) q2
theorem bn{pl:Sem Bool}(he:PE X o ta)(c:Cls X.K C)(hm:Meth X.K C m f)(F:aZ X.prog X.w X.K X.mg X.base CX k f fd ps sp)(hr:bP k X.A)(hb:ck X.K fd ps ds)(hd:aW dvs ds)(hx:gG CX X E)(ht:eval (.Call (.Attribute o m apos) [] [] pos) X.env=(do
   let ov ←eval o X.env
   standAt apos.atName
   let (f,first) ←holding [ov] (getMethod ov m pl)
   callWith pos f first (backTo pos (starEach [] X.env)) (backToKw pos (keywordEach [] X.env))):=by rfl):PE X (.Call (.Attribute o m apos) [] [] pos) (tMeth C m sp dvs E ta tNil):=by
 intro pins s σ H Q I h;refine PySem.W.methodCall_KW (pl:=pl) (thn (he pins s σ H _ I h) λu s1 ⟨x,H1,I1,rx,a,dx,fs,ex,ea,l,q⟩=>?_) ht;subst ex;obtain rfl:u=Value.ref a:=rx;refine iG I1 ea c hm l ?_;exact PySem.W.callWith_K0 (first:=[.ref a]) I1.kIn hm.kp (nG (us:=[.ref a]) (vs:=[.ref a]) F hr hb hd hx I1 (.cons rfl .nil) q)
structure Mk(K:fG)(C f:Addr):Prop where
 makes:PySem.W.makesIn K C=true
 init:PySem.W.findIn K (.ref C) "__init__" = some (some (.ref f))
 fn:PySem.W.isFn K (.ref f)=true
 kp:PySem.W.keepIn K (.ref C)=true
theorem o8{pins:List (Addr×Obj)}{σ:St}{H:Hp}{s:Shared}{Q:VK}{us:List Value}{vs:List V}(M:Mk X.K C f)(F:aZ X.prog X.w X.K X.mg X.base CX k f fd ps sp)(hr:bP (k+1) X.A)(hb:ck X.K fd ps ds)(hd:aW dvs ds)(hx:gG CX X E)(I:Inv X pins σ H s)(r:aW vs us)(h:∀x dx,H x=none→H dx=none→dx≠x→sp (.ref x::(vs++dvs)) (upd (upd H dx (.own x)) x (.ins C dx [])) (λv H2=>v=.non∧Q (.ref x) H2) E):wpAny (model X.prog X.w) X.A (call (.ref C) us) (EP X pins σ Q) X.xe s:=by
 have hq:=h (s.heap.objs.size+1) s.heap.objs.size (I.hok.fresh (Nat.le_succ _)) (I.hok.fresh (rL _)) (rm (Nat.lt_succ_self _));have I2:=Inv.made (C:=C) I;have r2:aW (V.ref (s.heap.objs.size+1)::(vs++dvs)) (Value.ref (s.heap.objs.size+1)::(us++ds)):=.cons rfl (r.append hd);have hl:(Value.ref (s.heap.objs.size+1)::us++ds).length=ps.length:=by
  have e:=r2.length;rw[F.len _ _ _ _ hq]at e;exact e.symm
 refine wpAny_call (make_map (f:=f) I.kIn M.makes M.init (beq_iff_eq.mp M.fn) (codeAny_mono (F.run _ X.stack _ _ ⟨Value.ref (s.heap.objs.size+1)::us,[]⟩ (Value.ref (s.heap.objs.size+1)::(us++ds)) _ _ E (hr.make C us [])
  (I2.env0.make C us []) (hb _ (Value.ref (s.heap.objs.size+1)::us) I2.kIn hl) r2 hq) λr s' hq'=>?_))
 cases r with
 |error e=>exact hx pins σ _ _ e s' I2 hq'
 |ok fl =>
  cases fl with
  |ret u =>
   obtain⟨v,H',I3,rv,ev,q3⟩:=I2.after hq';subst ev;exact⟨rv,(tH (V.ref (s.heap.objs.size+1)) H' I3 rfl q3)⟩
  |next=>exact False.elim hq'
  |brk=>exact False.elim hq'
  |cont=>exact False.elim hq'
theorem pe_make(M:Mk X.K C f)(F:aZ X.prog X.w X.K X.mg X.base CX k f fd ps sp)(hr:bP (k+1) X.A)(hg:Gl X x)(hm:X.mg x=some (.ref C))(hb:ck X.K fd ps ds)(hd:aW dvs ds)(hx:gG CX X E)(ha:PA X (e::es) t)(hdb:(x==("__debug__" : Str))=false:=by decide)(he:starEach (e::es) X.env=(false,eval e X.env)::starEach es X.env:=by rfl)(hpl:(backTo pos (starEach es X.env)).any (·.1)=false:=by rfl):PE X (.Call (.Name x p) (e::es) [] pos) (tMake C sp dvs E t):=by
 intro pins s σ H Q I h;refine wpAny_Call_Name_kw (ko I hg hm ?_ hdb);refine PySem.W.callWith_K (h₀:=X.base) I.ok.mod.kin M.kp (thn (ha pos pins s σ H _ I h) λus s1 ⟨vs,H1,I1,r,q⟩=>⟨I1.kIn,?_⟩) he hpl;exact o8 M F hr hb hd hx I1 r q
theorem pe_make0(M:Mk X.K C f)(F:aZ X.prog X.w X.K X.mg X.base CX k f fd ps sp)(hr:bP (k+1) X.A)(hg:Gl X x)(hm:X.mg x=some (.ref C))(hb:ck X.K fd ps ds)(hd:aW dvs ds)(hx:gG CX X E)(hdb:(x==("__debug__" : Str))=false:=by decide):PE X (.Call (.Name x p) [] [] pos) (tMake C sp dvs E tNil):=by
 intro pins s σ H Q I h;refine wpAny_Call_Name_kw (ko I hg hm ?_ hdb);exact PySem.W.callWith_K0 I.kIn M.kp (o8 (us:=[]) M F hr hb hd hx I .nil h)
end
structure ap(N P:List Str)(sc:Scope):Prop where
 kind:sc.kind=.function
 co:sc.isCoroutine=false
 gen:sc.isGenerator=false
 nd:N.Nodup
 pre:N.take P.length=P
 par:∀x∈P,sc.names.lookup x=some .local∨sc.names.lookup x=some .cell
 nofree:∀y∈sc.names,y.2≠.free
theorem mU{kindOf:Str→Option NameKind}{x:Str}:∀{binds:List (Str×Value)} {m:Str→Option Value},(∀v,(x,v)∉binds)→bindL kindOf binds m x=m x
 |[],_,_=>rfl
 |(n,v)::r,m,h=>by
  unfold bindL;rw[mU λw hw=>h w (rB _ hw)];split
  ·have:x≠n:=by rintro rfl;exact h v rA
   simp[this]
  ·rfl
theorem mW{kindOf:Str→Option NameKind}{x:Str}:∀{binds:List (Str×Value)} {m:Str→Option Value},(∀v,(x,v)∉binds)→bindC kindOf binds m x=m x
 |[],_,_=>rfl
 |(n,v)::r,m,h=>by
  unfold bindC;rw[mW λw hw=>h w (rB _ hw)];split
  ·rfl
  ·have:x≠n:=by rintro rfl;exact h v rA
   simp[this]
theorem mV{kindOf:Str→Option NameKind}{x:Str}{v:Value}:∀{P:List Str} {vs:List Value} {i:Nat} {m:Str→Option Value},P.Nodup→P[i]?=some x→vs[i]?=some v→kindOf x=some .local →
  bindL kindOf (P.zip vs) m x=some v
 |[],_,_,_,_,h,_,_=>by simp at h
 |_::_,[],_,_,_,_,h,_=>by simp at h
 |p::P,w::vs,0,m,nd,h1,h2,hk=>by
  simp at h1 h2;subst h1;subst h2;show bindL kindOf ((p,w)::P.zip vs) m p=_;unfold bindL;rw[mU λv hv=>(rV.mp nd).1 (List.of_mem_zip hv).1,if_pos hk];simp
 |p::P,w::vs,i+1,m,nd,h1,h2,hk=>by
  show bindL kindOf ((p,w)::P.zip vs) m x=_;unfold bindL;exact mV (i:=i) (rV.mp nd).2 (by simpa using h1) (by simpa using h2) hk
theorem mX{kindOf:Str→Option NameKind}{x:Str}{v:Value}:∀{P:List Str} {vs:List Value} {i:Nat} {m:Str→Option Value},P.Nodup→P[i]?=some x→vs[i]?=some v→kindOf x≠some .local →
  bindC kindOf (P.zip vs) m x=some v
 |[],_,_,_,_,h,_,_=>by simp at h
 |_::_,[],_,_,_,_,h,_=>by simp at h
 |p::P,w::vs,0,m,nd,h1,h2,hk=>by
  simp at h1 h2;subst h1;subst h2;show bindC kindOf ((p,w)::P.zip vs) m p=_;unfold bindC;rw[mW λv hv=>(rV.mp nd).1 (List.of_mem_zip hv).1,if_neg hk];simp
 |p::P,w::vs,i+1,m,nd,h1,h2,hk=>by
  show bindC kindOf ((p,w)::P.zip vs) m x=_;unfold bindC;exact mX (i:=i) (rV.mp nd).2 (by simpa using h1) (by simpa using h2) hk
def start(N:List Str)(vs:List V):St:=vs.map some++rW (N.length-vs.length) none
def cxOf(CX:CXT)(P:Program)(w:World)(K:fG)(mg:Str→Option Value)(base:Heap)(N:List Str)(qual:Str)(scope:Scope)(f:Addr)(cd:Value)(A:Around)(outer:List Env)(s:Shared)(H:Hp)(E:XK):Cx where
 prog:=P
 w:=w
 K:=K
 mg:=mg
 base:=base
 A:=A.deeper (envOfC qual scope s.heap.objs.size f cd)
 N:=N
 s_0:=s
 H_0:=H
 env:=envOfC qual scope s.heap.objs.size f cd
 outer:=outer
 stack:=envOfC qual scope s.heap.objs.size f cd::outer
 ex:=[]
 calm:=true
 fn:=λ_=>true
 pn:=[]
 xe:=λe s'=>wpAny (model P w) (A.deeper (envOfC qual scope s.heap.objs.size f cd)) (leaving (envOfC qual scope s.heap.objs.size f cd) e) (λ_ s''=>CX outer H s E e s'') (λe' s''=>CX outer H s E e' s'') s'
theorem qk{sc:Scope}{n:Nat}{x:Str}(h:sc.names.lookup x=some .cell):∃c,(cellsFrom n sc.names []).lookup x=some c:=by
 have q:=PySem.W.cellsFrom_some sc.names n [] (.inl h);exact Option.isSome_iff_exists.mp q
theorem inv_start{CX:CXT}{P:Program}{w:World}{K:fG}{mg:Str→Option Value}{base:Heap}{N ps:List Str}{qual:Str}{scope:Scope}{f:Addr}{cd:Value}{A:Around}{outer:List Env}{s s1:Shared}{H:Hp}{E:XK}{us:List Value}{vs:List V}(S:ap N ps scope)(hd:A.handled=none)(e0:Env0 P w K mg base A outer s H)(hl:vs.length=ps.length)(r:aW vs us)(x:InCallC s s.heap.objs.size (bindL (envOfC qual scope s.heap.objs.size f cd).kindOf (ps.zip us) λ_=>none) (cellsFrom (s.heap.objs.size+1) scope.names []) (bindC (envOfC qual scope s.heap.objs.size f cd).kindOf (ps.zip us) λ_=>none) s1):Inv (cxOf CX P w K mg base N qual scope f cd A outer s H E) [] (start N vs) H s1:=by
 have hpl:ps.length≤N.length:=by have:=congrArg List.length S.pre;rw[rX]at this;omega
 obtain⟨h1,tk,rfl,hk⟩:=x.done;have noA:∀b:Addr,b∉(cxOf CX P w K mg base N qual scope f cd A outer s H E).ex:=λb z=>absurd (show b∈([]:List Addr) from z) (by simp);refine⟨⟨e0.mod,S.kind,rfl,rfl,rL _,λy z c h1 h2=>?_,λy hy=>?_,λy c _ h=>?_,λ_=>hd,Around.frames_deeper e0.frames,.inr ⟨rfl,rfl⟩,λb z=>absurd z (noA b),e0.bs,e0.bsz,λb _ _=>noA b,λb z=>absurd z (noA b),e0.funs,e0.frf⟩,
  rfl,e0.bare,Un.kept hk,(tF _ x.toInCall.ns (λi y v h1 h2 h3=>?_)),λy c h=>⟨_,x.cell y c h⟩,e0.hok.fresh (rL _),λy c h=>?_,λp hp=>absurd (show p∈([]:List (Addr×Obj)) from hp) (by simp),e0.hok.kept hk,?_⟩
 ·exact name_of_addr x.apart (PySem.mem_of_lookup h1) (PySem.mem_of_lookup h2)
 ·have hy:scope.names.lookup y=some .cell∨scope.names.lookup y=some .free:=hy;rcases hy with hy|hy
  ·exact qk hy
  ·exact absurd rfl (S.nofree _ (PySem.mem_of_lookup hy))
 ·exact Nat.le_of_lt (x.above y c (PySem.mem_of_lookup h))
 ·have hi:i<vs.length:=by
   unfold start at h2;by_cases hi:i<vs.length
   ·exact hi
   ·rw[rY (by simpa using hi)]at h2;rw[List.getElem?_replicate]at h2;split at h2<;>cases h2
  have ha:vs[i]?=some v:=by
   unfold start at h2;rw[rZ (by simpa using hi),r6]at h2;cases e:vs[i]? with
   |none=>rw[e]at h2;cases h2
   |some a=>rw[e]at h2;cases h2;rfl
  obtain⟨u,hu,rv⟩:=r.get ha;have hp:ps[i]?=some y:=by
   rw[←S.pre,List.getElem?_take_of_lt (by omega)];exact h1
  have ndP:ps.Nodup:=by rw[←S.pre];exact S.nd.sublist (List.take_sublist _ _)
  refine tF u rv ?_;rcases S.par y (r8 hp) with k|k
  ·exact .inl ⟨k,mV ndP hp hu k⟩
  ·obtain⟨c,e⟩:=qk (n:=s.heap.objs.size+1) k;refine .inr (tX (.inl k) c e ?_);have q:=x.cell y c e;rw[mX ndP hp hu (by show scope.names.lookup y≠_;rw[k];decide)]at q;exact q
 ·exact e0.hok.fresh (Nat.le_of_lt (x.above y c (PySem.mem_of_lookup h)))
 ·unfold start;show _=N.length;rw[r9,rR,sf];omega
theorem fn_of{CX:CXT}{P:Program}{w:World}{K:fG}{mg:Str→Option Value}{base:Heap}{k:Nat}{f:Addr}{name qual:Str}{params:Arguments}{body:List Stmt}{scope:Scope}{dV kV doc pm cdv ct oc:Value}{an od:Option Addr}{osl:Array (Option Value)}{N ps:List Str}{sp:Sp}(lk:K.lookup f=some ⟨oc,od,.func (PySem.W.fnOf name qual params body scope dV kV doc pm an cdv ct),osl⟩)(hcd:PySem.W.codeIn K cdv qual=true)(S:ap N ps scope)(len:∀vs H Q E,sp vs H Q E→vs.length=ps.length)(hbody:∀(A:Around) (outer:List Env) (s:Shared) (H:Hp) (vs:List V) (Q:VK) (E:XK),bP k (A.deeper (envOfC qual scope s.heap.objs.size f cdv))→sp vs H Q E →
   ∃t,PSs (cxOf CX P w K mg base N qual scope f cdv A outer s H E) body t∧t {nx:=λ_ H'=>Q .non H',rt:=Q} (start N vs) H):aZ P w K mg base CX (k+1) f (PySem.W.fnOf name qual params body scope dV kV doc pm an cdv ct) ps sp:=by
 refine⟨len,λA outer s H args us vs Q E hr e0 hb r hsp=>?_⟩;have hl:=len _ _ _ _ hsp;have KX:K.In s.heap:=e0.mod.kin.keeps λb o e=>(e0.bs b o e).1;have lim:s.heap.NoLimit:=e0.mod.nolimit.keeps λb o e=>(e0.bs b o e).1;have hkind:∀y∈ps.zip us,scope.names.lookup y.1=some .local∨(scope.names.lookup y.1=some .cell∧((cellsFrom (s.heap.objs.size+1) scope.names []).lookup y.1).isSome=true):=λ⟨n,v⟩ hy=>by
  rcases S.par n (List.of_mem_zip hy).1 with q|q
  ·exact .inl q
  ·exact .inr ⟨q,PySem.W.cellsFrom_some _ _ _ (.inl q)⟩
 refine codeAny_call_function hr.depth (KX _ _ lk) rfl S.co S.gen rfl (PySem.W.codeRec_of KX hcd) (hb _ _ _ _ ?_);refine wpAny_newFunctionEnv_cells S.kind hkind λenv he s1 x=>?_;subst he;refine⟨lim.keeps x.toInCall.keep,codeAny_func ?_⟩;obtain⟨t,ht,hq⟩:=hbody A outer s H vs Q E (hr.deeper _) hsp;have I:Inv (cxOf CX P w K mg base N qual scope f cdv A outer s H E) [] (start N vs) H s1:=inv_start S hr.hd e0 hl r x;refine wpAny_mono (ht [] s1 (start N vs) H _ I hq) (λfl s' hs=>?_) λe s' hs=>hs;have fin:∀{σ':St} {H':Hp} {v:V} {u:Value},Inv (cxOf CX P w K mg base N qual scope f cdv A outer s H E) [] σ' H' s'→bg v u→Q v H'→CE outer P w H s Q u s' :=
  λ{σ' H' v u} J rv q=>⟨v,tJ H' J.os J.bare J.base J.hok rv q⟩
 cases fl with
 |ret u =>
  obtain⟨v,σ',H',J,rv,q⟩:=hs;exact fin J rv q
 |next =>
  obtain⟨σ',H',J,q⟩:=hs;exact fin (v:=V.non) (u:=Value.none) J rfl q
 |brk =>
  obtain⟨_,_,_,q⟩:=hs;exact False.elim q
 |cont =>
  obtain⟨_,_,_,q⟩:=hs;exact False.elim q
end L2
namespace L2
open PySem PySem.Spec PyProof.Rows
section
variable {X:Cx} {x:Str} {p pos:Pos} {e:Expr} {es:List Expr} {t:TA} {id T:String} {r:List V→Hp→VK→Prop}
def tCB(r:List V→Hp→VK→Prop)(t:TA):TE:=λσ H Q=>t σ H λvs H1=>r vs H1 Q
theorem aM(hc:j8 X (.builtin id) r)(hg:Gl X x)(hm:X.mg x=none)(hv:bootBuiltins x=some (.builtin id))(ha:PA X (e::es) t)(hn:x≠"__name__":=by decide)(hdb:(x==("__debug__" : Str))=false:=by decide)(he:starEach (e::es) X.env=(false,eval e X.env)::starEach es X.env:=by rfl)(hpl:(backTo pos (starEach es X.env)).any (·.1)=false:=by rfl):PE X (.Call (.Name x p) (e::es) [] pos) (tCB r t):=by
 intro pins s σ H Q I h;refine wpAny_Call_Name_kw (eD I hg hm hv ?_ hn hdb);exact PyProof.Rows.callWith_builtin1 (thn (ha pos pins s σ H _ I h) λus s1 ⟨vs,H1,I1,r1,q1⟩=>hc pins s1 σ H1 vs us Q I1 r1 q1) he hpl
theorem da(hc:j8 X (.type T) r)(hg:Gl X x)(hm:X.mg x=none)(hv:bootBuiltins x=some (.type T))(ha:PA X (e::es) t)(hn:x≠"__name__":=by decide)(hdb:(x==("__debug__" : Str))=false:=by decide)(he:starEach (e::es) X.env=(false,eval e X.env)::starEach es X.env:=by rfl)(hpl:(backTo pos (starEach es X.env)).any (·.1)=false:=by rfl):PE X (.Call (.Name x p) (e::es) [] pos) (tCB r t):=by
 intro pins s σ H Q I h;refine wpAny_Call_Name_kw (eD I hg hm hv ?_ hn hdb);exact PyProof.Rows.callWith_type1 (thn (ha pos pins s σ H _ I h) λus s1 ⟨vs,H1,I1,r1,q1⟩=>hc pins s1 σ H1 vs us Q I1 r1 q1) he hpl
end
end L2
namespace HT
open PySem PyProof.Rows
section
variable {prog:Program} {w:World} {A:Around} {E:Value→Shared→Prop} {s:Shared}
def sIx(n d:Nat):Option Int→Nat
 |none=>d
 |some v=>if v<0 then (v+(n:Int)).toNat else min v.toNat n
theorem sIx_nat(n d k:Nat):sIx n d (some (k:Int))=min k n:=by
 show(if (k:Int)<0 then ((k:Int)+(n:Int)).toNat else min (k:Int).toNat n)=min k n;rw[if_neg (by omega),Int.toNat_natCast]
end
end HT
namespace L2
open PySem PySem.Spec PyProof.Rows
abbrev TO:=St→Hp→(Option Int→Hp→Prop)→Prop
def PO(X:Cx)(e:Option Expr)(t:TO):Prop :=
 ∀(pins:List (Addr×Obj)) (s:Shared) (σ:St) (H:Hp) (Q:Option Int→Hp→Prop),Inv X pins σ H s→t σ H Q →
  wpAny (model X.prog X.w) X.A (evalPart e X.env) (λu s'=>∃o H',Inv X pins σ H' s'∧IsPart u o∧Q o H') X.xe s
def tPart(t:TE):TO:=λσ H Q=>t σ H λx H1=>∃i,x=.int i∧Q (some i) H1
section
variable {X:Cx} {e:Expr} {te:TE} {lo hi:Option Expr} {tl th:TO} {pos p2:Pos}
theorem po_some(h:PE X e te):PO X (some e) (tPart te):=by
 intro pins s σ H Q I hw;rw[evalPart_some];refine thn (h pins s σ H _ I hw) λu s1 ⟨x,H1,I1,r1,q1⟩=>?_;obtain⟨i,rfl,q⟩:=q1;obtain⟨t,rfl⟩:=r1;exact tH (some i) H1 I1 (.int i t) q
def SlR(X:Cx)(r:V→Option Int→Option Int→Hp→VK→Prop):Prop :=
 ∀(pins:List (Addr×Obj)) (s:Shared) (σ:St) (H:Hp) (x:V) (v vl vu:Value) (lo hi:Option Int) (sl:Addr) (Q:VK),Inv X pins σ H s→bg x v→s.heap.IsSliceOf sl vl vu .none→IsPart vl lo→IsPart vu hi→r x lo hi H Q →
  ∃T id,typeLookup (.type T) "__getitem__" = pure (some (.builtin id))∧s.TypeIs v T∧wpAny (model X.prog X.w) X.A (getItem v (.ref sl)) (EP X pins σ Q) X.xe s
def tSl(r:V→Option Int→Option Int→Hp→VK→Prop)(te:TE)(tl th:TO):TE:=λσ H Q=>te σ H λx H1=>tl σ H1 λl H2=>th σ H2 λu H3=>r x l u H3 Q
theorem pe_slice{r:V→Option Int→Option Int→Hp→VK→Prop}(hr:SlR X r)(he:PE X e te)(hl:PO X lo tl)(hu:PO X hi th):PE X (.Subscript e (.Slice lo hi none p2) pos) (tSl r te tl th):=by
 intro pins s σ H Q I h;refine Subscript_ (thn (he pins s σ H _ I h) λv s1 ⟨x,H1,I1,r1,q1⟩=>?_);refine wpAny_Slice (thn (hl pins s1 σ H1 _ I1 q1) λvl s2 ⟨l,H2,I2,pl,q2⟩=>thn (hu pins s2 σ H2 _ I2 q2) λvu s3 ⟨u,H3,I3,pu,q3⟩=>?_);rw[evalPart_none];refine wpAny_pure ?_;have I4:Inv X pins σ H3 {s3 with heap:=s3.heap.push {cls:=.type "slice",data:=.fields #[vl,vu,.none]}}:=I3.kept (t':=s3.toks) λb ob q=>rJ _ q;obtain⟨T,id,hT,ht,hg⟩:=hr pins {s3 with heap:=s3.heap.push {cls:=.type "slice",data:=.fields #[vl,vu,.none]}} σ H3 x v vl vu l u s3.heap.objs.size Q I4 r1 (Heap.IsSliceOf.new ..) pl pu q3;show wpAny (model X.prog X.w) X.A (subscriptTail e (.Slice lo hi none p2) v (.ref s3.heap.objs.size)) (EP X pins σ Q) X.xe {s3 with heap:=s3.heap.push {cls:=.type "slice",data:=.fields #[vl,vu,.none]}};exact tail_any (ops:=[.ref s3.heap.objs.size,v]) ht hT hg (by with_unfolding_all rfl)
def cutV(xs:List V)(lo hi:Option Int):List V:=(xs.drop (HT.sIx xs.length 0 lo)).take (HT.sIx xs.length xs.length hi-HT.sIx xs.length 0 lo)
theorem qj(xs:List V)(lo hi:Option Int):(cutV xs lo hi).length≤xs.length:=by
 unfold cutV;rw[rX,sg];omega
end
end L2
namespace L2
open PySem PySem.Spec PyProof.Rows
def ixN(n:Nat)(i:Int):Option Nat:=if 0≤i then (if i<n then some i.toNat else none) else if -(n:Int)≤i then some (i+n).toNat else none
def atI{α:Type}(xs:List α)(i:Int):Option α:=(ixN xs.length i).bind λj=>xs[j]?
theorem ixN_seq{n:Nat}{i:Int}{j:Nat}(h:ixN n i=some j):seqIndex? i n=some j∧j<n∧-(n:Int)≤i∧i<n:=by
 unfold ixN at h;by_cases h0:0≤i
 ·rw[if_pos h0]at h;by_cases h1:i<n
  ·rw[if_pos h1]at h;have e:i.toNat=j:=Option.some.inj h;exact ud (by rw[seqIndex_of h0 h1,e]) (by omega) (by omega) h1
  ·rw[if_neg h1]at h;cases h
 ·rw[if_neg h0]at h;by_cases h1 : -(n:Int)≤i
  ·rw[if_pos h1]at h;have e:(i+n).toNat=j:=Option.some.inj h;exact ud (by rw[seqIndex_neg (by omega) h1,e]) (by omega) h1 (by omega)
  ·rw[if_neg h1]at h;cases h
theorem oC{α:Type}{xs:List α}{i:Int}{v:α}(h:atI xs i=some v):∃j,seqIndex? i xs.length=some j∧xs[j]?=some v∧j<xs.length∧-(xs.length:Int)≤i∧i<xs.length:=by
 unfold atI at h;cases e:ixN xs.length i with
 |none=>rw[e]at h;cases h
 |some j =>
  rw[e]at h;obtain⟨h1,h2,h3,h4⟩:=ixN_seq e;exact t8 j h1 h h2 h3 h4
theorem aR{α:Type}{xs:List α}{j:Nat}{v:α}(h:xs[j]?=some v):atI xs (j:Int)=some v:=by
 have hj:j<xs.length:=(rE.mp h).1;have e:ixN xs.length (j:Int)=some j:=by
  unfold ixN;rw[if_pos (by omega),if_pos (by omega)];simp
 unfold atI;rw[e];exact h
def PlainIx(b:Expr):Prop:=∀o i,subscripted b false o i=operate [o,i] (getItem o i)
def IxR(X:Cx)(r:R2):Prop :=
 ∀(value slice:Expr) (pins:List (Addr×Obj)) (s:Shared) (σ:St) (H:Hp) (x y:V) (v u:Value) (Q:VK),Inv X pins σ H s→bg x v→bg y u→r x y H Q →
  subscripted slice false v u=operate [v,u] (getItem v u)→wpAny (model X.prog X.w) X.A (subscriptTail value slice v u) (EP X pins σ Q) X.xe s
def MtR(X:Cx)(id:String)(r:V→List V→Hp→VK→Prop):Prop :=
 ∀(pins:List (Addr×Obj)) (s:Shared) (σ:St) (H:Hp) (x:V) (xs:List V) (v:Value) (us:List Value) (Q:VK),Inv X pins σ H s→bg x v→aW xs us→r x xs H Q →
  wpAny (model X.prog X.w) X.A (call (.builtin id) (v::us)) (EP X pins σ Q) X.xe s
section
variable {X:Cx} {a b:Expr} {ta tb:TE} {pos:Pos}
theorem IxR.or{r r':R2}(h:IxR X r)(h':IxR X r'):IxR X (λx y H Q=>r x y H Q∨r' x y H Q):=by
 intro value slice pins s σ H x y v u Q I rx ry q hs;rcases q with q|q
 ·exact h value slice pins s σ H x y v u Q I rx ry q hs
 ·exact h' value slice pins s σ H x y v u Q I rx ry q hs
theorem aU{r:R2}(hr:IxR X r)(ha:PE X a ta)(hb:PE X b tb)(hs:PlainIx b):PE X (.Subscript a b pos) (tOp r ta tb):=by
 intro pins s σ H Q I h;exact Subscript_ (binT ha hb I h λv u s2 x y H2 I2 rx ry q=>hr a b pins s2 σ H2 x y v u Q I2 rx ry q (hs _ _))
def rIxL(K:fG):R2:=λx y H Q=>∃p xs i v,x=.ref p∧y=.int i∧SqL K H p xs∧atI xs i=some v∧Q v H
def rIxT(K:fG):R2:=λx y H Q=>∃p xs i v,x=.ref p∧y=.int i∧SqT K H p xs∧atI xs i=some v∧Q v H
def rIxS:R2:=λx y H Q=>∃z i c,x=.str z∧y=.int i∧z.length≤sizeLine∧atI z.cps.toList i=some c∧Q (.str ⟨#[c]⟩) H
theorem aA:IxR X (rIxL X.K):=by
 intro value slice pins s σ H x y v u Q I rx ry h hs;obtain⟨p,xs,i,z,rfl,rfl,hq,he,q⟩:=h;cases rx;obtain⟨t,rfl⟩:=ry;obtain⟨its,r,pl,hz⟩:=I.list hq;obtain⟨j,h1,h2,h3,h4,h5⟩:=oC he;obtain⟨w,ew,rw'⟩:=r.get h2;have hl:=r.length;have hn:=ln;have fin:EP X pins σ Q w s:=tH z H I rw' q
 by_cases h0:0≤i
 ·have hj:i.toNat=j:=by
   rw[seqIndex_of h0 h5]at h1;exact Option.some.inj h1
  exact item_listR pl.isList h0 (by omega) (by rw[hj];simpa using ew) fin hs
 ·have hj:(i+(its.toArray.size:Int)).toNat=j:=by
   rw[seqIndex_neg (by omega) h4]at h1;rw[sh,←hl];exact Option.some.inj h1
  exact subscriptTail_builtinR (x:=w) pl.isList.typeIs slot_list_getitem.lookup
   (wpAny_getItem_list_neg (Q:=λr s'=>r=w∧EP X pins σ Q r s') pl.isList (by omega) (by rw[sh]<;>omega) (by omega) (by rw[hj];simpa using ew) ⟨rfl,fin⟩) hs
theorem iE:IxR X (rIxT X.K):=by
 intro value slice pins s σ H x y v u Q I rx ry h hs;obtain⟨p,xs,i,z,rfl,rfl,hq,he,q⟩:=h;cases rx;obtain⟨t,rfl⟩:=ry;obtain⟨its,r,pl,hz⟩:=I.tuple hq;obtain⟨j,h1,h2,h3,h4,h5⟩:=oC he;obtain⟨w,ew,rw'⟩:=r.get h2;have hl:=r.length;have hn:=ln;have fin:EP X pins σ Q w s:=tH z H I rw' q
 exact subscriptTail_builtinR (x:=w) pl.typeIs slot_tuple_getitem.lookup
  (getItem_tuple (j:=j) (Q:=λr s'=>r=w∧EP X pins σ Q r s') pl (by omega) (by omega) (by rw[sh,←hl];exact h1) (by simpa using ew) ⟨rfl,fin⟩) hs
theorem ix_str:IxR X rIxS:=by
 intro value slice pins s σ H x y v u Q I rx ry h hs;obtain⟨z,i,c,rfl,rfl,hz,he,q⟩:=h;obtain⟨t,rfl⟩:=rx;obtain⟨t',rfl⟩:=ry;obtain⟨j,h1,h2,h3,h4,h5⟩:=oC he;have hl:z.cps.toList.length=z.length:=by simp[Str.length]
 rw[hl]at h1 h4 h5;have hn:=ln;exact tail_any (typeIs_str s z t) slot_str_getitem.lookup (getItem_str (c:=c) (by
  have e1:decide (i < -(2^63:Int))=false:=decide_eq_false (by omega);have e2:decide (i≥2^63)=false:=decide_eq_false (by omega);rw[e1,e2,Bool.or_false]) (by rw[h1];simpa using h2) (tH (.str ⟨#[c]⟩) H (I.tok _) ⟨_,rfl⟩ q)) hs
def rIx(K:fG):R2:=λx y H Q=>rIxL K x y H Q∨rIxT K x y H Q∨rIxS x y H Q
theorem gw:IxR X (rIx X.K):=aA.or (iE.or ix_str)
theorem qU(its:List Value)(n j:Nat)(u:Value):Obj.mapSeq (·.setIfInBounds j u) {cls:=.type "list",data:=.seq its.toArray n}={cls:=.type "list",data:=.seq (its.set j u).toArray n}:=by
 simp[Obj.mapSeq]
theorem Inv.lst{pins:List (Addr×Obj)}{σ:St}{H:Hp}{s:Shared}{p:Addr}{xs:List V}(I:Inv X pins σ H s)(h:H p=some (.lst xs)):∃(its:List Value) (n:Nat),aW xs its∧s.heap.get? p=some {cls:=.type "list",data:=.seq its.toArray n}∧xs.length≤sizeLine:=by
 obtain⟨z,its,n,r,e⟩:=I.hok p _ h;exact tH its n r e z
theorem Inv.lstUpd{pins:List (Addr×Obj)}{σ:St}{H:Hp}{s:Shared}{p:Addr}{xs ys:List V}{its its':List Value}{n n':Nat}{f:Obj→Obj}(I:Inv X pins σ H s)(h:H p=some (.lst xs))(ho:s.heap.get? p=some {cls:=.type "list",data:=.seq its.toArray n})(hf:f {cls:=.type "list",data:=.seq its.toArray n}={cls:=.type "list",data:=.seq its'.toArray n'})(r:aW ys its')(hz:ys.length≤sizeLine)(t:Nat):Inv X pins σ (upd H p (.lst ys)) {s with heap:=s.heap.update p f,toks:=t}:=by
 have e:(s.heap.update p f).get? p=some {cls:=.type "list",data:=.seq its'.toArray n'}:=by
  rw[Heap.get?_update_self f ho (by rw[hf]<;>rfl),hf]
 refine I.write (x:=p) (e:=p) (by rw[h];trivial) (.inl rfl) (λb u hb q=>(Heap.get?_update_other _ _ (Ne.symm hb)).trans q) ⟨_,e⟩ ?_;exact ut hz its' n' r e
def rSetL:V→V→V→Hp→(Hp→Prop)→Prop:=λo i v H Q=>∃p xs k j,o=.ref p∧i=.int k∧H p=some (.lst xs)∧ixN xs.length k=some j∧Q (upd H p (.lst (xs.set j v)))
theorem eA:PSet X rSetL:=by
 intro pins s σ H o i v ov iv u Q I ro ri rv h;obtain⟨p,xs,k,j,rfl,rfl,hp,hj,q⟩:=h;cases ro;obtain⟨t,rfl⟩:=ri;obtain⟨its,n,r,ho,hz⟩:=I.lst hp;obtain⟨h1,h2,h3,h4⟩:=ixN_seq hj;have hl:=r.length;have hn:=ln;have I':Inv X pins σ (upd H p (.lst (xs.set j v))) {s with heap:=s.heap.update p (Obj.mapSeq (·.setIfInBounds j u))} :=
  I.lstUpd hp ho (qU its n j u) (r.set rv j) (by rw[si];exact hz) s.toks
 by_cases h0:0≤k
 ·have hk:k.toNat=j:=by
   rw[seqIndex_of h0 h4]at h1;exact Option.some.inj h1
  exact PySem.W.ki_setAt ho h0 (by omega) (by rw[sh,←hl];exact h4) (by rw[hk];exact tF _ I' q)
 ·have hk:(k+(its.toArray.size:Int)).toNat=j:=by
   rw[seqIndex_neg (by omega) h3]at h1;rw[sh,←hl];exact Option.some.inj h1
  exact PySem.W.ki_setBack ho (by omega) (by rw[sh,←hl];exact h3) (by omega) (by rw[hk];exact tF _ I' q)
theorem ny(lo hi:Option Int)(n:Nat):(sliceBounds lo hi none n).1=((HT.sIx n 0 lo:Nat):Int)∧(sliceBounds lo hi none n).2.1=((HT.sIx n n hi:Nat):Int)∧(sliceBounds lo hi none n).2.2=1:=by
 refine tS ?_ ?_ rfl
 ·cases lo with
  |none=>simp[sliceBounds,HT.sIx]
  |some i =>
   simp only[sliceBounds,HT.sIx,Option.getD_none,show(1:Int) > 0 by decide,if_true];by_cases h:i<0
   ·simp only[h,if_true]<;>omega
   ·simp only[h,if_false]<;>omega
 ·cases hi with
  |none=>simp[sliceBounds,HT.sIx]
  |some i =>
   simp only[sliceBounds,HT.sIx,Option.getD_none,show(1:Int) > 0 by decide,if_true];by_cases h:i<0
   ·simp only[h,if_true]<;>omega
   ·simp only[h,if_false]<;>omega
theorem lU(its:List Value)(lo hi:Option Int):slicePick its.toArray lo hi none=((its.drop (HT.sIx its.length 0 lo)).take (HT.sIx its.length its.length hi-HT.sIx its.length 0 lo)).toArray:=by
 obtain⟨h1,h2,h3⟩:=ny lo hi its.toArray.size;unfold slicePick;rw[h1,h2,h3];simp only[sliceRange_one,pick_run,sh]<;>rfl
def rSlL(K:fG):V→Option Int→Option Int→Hp→VK→Prop:=λx lo hi H Q=>∃a xs,x=.ref a∧SqL K H a xs∧∀p,H p=none→Q (.ref p) (upd H p (.lst (cutV xs lo hi)))
theorem sl_list:SlR X (rSlL X.K):=by
 intro pins s σ H x v vl vu lo hi sl Q I rx hs pl pu h;obtain⟨a,xs,rfl,hx,q⟩:=h;cases rx;obtain⟨its,r,ht,hz⟩:=I.list hx;have hlen:=r.length;refine tH ("list") _ slot_list_getitem.lookup ht.isList.typeIs ?_;refine wpAny_getItem_list_slice ht.isList hs pl pu .none (by simp) ?_ (by rw[sh]<;>omega);rw[lU,←hlen];refine tH (.ref s.heap.objs.size) _ (I.laid (t':=s.toks) (o:=.lst (cutV xs lo hi)) (λb ob q=>rJ _ q) (rL _) ?_) rfl (q _ (I.hok.fresh (rL _)));exact ut (rq (qj xs lo hi) hz) _ 0 ((r.drop (HT.sIx xs.length 0 lo)).take (HT.sIx xs.length xs.length hi-HT.sIx xs.length 0 lo)) (rK _ rfl)
def j4:V→Bool
 |.non=>true
 |.bl _=>true
 |.int _=>true
 |.str _=>true
 |_=>false
def eqV:V→V→Bool
 |.non,.non=>true
 |.bl a,.bl b=>a==b
 |.bl a,.int b=>(if a then 1 else 0)==b
 |.int a,.bl b=>a==(if b then 1 else 0)
 |.int a,.int b=>a==b
 |.str a,.str b=>a==b
 |_,_=>false
theorem eqAt_V{A:Around}{s:Shared}{y x:V}{u v:Value}(ry:bg y u)(rx:bg x v)(fy:j4 y=true)(fx:j4 x=true):SeqAt.EqAt A s u v (eqV y x):=by
 cases y with
 |non =>
  cases ry;cases x with
  |non=>cases rx;exact SeqAt.EqAt.same _
  |bl b=>cases rx;exact SeqAt.EqAt.none_bool b
  |int b=>obtain⟨t,rfl⟩:=rx;exact SeqAt.EqAt.none_int b t
  |str b=>obtain⟨t,rfl⟩:=rx;exact SeqAt.EqAt.none_str b t
  |_=>exact absurd (show false=true from fx) rG
 |bl a =>
  cases ry;cases x with
  |non=>cases rx;exact SeqAt.EqAt.bool_none a
  |bl b=>cases rx;exact SeqAt.EqAt.bool_bool a b
  |int b=>obtain⟨t,rfl⟩:=rx;exact SeqAt.EqAt.bool_int a b t
  |str b=>obtain⟨t,rfl⟩:=rx;exact SeqAt.EqAt.bool_str a b t
  |_=>exact absurd (show false=true from fx) rG
 |int a =>
  obtain⟨t',rfl⟩:=ry;cases x with
  |non=>cases rx;exact SeqAt.EqAt.int_none a t'
  |bl b=>cases rx;exact SeqAt.EqAt.int_bool a t' b
  |int b=>obtain⟨t,rfl⟩:=rx;exact SeqAt.EqAt.int_int a t' b t
  |str b=>obtain⟨t,rfl⟩:=rx;exact SeqAt.EqAt.int_str a t' b t
  |_=>exact absurd (show false=true from fx) rG
 |str a =>
  obtain⟨t',rfl⟩:=ry;cases x with
  |non=>cases rx;exact SeqAt.EqAt.str_none a t'
  |bl b=>cases rx;exact SeqAt.EqAt.str_bool a t' b
  |int b=>obtain⟨t,rfl⟩:=rx;exact SeqAt.EqAt.str_int a t' b t
  |str b=>obtain⟨t,rfl⟩:=rx;exact SeqAt.EqAt.str_str a t' b t
  |_=>exact absurd (show false=true from fx) rG
 |_=>exact absurd (show false=true from fy) rG
def eqU(x:V)(u:Value):Bool:=match u with
 |.none=>eqV .non x
 |.bool b=>eqV (.bl b) x
 |.int i _=>eqV (.int i) x
 |.str z _=>eqV (.str z) x
 |_=>false
theorem eqU_of{x y:V}{u:Value}(r:bg y u)(f:j4 y=true):eqU x u=eqV y x:=by
 cases y with
 |non=>cases r;rfl
 |bl b=>cases r;rfl
 |int i=>obtain⟨t,rfl⟩:=r;rfl
 |str z=>obtain⟨t,rfl⟩:=r;rfl
 |_=>exact absurd (show false=true from f) rG
theorem oE{x:V}:∀{xs:List V} {us:List Value},aW xs us→xs.all j4=true→us.any (eqU x)=xs.any λy=>eqV y x
 |_,_,.nil,_=>rfl
 |y::xs,u::us,.cons r t,f=>by
  rw[List.all_cons,sj]at f;rw[List.any_cons,List.any_cons,eqU_of r f.1,oE t f.2]
theorem lj{A:Around}{s:Shared}{x:V}{v:Value}(rx:bg x v)(fx:j4 x=true):∀{xs:List V} {us:List Value},aW xs us→xs.all j4=true→∀u∈us,SeqAt.EqAt A s u v (eqU x u)
 |_,_,.nil,_=>λu hu=>by cases hu
 |y::xs,u::us,.cons r t,f=>λu' hu=>by
  rw[List.all_cons,sj]at f;rcases rC.mp hu with rfl|hu
  ·rw[eqU_of r f.1];exact eqAt_V r rx f.1 fx
  ·exact lj rx fx t f.2 u' hu
def inV(x:V)(xs:List V):Bool:=xs.any λy=>eqV y x
def rIn(K:fG)(neg:Bool):R2:=λx y H Q=>∃p xs,y=.ref p∧(SqL K H p xs∨SqT K H p xs)∧j4 x=true∧xs.all j4=true∧Q (.bl (if neg then !inV x xs else inV x xs)) H
theorem jz:OpR X (compareOp .In) (rIn X.K false):=by
 intro pins s σ H x y v u Q I rx ry h;obtain⟨p,xs,rfl,hq,fx,fs,q⟩:=h;cases ry;rcases hq with hq|hq
 ·obtain⟨its,r,pl,hz⟩:=I.list hq;refine SeqAt.in_listAt (eqU x) pl.isList (λw hw=>lj rx fx r fs w (by simpa using hw)) (tH (.bl _) H I rfl ?_);rw[show its.toArray.any (eqU x)=its.any (eqU x) by simp,oE r fs];exact q
 ·obtain⟨its,r,pl,hz⟩:=I.tuple hq;refine SeqAt.in_tupleAt (eqU x) pl (λw hw=>lj rx fx r fs w (by simpa using hw)) (tH (.bl _) H I rfl ?_);rw[show its.toArray.any (eqU x)=its.any (eqU x) by simp,oE r fs];exact q
theorem au:j8 X (.builtin "len") (λxs H Q=>∃p ys,xs=[.ref p]∧(SqL X.K H p ys∨SqT X.K H p ys)∧Q (.int ys.length) H):=by
 intro pins s σ H xs us Q I r h;obtain⟨p,ys,rfl,hq,q⟩:=h;obtain⟨u,rfl,rx⟩:=vals1 r;cases rx;have hn:=ln;rcases hq with hq|hq
 ·obtain⟨its,r',pl,hz⟩:=I.list hq;have hlen:=r'.length;exact Calls.call_len_list pl.isList (by simp only[sh]<;>omega) (tH (.int ys.length) H (I.tok _) ⟨s.toks+1,by rw[sh,hlen]⟩ q)
 ·obtain⟨its,r',pl,hz⟩:=I.tuple hq;have hlen:=r'.length;exact len_tuple pl (by simp only[sh]<;>omega) (tH (.int ys.length) H (I.tok _) ⟨s.toks+1,by rw[sh,hlen]⟩ q)
theorem jk:j8 X (.type "list") (λxs H Q=>∃p ys,xs=[.ref p]∧(SqL X.K H p ys∨SqT X.K H p ys)∧∀l,H l=none→Q (.ref l) (upd H l (.lst ys))):=by
 intro pins s σ H xs us Q I r h;obtain⟨p,ys,rfl,hq,q⟩:=h;obtain⟨u,rfl,rx⟩:=vals1 r;cases rx;have fin:∀(its:List Value),aW ys its→ys.length≤sizeLine→∀(h':Heap) (c':Nat),(∀b o',s.heap.get? b=some o'→h'.get? b=some o') →
   h'.get? s.heap.objs.size=some {cls:=.type "list",dict:=none,data:=.seq its.toArray c',slots:=#[]}→EP X pins σ Q (.ref s.heap.objs.size) {s with heap:=h'}:=λits r' hz h' c' kp e =>
  (tH (.ref s.heap.objs.size) _ (I.laid (t':=s.toks) kp (rL _) (show bI X.prog X.w _ h' _ (.lst ys) from(ut hz its c' r' e))) rfl (q _ (I.hok.fresh (rL _))))
 rcases hq with hq|hq
 ·obtain⟨its,r',pl,hz⟩:=I.list hq;have hlen:=r'.length;obtain⟨o,ho,hc,n,hd⟩:=pl.isList;exact call_list_seq p (.inl rfl) ho hc hd (λh' c' kp e=>fin its r' hz h' c' kp e) (by simp only[sh]<;>omega)
 ·obtain⟨its,r',pl,hz⟩:=I.tuple hq;have hlen:=r'.length;obtain⟨o,ho,hc,n,hd⟩:=pl;exact call_list_seq p (.inr rfl) ho hc hd (λh' c' kp e=>fin its r' hz h' c' kp e) (by simp only[sh]<;>omega)
theorem cy:j8 X (.type "tuple") (λxs H Q=>∃p ys,xs=[.ref p]∧((SqL X.K H p ys∧∀l,H l=none→Q (.ref l) (upd H l (.tup ys)))∨(SqT X.K H p ys∧Q (.ref p) H))):=by
 intro pins s σ H xs us Q I r h;obtain⟨p,ys,rfl,h⟩:=h;obtain⟨u,rfl,rx⟩:=vals1 r;cases rx;rcases h with⟨hq,q⟩|⟨hq,q⟩
 ·obtain⟨its,r',pl,hz⟩:=I.list hq;have hlen:=r'.length;refine call_tuple_list pl.isList (λh' kp=>?_) (by simp only[sh]<;>omega);have I1:Inv X pins σ H {s with heap:=h'}:=I.kept (t':=s.toks) kp;have I2:Inv X pins σ (upd H h'.objs.size (.tup ys)) {s with heap:=h'.push {cls:=.type "tuple",data:=.seq its.toArray}} :=
   I1.laid (t':=s.toks) (λb o e=>rJ _ e) (rL _) (show bI X.prog X.w _ _ _ (.tup ys) from(tX hz its r' (IsTup.new _ _)))
  exact tH (.ref h'.objs.size) _ I2 rfl (q _ (I1.hok.fresh (rL _)))
 ·obtain⟨its,r',pl,hz⟩:=I.tuple hq;exact call_tuple_same pl (tH (.ref p) H I rfl q)
def tyV(K:fG)(T:String)(x:V)(H:Hp):Prop:=match x with
 |.str _=>T="str"
 |.int _=>T="int"
 |.ref p=>(T="list"∧∃xs,SqL K H p xs)∨(T="tuple"∧∃o,K.lookup p=some o∧o.cls=.type "tuple"∧o.dict=none) ∨
   (T="dict"∧((∃kvs,H p=some (.dK kvs))∨∃kvs,H p=some (.dT kvs)))∨(T="set"∧∃S n,H p=some (.set S n))
 |_=>False
theorem tyV_is{pins:List (Addr×Obj)}{σ:St}{H:Hp}{s:Shared}{T:String}{x:V}{v:Value}(I:Inv X pins σ H s)(r:bg x v)(ty:tyV X.K T x H):s.TypeIs v T∧∀a,v=.ref a→∃ob,s.heap.get? a=some ob∧ob.dict=none:=by
 cases x with
 |str z =>
  obtain⟨t,rfl⟩:=r;cases (show T="str" from ty);exact⟨typeIs_str s z t,λ_ e=>nomatch e⟩
 |int i =>
  obtain⟨t,rfl⟩:=r;cases (show T="int" from ty);exact⟨typeIs_int s i t,λ_ e=>nomatch e⟩
 |ref p =>
  cases r;rcases ty with⟨rfl,xs,hq⟩|⟨rfl,o,hk,hc,hd⟩|⟨rfl,hk⟩|⟨rfl,S,n,hk⟩
  ·obtain⟨its,_,pl,_⟩:=I.list hq;refine⟨pl.isList.typeIs,λa e=>?_⟩;cases e;obtain⟨o,n,e,c,hd,_⟩:=pl;exact tF o e hd
  ·refine⟨(tF o (I.kIn p o hk) hc),λa e=>?_⟩;cases e;exact tF o (I.kIn _ o hk) hd
  ·have z:∃o,s.heap.get? p=some o∧o.ExactDict:=by
    rcases hk with⟨kvs,hk⟩|⟨kvs,hk⟩
    ·obtain⟨_,_,_,_,o,_,_,e,ex,_⟩:=I.hok p _ hk;exact tF o e ex
    ·obtain⟨_,_,_,_,o,_,_,e,ex,_⟩:=I.hok p _ hk;exact tF o e ex
   obtain⟨o,e,ex⟩:=z;refine⟨(tF o e ex.1),λa e2=>?_⟩;cases e2;exact tF o e ex.2.1
  ·obtain⟨o,_,_,_,e,ex,_⟩:=I.hok p _ hk;refine⟨(tF o e ex.1),λa e2=>?_⟩;cases e2;exact tF o e ex.2.1
 |_=>exact False.elim ty
def tBM0(K:fG)(T:String)(r:V→List V→Hp→VK→Prop)(to:TE):TE:=λσ H Q=>to σ H λx H1=>tyV K T x H1∧r x [] H1 Q
def tBM(K:fG)(T:String)(r:V→List V→Hp→VK→Prop)(to:TE)(t:TA):TE:=λσ H Q=>to σ H λx H1=>tyV K T x H1∧t σ H1 λxs H2=>r x xs H2 Q
variable {o e:Expr} {es:List Expr} {to:TE} {t:TA} {name:Str} {apos cpos:Pos} {T id:String} {r:V→List V→Hp→VK→Prop}
theorem pe_bm0(pa:PlainAttrs T)(slot:Slot T name id)(hty:typeOf (.builtin id)=pure (.type "method_descriptor"))(hm:MtR X id r)(ho:PE X o to)(hbase:attributeBase o name X.env (eval o X.env)=eval o X.env:=by rfl)(hline:(apos.endLine==cpos.line)=true:=by rfl):PE X (.Call (.Attribute o name apos) [] [] cpos) (tBM0 X.K T r to):=by
 intro pins s σ H Q I h;refine wpAny_Call_method0_late hbase hline (thn (ho pins s σ H _ I h) λv s1 ⟨x,H1,I1,r1,ty,q1⟩=>?_);obtain⟨h1,h2⟩:=tyV_is I1 r1 ty;exact⟨T,tJ id pa slot hty h1 h2 (Calls.callWith_builtin rfl (PySem.evalArgs_none (hm pins s1 σ H1 x [] v [] Q I1 r1 .nil q1)))⟩
theorem fP(pa:PlainAttrs T)(slot:Slot T name id)(hty:typeOf (.builtin id)=pure (.type "method_descriptor"))(hm:MtR X id r)(ho:PE X o to)(ha:PA X (e::es) t)(hbase:attributeBase o name X.env (eval o X.env)=eval o X.env:=by rfl)(hfew:((backTo cpos (starEach (e::es) X.env)).all (λx=>!x.1)&&(backToKw cpos (keywordEach [] X.env)).all (λx=>x.1.isSome)
   && decide ((e::es).length+([]:List Keyword).length+(if ([]:List Keyword).isEmpty then 0 else 1)<30))=true:=by rfl)(hline:(apos.endLine==cpos.line)=true:=by rfl)(hs:starEach (e::es) X.env=(false,eval e X.env)::starEach es X.env:=by rfl)(hplain:(backTo cpos (starEach es X.env)).any (·.1)=false:=by rfl):PE X (.Call (.Attribute o name apos) (e::es) [] cpos) (tBM X.K T r to t):=by
 intro pins s σ H Q I h;refine wpAny_Call_method_late hbase hfew hline rfl (thn (ho pins s σ H _ I h) λv s1 ⟨x,H1,I1,r1,ty,q1⟩=>?_);obtain⟨h1,h2⟩:=tyV_is I1 r1 ty;refine⟨T,tJ id pa slot hty h1 h2 ?_⟩;have hA:=ha cpos pins s1 σ H1 _ I1 q1;rw[hs]at hA ⊢;refine Calls.callWith_builtin (by show(false||(backTo cpos (starEach es X.env)).any (·.1))=false;rw[hplain]<;>rfl) (Calls.evalArgs_plain ?_);exact thn hA λus s2 ⟨vs,H2,I2,r2,q2⟩=>hm pins s2 σ H2 x vs v us Q I2 r1 r2 q2
end
end L2
namespace L2
open PySem PySem.Spec PyProof.Rows
def MtM(X:Cx)(id:String)(r:V→List V→Hp→VK→Prop):Prop :=
 ∀(pins:List (Addr×Obj)) (s:Shared) (σ:St) (H:Hp) (x:V) (xs:List V) (v:Value) (us:List Value) (Q:VK),Inv X pins σ H s→bg x v→aW xs us→r x xs H Q →
  wpAny (model X.prog X.w) X.A (call (.builtin id) (v::us)) (EP X pins σ Q) X.xe s
theorem aW.one:∀{x:V} {us:List Value},aW [x] us→∃u,us=[u]∧bg x u
 |_,_,.cons r .nil=>tF _ rfl r
theorem aW.zero:∀{us:List Value},aW [] us→us=[]
 |_,.nil=>rfl
theorem aW.dropLast{xs:List V}{us:List Value}(h:aW xs us):aW xs.dropLast us.dropLast:=by
 induction h with
 |nil=>exact .nil
 |cons r t ih =>
  cases t with
  |nil=>exact .nil
  |cons q t'=>exact .cons r ih
theorem rc{α:Type}(l:List α):l.eraseIdx (l.length-1)=l.dropLast:=by
 induction l with
 |nil=>rfl
 |cons a r ih =>
  cases r with
  |nil=>rfl
  |cons b r =>
   have e:(a::b::r).length-1=((b::r).length-1)+1:=by
    have h1:(a::b::r).length=r.length+2:=rfl;have h2:(b::r).length=r.length+1:=rfl;omega
   rw[e,List.eraseIdx_cons_succ,ih]
   all_goals rfl
section
variable {X:Cx} {pins:List (Addr×Obj)} {σ:St} {H:Hp} {s:Shared} {l b:Addr} {xs ys zs:List V}
theorem Inv.lset{its its':List Value}{n:Nat}{f:Array Value→Array Value}{t':Nat}(I:Inv X pins σ H s)(hH:H l=some (.lst xs))(e:s.heap.get? l=some {cls:=.type "list",data:=.seq its.toArray n})(hf:f its.toArray=its'.toArray)(hv:aW ys its')(hz:ys.length≤sizeLine):Inv X pins σ (upd H l (.lst ys)) {s with heap:=s.heap.update l (Obj.mapSeq f),toks:=t'}:=by
 have q:=PySem.IsL.update e f;rw[hf]at q;refine I.write (x:=l) (e:=l) (by rw[hH];exact trivial) (.inl rfl) (λb' u hb hu=>(Heap.get?_update_other s.heap (Obj.mapSeq f) (Ne.symm hb)).trans hu) ⟨_,q⟩ ?_;exact ut hz its' _ hv q
theorem Inv.lnew{its:List Value}{t':Nat}(I:Inv X pins σ H s)(hv:aW ys its)(hz:ys.length≤sizeLine):Inv X pins σ (upd H s.heap.objs.size (.lst ys)) {s with heap:=s.heap.push {cls:=.type "list",data:=.seq its.toArray},toks:=t'} :=
 I.laid (λ_ _ q=>rJ _ q) (rL _) (ut hz its 0 hv (rK _ rfl))
theorem Inv.fresh(I:Inv X pins σ H s):H s.heap.objs.size=none:=I.hok.fresh (rL _)
theorem Inv.lstM(I:Inv X pins σ H s)(hH:H l=some (.lst xs)):xs.length≤sizeLine∧∃(its:List Value) (n:Nat),aW xs its∧xs.length=its.length∧s.heap.get? l=some {cls:=.type "list",data:=.seq its.toArray n}:=by
 obtain⟨z,its,n,r,e⟩:=I.hok l _ hH;exact uB z its n r r.length e
theorem notLongL{n:Nat}(h:n≤sizeLine):Builtin.List.listTooLong n=false:=by
 unfold Builtin.List.listTooLong;exact decide_eq_false (by omega)
end
section
variable {X:Cx}
def rAppend:V→List V→Hp→VK→Prop:=λx vs H Q=>∃l xs y,x=.ref l∧vs=[y]∧H l=some (.lst xs)∧xs.length<sizeLine∧Q .non (upd H l (.lst (xs++[y])))
theorem ci:MtM X "list.append" rAppend:=by
 intro pins s σ H x vs v us Q I rx rv h;obtain⟨l,xs,y,rfl,rfl,hH,hz,q⟩:=h;cases rx;obtain⟨u,rfl,ru⟩:=rv.one;obtain⟨z,its,n,r,hl,e⟩:=I.lstM hH;refine call_meets F.slot_list_append (tF _ e rfl) F.entry_list_append (F.args_list_append_2 _ _) (PySem.list_append l its.toArray n u (by rw[sh];omega)) ⟨e,?_⟩;refine tH .non _ (I.lset (its':=its++[u]) hH e (by simp) (r.append (.cons ru .nil)) ?_) rfl q;rw[r9,sk];omega
def rExtend:V→List V→Hp→VK→Prop:=λx vs H Q=>∃l b xs zs,x=.ref l∧vs=[.ref b]∧H l=some (.lst xs)∧H b=some (.lst zs)∧xs.length+zs.length≤sizeLine∧Q .non (upd H l (.lst (xs++zs)))
theorem mt_extend:MtM X "list.extend" rExtend:=by
 intro pins s σ H x vs v us Q I rx rv h;obtain⟨l,b,xs,zs,rfl,rfl,hH,hB,hz,q⟩:=h;cases rx;obtain⟨u,rfl,ru⟩:=rv.one;cases ru;obtain⟨z,its,n,r,hl,e⟩:=I.lstM hH;obtain⟨z2,its2,n2,r2,hl2,e2⟩:=I.lstM hB;have hsz:its.toArray.size+its2.toArray.size≤sizeLine:=by rw[sh,sh];omega
 have hlong:¬(!its.toArray.isEmpty&&Builtin.List.listTooLong (its.toArray.size+its2.toArray.size))=true:=by
  rw[notLongL hsz,Bool.and_false];exact rG
 refine call_meets F.slot_list_extend (tF _ e rfl) F.entry_list_extend (F.args_list_extend_2 _ _)
  (AutoSeq1.list_extend_list_list_0 l its.toArray n b its2.toArray n2 hlong (by rw[sh];omega) (by omega)) (tS e e2 ?_)
 refine tH .non _ (I.lset (its':=its++its2) hH e (by simp) (r.append r2) ?_) rfl q;rw[r9];omega
def rPop:V→List V→Hp→VK→Prop:=λx vs H Q=>∃l xs y,x=.ref l∧vs=[]∧H l=some (.lst xs)∧xs[xs.length-1]?=some y∧Q y (upd H l (.lst xs.dropLast))
theorem mt_pop:MtM X "list.pop" rPop:=by
 intro pins s σ H x vs v us Q I rx rv h;obtain⟨l,xs,y,rfl,rfl,hH,hy,q⟩:=h;cases rx;have hus:=rv.zero;subst hus;obtain⟨z,its,n,r,hl,e⟩:=I.lstM hH;obtain⟨u,hu,ru⟩:=r.get hy;have hy':its.toArray[its.toArray.size-1]?=some u:=by
  show its.toArray[its.length-1]?=some u;rw[←Array.getElem?_toList,←hl];exact hu
 refine call_meets F.slot_list_pop (tF _ e rfl) F.entry_list_pop (F.args_list_pop_1 _) (MeetsSeq.list_pop_last l its.toArray n u hy' (by rw[sh];omega)) ⟨e,?_⟩;refine tH y _ (I.lset (its':=its.dropLast) hH e ?_ r.dropLast ?_) ru q
 ·show its.toArray.eraseIdxIfInBounds (its.toArray.size-1)=its.dropLast.toArray;rw[sh,List.eraseIdxIfInBounds_toArray,rc]
 ·rw[List.length_dropLast];omega
def rCat:R2:=λx y H Q=>∃l b xs zs,x=.ref l∧y=.ref b∧H l=some (.lst xs)∧H b=some (.lst zs)∧xs.length+zs.length≤sizeLine∧∀p,H p=none→Q (.ref p) (upd H p (.lst (xs++zs)))
theorem cA:OpR X (binaryOp .Add) rCat:=by
 intro pins s σ H x y v u Q I rx ry h;obtain⟨l,b,xs,zs,rfl,rfl,hH,hB,hz,q⟩:=h;cases rx;cases ry;obtain⟨z,its,n,r,hl,e⟩:=I.lstM hH;obtain⟨z2,its2,n2,r2,hl2,e2⟩:=I.lstM hB;refine PySem.P.add_list e e2 ?_ (by rw[sh,sh];omega);have ea:its.toArray++its2.toArray=(its++its2).toArray:=by simp
 rw[ea];exact tH (.ref _) _ (I.lnew (t':=s.toks) (r.append r2) (by rw[r9];omega)) rfl (q _ I.fresh)
end
section
variable {prog:Program} {w:World} {A:Around} {E:Value→Shared→Prop} {s:Shared}
set_option maxRecDepth 100000 in
end
end L2
namespace L2
open PySem PySem.Spec PyProof.Rows
theorem aW.ints:∀{ns:List Int} {us:List Value},aW (ns.map V.int) us→IntsAre us ns
 |[],us,h=>by
  rw[List.map_nil]at h;cases h;exact IntsAre.nil
 |n::ns,us,h=>by
  rw[rQ]at h;cases h with
  |cons r t =>
   obtain⟨k,rfl⟩:=r;exact IntsAre.cons n k (aW.ints t)
theorem aW.bls:∀{bs:List Bool} {us:List Value},aW (bs.map V.bl) us→us=bs.map Value.bool
 |[],us,h=>by
  rw[List.map_nil]at h;cases h;rfl
 |b::bs,us,h=>by
  rw[rQ]at h;cases h with
  |cons r t =>
   cases r;rw[aW.bls t,rQ]
theorem aW.ref1{a:Addr}{us:List Value}(r:aW [V.ref a] us):us=[Value.ref a]:=by
 cases r with
 |cons r t =>
  cases t;cases r;rfl
section
variable {prog:Program} {w:World} {A:Around} {E:Value→Shared→Prop} {s:Shared} {l:Addr} {its:List Value} {ns:List Int} {Q:Value→Shared→Prop}
theorem sum_raw(hh:A.handled=none)(hl:s.heap.IsList l its.toArray)(hi:IntsAre its ns)(h:∀h' tk t',(∀b o,s.heap.get? b=some o→h'.get? b=some o)→Q (.int ns.sum t') {s with heap:=h',toks:=tk}):wpAny (model prog w) A (call (.builtin "sum") [.ref l]) Q E s:=by
 obtain⟨xs,e⟩:=hi.allInts.items;have hn:numsOf (intItems xs).toList=ns:=by rw[←e];exact hi.numsOf
 rw[nums_intItems]at hn;rw[e]at hl;refine PySem.sum_intListG hh hl λh' tk t' hk=>?_;have:=h h' tk t' hk;rw[preSum_eq,sn (by simp),hn];exact this
theorem max_raw(hh:A.handled=none)(hl:s.heap.IsList l its.toArray)(hi:IntsAre its ns)(hne:0<ns.length)(h:∀h' tk M t',(∀b o,s.heap.get? b=some o→h'.get? b=some o)→M∈ns→(∀a,a∈ns→a≤M)→Q (.int M t') {s with heap:=h',toks:=tk}):wpAny (model prog w) A (call (.builtin "max") [.ref l]) Q E s:=by
 obtain⟨xs,e⟩:=hi.allInts.items;have hn:numsOf (intItems xs).toList=ns:=by rw[←e];exact hi.numsOf
 rw[nums_intItems]at hn;subst hn;rw[e]at hl;have hsz:0<xs.size:=by simpa using hne
 refine PySem.max_intList hh hl hsz λv h' tk hv hk=>?_;obtain⟨t,rfl⟩:=intItems_at hv;obtain⟨h1,h2⟩:=argBest_gt (numAt xs) (xs.size-1);refine h h' tk _ t hk ?_ λa ha=>?_
 ·rw[numAt_eq];exact PySem.getD_mem (by rw[rR,rF];omega)
 ·obtain⟨j,hj,rfl⟩:=mem_getD ha;rw[rR,rF]at hj;rw[←numAt_eq];exact h2 j (by omega)
end
section
variable {X:Cx}
def rSum(K:fG):List V→Hp→VK→Prop:=λvs H Q=>∃(a:Addr) (ns:List Int),vs=[V.ref a]∧SqL K H a (ns.map V.int)∧Q (.int ns.sum) H
def rMax(K:fG):List V→Hp→VK→Prop:=λvs H Q=>∃(a:Addr) (ns:List Int),vs=[V.ref a]∧SqL K H a (ns.map V.int)∧0<ns.length∧∀m,m∈ns→(∀y,y∈ns→y≤m)→Q (.int m) H
theorem jF(hc:X.calm=true):j8 X (.builtin "sum") (rSum X.K):=by
 intro pins s σ H vs us Q I r h;obtain⟨a,ns,rfl,hs,q⟩:=h;obtain⟨its,rv,hl,_⟩:=I.list hs;rw[aW.ref1 r];exact sum_raw (I.ok.hd hc) hl.isList rv.ints λh' tk t' hk=>tH (.int _) H (I.kept hk) ⟨_,rfl⟩ q
theorem cr_max(hc:X.calm=true):j8 X (.builtin "max") (rMax X.K):=by
 intro pins s σ H vs us Q I r h;obtain⟨a,ns,rfl,hs,hne,q⟩:=h;obtain⟨its,rv,hl,_⟩:=I.list hs;rw[aW.ref1 r];exact max_raw (I.ok.hd hc) hl.isList rv.ints hne λh' tk m t' hk h1 h2=>tH (.int _) H (I.kept hk) ⟨_,rfl⟩ (q m h1 h2)
end
theorem iter_any{prog:Program}{w:World}{A:Around}{E:Value→Shared→Prop}{s:Shared}{l:Addr}{items:Array Value}{Q:Value→Shared→Prop}(hl:s.heap.IsList l items)(h:∀s₂:Shared,s₂={s with heap:=s.heap.push {cls:=.type "list_iterator",data:=.fields #[.ref l,.int 0 0]}} →
   (s₂.heap.IsListIter s.heap.objs.size l 0∧s₂.heap.IsList l items)→l≠s.heap.objs.size→Q (.ref s.heap.objs.size) s₂):wpAny (model prog w) A (pyIter (.ref l)) Q E s:=by
 have hlt:l<s.heap.objs.size:=by obtain⟨_,e,_⟩:=hl;exact rg e
 exact wpAny_pyIter_list hl (h _ rfl ⟨(tK _ (rK _ rfl) rfl rfl),hl.push _⟩ (rm hlt))
theorem oT{prog:Program}{w:World}{A:Around}{bs:List Bool}{its:List Value}(e:its=bs.map Value.bool):TruthOf prog w A (λi v=>its.toArray[i]?=some v) (λi=>bs.getD i false):=λi v s Q E hv hq=>by
 have hv':its[i]?=some v:=by simpa using hv
 rw[e,r6]at hv';obtain⟨b,hb,rfl⟩:=Option.map_eq_some_iff.mp hv';have hg:bs.getD i false=b:=by rw[so,hb]<;>rfl
 have hq':Q (bs.getD i false) s:=hq;rw[hg]at hq';exact wpAny_truthy_bool hq'
theorem mZ:∀bs:List Bool,(rn bs.length).any (λi=>bs.getD i false)=bs.any id
 |[]=>rfl
 |b::bs=>by
  rw[rP,List.range_succ_eq_map,List.any_cons,List.any_map,List.any_cons,←mZ bs]
  all_goals rfl
section
variable {X:Cx}
def rAny(K:fG):List V→Hp→VK→Prop:=λvs H Q=>∃(a:Addr) (bs:List Bool),vs=[V.ref a]∧SqL K H a (bs.map V.bl)∧Q (.bl (bs.any id)) H
theorem cr_any(hc:X.calm=true):j8 X (.builtin "any") (rAny X.K):=by
 intro pins s σ H vs us Q I r h;obtain⟨a,bs,rfl,hs,q⟩:=h;obtain⟨its,rv,hl,_⟩:=I.list hs;rw[aW.ref1 r];have hb:=rv.bls;refine call_any_walk (iter_any hl.isList λs₂ e2 st hne=>?_);subst e2;refine uA _ _ _ _ _ (tG _ _ rfl (Walks.list (A:=X.A.in1) (I.ok.hd hc) _ a hne its.toArray) st (oT hb) (λh' tk hk=>?_));refine tH (.bl _) H (I.kept λb o eo=>hk b o (λhmem=>?_) (rJ _ eo)) ?_ q
 ·rcases rC.mp hmem with e1|hmem
  ·exact absurd (e1 ▸ rg eo) (rk _)
  ·cases hmem
 ·show Value.bool _=Value.bool _;rw[←mZ,hb,sh,rR]
end
mutual
inductive Dp(K:fG)(H:Hp):V→PyData→Prop
 |non:Dp K H .non .none
 |bl (b:Bool):Dp K H (.bl b) (.bool b)
 |int (i:Int):Dp K H (.int i) (.int i)
 |str (x:Str):Dp K H (.str x) (.str x)
 |lst {a:Addr} {xs:List V} {ds:List PyData}:SqL K H a xs→lQ K H xs ds→Dp K H (.ref a) (.list ds)
 |tup {a:Addr} {xs:List V} {ds:List PyData}:SqT K H a xs→lQ K H xs ds→Dp K H (.ref a) (.tuple ds)
inductive lQ(K:fG)(H:Hp):List V→List PyData→Prop
 |nil:lQ K H [] []
 |cons {v:V} {vs:List V} {d:PyData} {ds:List PyData}:Dp K H v d→lQ K H vs ds→lQ K H (v::vs) (d::ds)
end
section
variable {X:Cx} {pins:List (Addr×Obj)} {σ:St} {H:Hp} {s:Shared}
mutual
theorem Dp.reads(I:Inv X pins σ H s):∀(d:PyData) (v:V) (u:Value),Dp X.K H v d→bg v u→∃as,Reads s.heap u d as
 |.none,_,_,h,r=>by
  cases h;cases r;exact⟨_,Reads.none⟩
 |.bool b,_,_,h,r=>by
  cases h;cases r;exact⟨_,Reads.bool b⟩
 |.int i,_,_,h,r=>by
  cases h;obtain⟨t,rfl⟩:=r;exact⟨_,Reads.int i t⟩
 |.str x,_,_,h,r=>by
  cases h;obtain⟨t,rfl⟩:=r;exact⟨_,Reads.str x t⟩
 |.list ds,_,_,h,r=>by
  cases h with
  |lst hs ha =>
   cases r;obtain⟨its,rv,⟨o,n,ho,hc,_,hd⟩,_⟩:=I.list hs;obtain⟨as,hr⟩:=Dp.readsAll I ds _ its ha rv;exact⟨_,Reads.list ho hc hd hr⟩
 |.tuple ds,_,_,h,r=>by
  cases h with
  |tup hs ha =>
   cases r;obtain⟨its,rv,⟨o,ho,hc,n,hd⟩,_⟩:=I.tuple hs;obtain⟨as,hr⟩:=Dp.readsAll I ds _ its ha rv;exact⟨_,Reads.tuple ho hc hd hr⟩
 |.dict _,_,_,h,_=>by cases h
theorem Dp.readsAll(I:Inv X pins σ H s):∀(ds:List PyData) (vs:List V) (us:List Value),lQ X.K H vs ds→aW vs us→∃as,ReadsAll s.heap us ds as
 |[],_,_,h,r=>by
  cases h;cases r;exact⟨_,ReadsAll.nil⟩
 |d::ds,_,_,h,r=>by
  cases h with
  |cons h1 h2 =>
   cases r with
   |cons r1 r2 =>
    obtain⟨as,q1⟩:=Dp.reads I d _ _ h1 r1;obtain⟨bs,q2⟩:=Dp.readsAll I ds _ _ h2 r2;exact⟨_,ReadsAll.cons q1 q2⟩
end
end
section
variable {X:Cx}
def rEqD(K:fG):R2:=λx y H Q=>∃d e,Dp K H x d∧Dp K H y e∧SeqAt.shaped d=true∧SeqAt.shaped e=true∧Q (.bl (PyData.eqv d e)) H
theorem op_eqD(hu:X.A.units+64<cLine):OpR X (compareOp .Eq) (rEqD X.K):=by
 intro pins s σ H x y v u Q I rx ry h;obtain⟨d,e,hd,he,sd,se,q⟩:=h;obtain⟨as,r1⟩:=Dp.reads I d x v hd rx;obtain⟨bs,r2⟩:=Dp.reads I e y u he ry;exact SeqAt.compareEq_shaped r1 r2 sd se hu (tH (.bl _) H I rfl q)
end
end L2
namespace L2
open PySem PySem.Spec PyProof.Rows
abbrev CellAt(h:Heap)(c:Addr)(v:Option Value):Prop:=h.IsCell c v
def relS(scope sc:Scope):Scope :=
 {scope with names:=scope.names.map λ(n,k)=>if (k==.free&&sc.kind==.function&&sc.names.lookup n==some .cell) then (n,.cell) else (n,k)}
def aX(cells:List (Str×Addr)):List (Str×NameKind)→List (Str×Addr)→List (Str×Addr)
 |[],acc=>acc
 |(n,k)::r,acc=>if k==.free then aX cells r ((n,(cells.lookup n).getD 0)::acc) else aX cells r acc
theorem jj(env:Env)(f:Str×NameKind→List (Str×Addr)→Sem (ForInStep (List (Str×Addr))))(hf:∀n k c,f (n,k) c=if k==.free then (do let a ←cellOf env n;pure (.yield ((n,a)::c))) else pure (.yield c)):∀(names:List (Str×NameKind)) (acc:List (Str×Addr)),(∀y∈names,y.2=.free→∃c,env.cells.lookup y.1=some c)→forIn names acc f=pure (aX env.cells names acc)
 |[],acc,_=>by rw[List.forIn_nil];rfl
 |(n,k)::r,acc,h=>by
  rw[List.forIn_cons,hf];have ih:=λacc=>jj env f hf r acc λy hy=>h y (rB _ hy);unfold aX;by_cases hk:(k==NameKind.free)=true
  ·rw[if_pos hk,if_pos hk];obtain⟨c,hc⟩:=h (n,k) rA (by simpa using hk);have e:cellOf env n=pure c:=by unfold cellOf;rw[hc]
   rw[e];have e2:(env.cells.lookup n).getD 0=c:=by rw[hc];rfl
   rw[e2];exact ih _
  ·rw[if_neg hk,if_neg hk];exact ih _
theorem iJ{scope:Scope}{env:Env}(h:∀y∈scope.names,y.2=.free→∃c,env.cells.lookup y.1=some c):closureFor scope env=pure (aX env.cells scope.names []):=by
 simp only[closureFor];rw[jj env _ (λn k c=>rfl) scope.names [] h];rfl
theorem fF{α:Type}:∀{l:List (Str×α)} {n:Str} {c:α},(n,c)∈l→∃c',l.lookup n=some c'
 |(k,v)::r,n,c,h=>by
  rw[sr];cases hb:n==k with
  |true=>exact⟨_,rfl⟩
  |false =>
   rcases rC.mp h with e|h
   ·cases e;simp at hb
   ·exact fF h
theorem dU{cells:List (Str×Addr)}:∀{names:List (Str×NameKind)} {acc:List (Str×Addr)} {n:Str} {c:Addr},(n,c)∈aX cells names acc→(n,c)∈acc∨((n,.free)∈names∧c=(cells.lookup n).getD 0)
 |[],_,_,_,h=>.inl h
 |(m,k)::r,acc,n,c,h=>by
  unfold aX at h;split at h
  ·rename_i hk;have hk:k=.free:=by simpa using hk
   rcases dU h with h|⟨h1,h2⟩
   ·rcases rC.mp h with e|h
    ·cases e;exact .inr ⟨hk ▸ rA,rfl⟩
    ·exact .inl h
   ·exact .inr ⟨rB _ h1,h2⟩
  ·rcases dU h with h|⟨h1,h2⟩
   ·exact .inl h
   ·exact .inr ⟨rB _ h1,h2⟩
theorem gD{cells:List (Str×Addr)}:∀{names:List (Str×NameKind)} {acc:List (Str×Addr)} {p:Str×Addr},p∈acc→p∈aX cells names acc
 |[],_,_,h=>h
 |(m,k)::r,acc,p,h=>by
  unfold aX;split
  ·exact gD (rB _ h)
  ·exact gD h
theorem eS{cells:List (Str×Addr)}:∀{names:List (Str×NameKind)} {acc:List (Str×Addr)} {n:Str},(n,.free)∈names→(n,(cells.lookup n).getD 0)∈aX cells names acc
 |(m,k)::r,acc,n,h=>by
  unfold aX;rcases rC.mp h with e|h
  ·cases e;exact gD rA
  ·split
   ·exact eS h
   ·exact eS h
theorem fu:∀{names:List (Str×NameKind)} {h:Heap} {acc:List (Str×Addr)} {x:Str} {c:Addr},(x,c)∈cellsFrom h.objs.size names acc →
  (x,c)∈acc∨((x,.cell)∈names∧h.objs.size≤c∧CellAt (pushCells h names) c none)
 |[],_,_,_,_,h=>.inl h
 |(n,k)::r,h,acc,x,c,hm=>by
  unfold cellsFrom at hm;unfold pushCells;split at hm
  ·rename_i hk;rw[if_pos hk];have hk:k=.cell:=by simpa using hk
   rw[←rS h {cls:=.type "cell",data:=.cell none}]at hm;rcases fu hm with hm|⟨h1,h2,h3⟩
   ·rcases rC.mp hm with e|hm
    ·cases e;exact .inr (uz (hk ▸ rA) (rL _) _ (pushCells_keeps r _ _ _ (rK _ rfl)) rfl)
    ·exact .inl hm
   ·rw[rS]at h2;exact .inr (tS (rB _ h1) (Nat.le_of_succ_le h2) h3)
  ·rename_i hk;rw[if_neg hk];rcases fu hm with hm|⟨h1,h2,h3⟩
   ·exact .inl hm
   ·exact .inr (tS (rB _ h1) h2 h3)
theorem g8:∀{names:List (Str×NameKind)} {n:Nat} {acc:List (Str×Addr)} {p:Str×Addr},p∈acc→p∈cellsFrom n names acc
 |[],_,_,_,h=>h
 |(m,k)::r,n,acc,p,h=>by
  unfold cellsFrom;split
  ·exact g8 (rB _ h)
  ·exact g8 h
theorem jJ:∀{names:List (Str×NameKind)} {n:Nat} {acc:List (Str×Addr)} {x:Str},(x,.cell)∈names→∃c,(x,c)∈cellsFrom n names acc
 |(m,k)::r,n,acc,x,h=>by
  unfold cellsFrom;rcases rC.mp h with e|h
  ·cases e;exact⟨n,g8 rA⟩
  ·split
   ·exact jJ h
   ·exact jJ h
theorem jI:∀{names:List (Str×NameKind)} {h:Heap} {acc:List (Str×Addr)} {x y:Str} {c:Addr},(∀p∈acc,p.2<h.objs.size)→(∀x y c,(x,c)∈acc→(y,c)∈acc→x=y) →
  (x,c)∈cellsFrom h.objs.size names acc→(y,c)∈cellsFrom h.objs.size names acc→x=y
 |[],_,_,_,_,_,_,hi,h1,h2=>hi _ _ _ h1 h2
 |(n,k)::r,h,acc,x,y,c,hl,hi,h1,h2=>by
  unfold cellsFrom at h1 h2;split at h1
  ·rename_i hk;rw[if_pos hk]at h2;rw[←rS h {cls:=.type "cell",data:=.cell none}]at h1 h2;refine jI (h:=h.push _) (λp hp=>?_) (λx y c a b=>?_) h1 h2
   ·rw[rS];rcases rC.mp hp with rfl|hp
    ·exact Nat.lt_succ_self _
    ·exact Nat.lt_succ_of_lt (hl p hp)
   ·rcases rC.mp a with e|a<;>rcases rC.mp b with e'|b
    ·cases e;cases e';rfl
    ·cases e;exact absurd (hl _ b) (rk _)
    ·cases e';exact absurd (hl _ a) (rk _)
    ·exact hi _ _ _ a b
  ·rename_i hk;rw[if_neg hk]at h2;exact jI hl hi h1 h2
theorem pR{M:Model}{A:Around}{E:Value→Shared→Prop}{s:Shared}{scope:Scope}{globals:Addr}{closure:List (Str×Addr)}{qual:Str}{func:Option Addr}{code:Value}{around:Env}{builtins:Addr}{Q:Env→Shared→Prop}(h:Q (newEnv scope s.heap.objs.size globals (cellsFrom (s.heap.objs.size+1) scope.names closure) qual func code (some around) builtins)
   {s with heap:=pushCells (s.heap.push {cls:=.type "dict",data:=.dict #[]}) scope.names}):wpAny M A (newFunctionEnv scope globals closure [] qual func code (some around) builtins) Q E s:=by
 simp only[newFunctionEnv,Option.isSome_some,if_true];refine wpAny_bind (wpAny_alloc ?_);refine wpAny_bind (wpAny_layCells _ (λn k c=>rfl) scope.names closure _ _ ?_);rw[show({s with heap:=s.heap.push {cls:=.type "dict",data:=.dict #[]}}:Shared).heap.objs.size=s.heap.objs.size+1 from rS ..];rw[List.forIn_nil];exact wpAny_bind (wpAny_pure (wpAny_pure h))
theorem gt{sc:Scope}:∀{names:List (Str×NameKind)} {x:Str} {k:NameKind},
  (names.map λ(n,k)=>if (k==NameKind.free&&sc.kind==.function&&sc.names.lookup n==some .cell) then (n,NameKind.cell) else (n,k)).lookup x=some k →
  ∃k',names.lookup x=some k'∧(k=k'∨(k'=.free∧k=.cell))
 |[],_,_,h=>by simp at h
 |(n,k₀)::r,x,k,h=>by
  have ih:=@gt sc r x k;have h':List.lookup x ((if (k₀==NameKind.free&&sc.kind==.function&&sc.names.lookup n==some .cell)=true then (n,NameKind.cell) else (n,k₀))::(r.map _))=some k:=h;cases hx:x==n with
  |true =>
   simp only[sr,hx];by_cases hc:(k₀==NameKind.free&&sc.kind==.function&&sc.names.lookup n==some .cell)=true
   ·rw[if_pos hc]at h';simp only[sr,hx]at h';cases h';simp only[sj,beq_iff_eq]at hc;exact tF k₀ rfl (.inr ⟨hc.1.1,rfl⟩)
   ·rw[if_neg hc]at h';simp only[sr,hx]at h';cases h';exact tF _ rfl (.inl rfl)
  |false =>
   simp only[sr,hx];by_cases hc:(k₀==NameKind.free&&sc.kind==.function&&sc.names.lookup n==some .cell)=true
   ·rw[if_pos hc]at h';simp only[sr,hx]at h';exact ih h'
   ·rw[if_neg hc]at h';simp only[sr,hx]at h';exact ih h'
structure db(N:List Str)(sc scope:Scope)(own:List (Str×Nat)):Prop where
 kind:scope.kind=.function
 uniq:∀y∈scope.names,scope.names.lookup y.1=some y.2
 ix:∀p∈own,N[p.2]?=some p.1
 free:∀y∈scope.names,y.2=.free→sc.names.lookup y.1=some .cell∨sc.names.lookup y.1=some .free
 own:∀y∈scope.names,y.2=.local∨y.2=.cell→y.1∈own.map (·.1)∨y.1∉N
def bJ(σ:St):List Nat→St
 |[]=>σ
 |v::vs=>(bJ σ vs).set v none
theorem fW(σ:St):∀vs:List Nat,(bJ σ vs).length=σ.length
 |[]=>rfl
 |v::vs=>by unfold bJ;rw[si,fW σ vs]
theorem jq{σ:St}{i:Nat}{x:V}:∀{vs:List Nat},(bJ σ vs)[i]?=some (some x)→σ[i]?=some (some x)∧i∉vs
 |[],h=>⟨h,by simp⟩
 |v::vs,h=>by
  unfold bJ at h;by_cases hi:v=i
  ·subst hi;by_cases hv:v<(bJ σ vs).length
   ·rw[List.getElem?_set_self hv]at h;cases h
   ·rw[su (by simpa using hv)]at h;cases h
  ·rw[List.getElem?_set_ne hi]at h;obtain⟨h1,h2⟩:=jq h;exact⟨h1,by simp only[rC,not_or];exact⟨λe=>hi e.symm,h2⟩⟩
abbrev Cx.blk(X:Cx)(s:Shared)(H:Hp)(scope:Scope)(cenv:Env)(fp:List Addr):Cx:={X with s_0:=s,H_0:=H,env:=cenv,outer:=X.stack,ex:=fp,fn:=λx=>scope.names.lookup x==some .cell,pn:=[],xe:=λ_ _=>False}
section
variable {X:Cx} {pins:List (Addr×Obj)} {σ:St} {H:Hp} {s:Shared}
theorem ql{scope:Scope}{own:List (Str×Nat)}{fp:List Addr}(I:Inv X pins σ H s)(ok:db X.N X.env.scope scope own)(hN:X.N.Nodup)(hfp:∀b∈fp,kg X pins H b∧b<s.heap.objs.size):Inv (X.blk s H scope (compEnvC scope (cellsFrom (s.heap.objs.size+1) scope.names (aX X.env.cells scope.names [])) s.heap.objs.size X.env) fp) [] (bJ σ (own.map (·.2))) H {s with heap:=pushCells (s.heap.push {cls:=.type "dict",data:=.dict #[]}) scope.names}:=by
 have hfree:∀y∈scope.names,y.2=.free→∃c,X.env.cells.lookup y.1=some c:=λy hy e=>by
  rcases ok.free y hy e with k|k
  ·exact I.ok.has _ (.inl k)
  ·exact I.ok.has _ (.inr k)
 generalize hcenv:compEnvC scope (cellsFrom (s.heap.objs.size+1) scope.names (aX X.env.cells scope.names [])) s.heap.objs.size X.env=cenv;have kp:∀b o,s.heap.get? b=some o→(pushCells (s.heap.push {cls:=.type "dict",data:=.dict #[]}) scope.names).get? b=some o:=λb o e=>pushCells_keeps _ _ _ _ (rJ _ e);have hL:cenv.locals=s.heap.objs.size:=by rw[←hcenv];rfl
 have hcl:cenv.cells=cellsFrom (s.heap.objs.size+1) scope.names (aX X.env.cells scope.names []):=by rw[←hcenv];rfl
 have hsc:cenv.scope=relS scope X.env.scope:=by rw[←hcenv];rfl
 rw[←rS s.heap {cls:=.type "dict",data:=.dict #[]}]at hcl;have cm:∀{y c},(y,c)∈aX X.env.cells scope.names []→X.env.cells.lookup y=some c∧c<s.heap.objs.size:=λ{y c} hm=>by
  rcases dU hm with hm|⟨h1,rfl⟩
  ·cases hm
  ·obtain⟨c,hc⟩:=hfree _ h1 rfl;rw[hc];obtain⟨w,z⟩:=I.cell _ _ hc;exact⟨rfl,z.lt⟩
 have mem:∀{y c},cenv.cells.lookup y=some c→(X.env.cells.lookup y=some c∧c<s.heap.objs.size)∨(s.heap.objs.size+1≤c∧CellAt (pushCells (s.heap.push {cls:=.type "dict",data:=.dict #[]}) scope.names) c none):=λ{y c} e=>by
  rw[hcl]at e;rcases fu (PySem.mem_of_lookup e) with hm|⟨_,h2,h3⟩
  ·exact .inl (cm hm)
  ·rw[rS]at h2;exact .inr ⟨h2,h3⟩
 have look:∀{y},scope.names.lookup y=some .free→∃c,cenv.cells.lookup y=some c∧X.env.cells.lookup y=some c:=λ{y} hl=>by
  have hy:(y,NameKind.free)∈scope.names:=PySem.mem_of_lookup hl;obtain⟨c',e'⟩:=fF (g8 (names:=scope.names) (n:=(s.heap.push {cls:=.type "dict",data:=.dict #[]}).objs.size) (eS (cells:=X.env.cells) (acc:=[]) hy));rw[←hcl]at e';refine tF c' e' ?_;rw[hcl]at e';rcases fu (PySem.mem_of_lookup e') with hm|⟨h1,_,_⟩
  ·exact(cm hm).1
  ·have:=ok.uniq _ h1;rw[hl]at this;cases this
 have okB:(X.blk s H scope cenv fp).Ok:=by
  refine⟨I.ok.mod,by show cenv.scope.kind=_;rw[hsc];exact ok.kind,by show cenv.globals=_;rw[←hcenv];exact I.ok.glob,by show cenv.builtins=_;rw[←hcenv];exact I.ok.blt,by show s.heap.objs.size≤cenv.locals;rw[hL];exact rL _,
   λy z c e1 e2=>?_,λy hy=>?_,λy c z e=>?_,I.ok.hd,I.ok.frames,.inl rfl,λb hb=>⟨?_,λy c e z=>?_⟩,I.bs,rq I.ok.bsz I.sz,λb o e hb=>?_,λb hb z=>?_,I.stack,I.stkFree⟩
  ·have e1:cenv.cells.lookup y=some c:=e1;have e2:cenv.cells.lookup z=some c:=e2;rw[hcl]at e1 e2;refine jI (λp hp=>?_) (λy z c a b=>I.ok.inj y z c (cm a).1 (cm b).1) (PySem.mem_of_lookup e1) (PySem.mem_of_lookup e2);rw[rS];exact Nat.lt_succ_of_lt (cm (y:=p.1) (c:=p.2) hp).2
  ·show ∃c,cenv.cells.lookup y=some c;have key:∀k,cenv.kindOf y=some k→(k=.cell∨k=.free)→∃c,cenv.cells.lookup y=some c:=λk hk hk'=>by
    unfold Env.kindOf at hk;rw[hsc]at hk;obtain⟨k',e,r⟩:=gt hk;have:k'=.cell∨k'=.free:=by
     rcases r with rfl|⟨rfl,_⟩
     ·exact hk'
     ·exact .inr rfl
    rcases this with rfl|rfl
    ·obtain⟨c,hm⟩:=jJ (n:=(s.heap.push {cls:=.type "dict",data:=.dict #[]}).objs.size) (acc:=aX X.env.cells scope.names []) (PySem.mem_of_lookup e);obtain⟨c',e'⟩:=fF hm;exact⟨c',by rw[hcl];exact e'⟩
    ·obtain⟨c,h1,_⟩:=look e;exact⟨c,h1⟩
   rcases hy with hy|hy
   ·exact key _ hy (.inl rfl)
   ·exact key _ hy (.inr rfl)
  ·have z:(scope.names.lookup y==some NameKind.cell)=true:=z;have z:scope.names.lookup y=some .cell:=by simpa using z
   have e:cenv.cells.lookup y=some c:=e;rw[hcl]at e;rcases fu (PySem.mem_of_lookup e) with hm|⟨_,h2,_⟩
   ·rcases dU hm with hm|⟨h1,_⟩
    ·cases hm
    ·have q:=ok.uniq _ h1;rw[z]at q;cases q
   ·rw[rS]at h2;exact Nat.le_of_succ_le h2
  ·show b≠cenv.locals;rw[hL];exact rm (hfp b hb).2
  ·have e:cenv.cells.lookup y=some c:=e;rcases mem e with⟨h1,_⟩|⟨h1,_⟩
   ·exact(hfp b hb).1.2.2.2.2.1 y c h1 z
   ·have h2:s.heap.objs.size+1≤b:=by rw[←z];exact h1
    exact absurd (rh (hfp b hb).2 (Nat.le_of_succ_le h2)) (rk _)
  ·rcases (hfp b hb).1.2.2.2.1 with z|z
   ·exact I.ok.noex b o e z
   ·exact absurd (rh (rg e) (rq I.ok.bsz z)) (rk _)
  ·rcases rC.mp (I.stkSub b z) with z|z
   ·exact(hfp b hb).1.2.1 z
   ·exact(hfp b hb).1.2.2.1 z
 refine⟨okB,rfl,I.bare,Un.kept kp,(tF (λ_=>none) ?_ (λi y av e1 e2 e3=>?_)),λy c e=>?_,?_,λy c e=>?_,λp hp=>?_,I.hok.kept kp,by rw[fW];exact I.len⟩
 ·show Heap.Ns _ cenv.locals _;rw[hL];exact Heap.Ns.keeps (Heap.Ns.new ..) λb o e=>pushCells_keeps _ _ _ _ e
 ·obtain⟨e2,hne⟩:=jq e2;have hfr:scope.names.lookup y=some .free∧(cenv.kindOf y=some .cell∨cenv.kindOf y=some .free):=by
   have key:∀k,cenv.scope.names.lookup y=some k→k=.local∨k=.cell∨k=.free→scope.names.lookup y=some .free∧(cenv.kindOf y=some .cell∨cenv.kindOf y=some .free):=λk hk hk'=>by
    have hk0:=hk;rw[hsc]at hk;obtain⟨k',e,r⟩:=gt hk;have no:¬(k'=.local∨k'=.cell):=λhh=>by
     rcases ok.own _ (PySem.mem_of_lookup e) hh with e'|e'
     ·obtain⟨p,hp,hpy⟩:=sv.mp e';have e3:=ok.ix p hp;have:p.1=y:=hpy;rw[this]at e3;exact hne (sv.mpr (tF p hp (k9 hN e3 e1)))
     ·exact e' (r8 e1)
    rcases r with rfl|⟨rfl,rfl⟩
    ·rcases hk' with rfl|rfl|rfl
     ·exact absurd (.inl rfl) no
     ·exact absurd (.inr rfl) no
     ·exact⟨e,.inr hk0⟩
    ·exact⟨e,.inl hk0⟩
   have e3:Vis cenv.scope y:=e3;rcases e3 with e3|e3|e3
   ·exact key _ e3 (.inl rfl)
   ·exact key _ e3 (.inr (.inl rfl))
   ·exact key _ e3 (.inr (.inr rfl))
  obtain⟨m,hn,hl⟩:=I.loc;have hvis:Vis X.env.scope y:=(ok.free _ (PySem.mem_of_lookup hfr.1) rfl).elim (λk=>.inr (.inl k)) (λk=>.inr (.inr k));obtain⟨w,r,q⟩:=hl i y av e1 e2 hvis;refine tF w r (.inr ⟨hfr.2,?_⟩);obtain⟨c,h1,h2⟩:=look hfr.1;rcases q with⟨k,_⟩|⟨_,c',e',z⟩
  ·have k:X.env.scope.names.lookup y=some .local:=k;rcases ok.free _ (PySem.mem_of_lookup hfr.1) rfl with k'|k'<;>rw[show X.env.scope.names.lookup y=_ from k']at k<;>cases k
  ·rw[h2]at e';cases e';exact tF c h1 (z.keeps kp)
 ·have e:cenv.cells.lookup y=some c:=e;rcases mem e with⟨h1,_⟩|⟨_,z⟩
  ·obtain⟨w,z⟩:=I.cell y c h1;exact⟨w,z.keeps kp⟩
  ·exact⟨_,z⟩
 ·show H cenv.locals=none;rw[hL];exact I.hok.fresh (rL _)
 ·have e:cenv.cells.lookup y=some c:=e;rcases mem e with⟨h1,_⟩|⟨h1,_⟩
  ·exact I.freeC y c h1
  ·exact I.hok.fresh (Nat.le_of_succ_le h1)
 ·exact absurd (show p∈([]:List (Addr×Obj))++[] from hp) (by simp)
theorem app_ok{E:Value→Shared→Prop}{D:Addr}{xs:List V}{y:V}{v:Value}{Q:Value→Shared→Prop}(I:Inv X pins σ H s)(hD:H D=some (.lst xs))(hz:xs.length<sizeLine)(r:bg y v)(h:∀s',Inv X pins σ (upd H D (.lst (xs++[y]))) s'→Q .none s'):wpAny (model X.prog X.w) X.A (call (.builtin "list.append") [.ref D,v]) Q E s:=by
 obtain⟨hz',its,n,ri,e⟩:=I.hok D _ hD;have hl:=ri.length;refine append_at (hsz:=by rw[sh];omega) e λh' sb ho'=>?_;refine h {s with heap:=h'} (I.write (t':=s.toks) (by rw[hD];trivial) (.inl rfl) (λb u hb q=>(sb.2 b hb).trans q) ⟨_,ho'⟩ (ut (by rw[r9];exact hz) (its++[v]) (n+1) (ri.append (.cons r .nil)) ?_));rw[ho'];simp
def PTs(X:Cx)(ifs:List Expr)(t:TT):Prop :=
 ∀(pins:List (Addr×Obj)) (s:Shared) (σ:St) (H:Hp) (Q:Bool→Hp→Prop),Inv X pins σ H s→t σ H Q →
  wpAny (model X.prog X.w) X.A (forIn ifs true λc r=>if r=true then do let ok ←isTrue c X.env (eval c X.env);pure (ForInStep.yield ok) else pure (ForInStep.yield r)) (TP X pins σ Q) X.xe s
def tYes:TT:=λ_ H Q=>Q true H
theorem bY:PTs X [] tYes:=λ_ _ _ H _ I h=>wpAny_tests_nil (tF H I h)
end
theorem thnF{α:Type}{t:Sem α}{Q Q':α→Shared→Prop}{M:Model}{A:Around}{E:Value→Shared→Prop}{s:Shared}(h:wpAny M A t Q (λ_ _=>False) s)(hQ:∀a s,Q a s→Q' a s):wpAny M A t Q' E s:=wpAny_mono h hQ λ_ _ z=>False.elim z
theorem oA{prog:Program}{w:World}{A:Around}{R:Result→Shared→Prop}{s:Shared}{elt target iter:Expr}{ifs:List Expr}{scope:Scope}{pos:Pos}{it acc:Value}{env:Env}(I:Nat→Shared→Prop)(turn:∀n s,I n s→wpAny (model prog w) A (pyNext it) (λr s₁=>match r with
   |none=>R (.ok .next) s₁
   |some v=>wpAny (model prog w) A (letOwnedTupleGo target it v) (λ_ s₁'=>wpAny (model prog w) A (assign target env v) (λ_ s₂ =>
     wpAny (model prog w) A (forIn ifs true λc r=>if r=true then do let ok ←isTrue c env (eval c env);pure (ForInStep.yield ok) else pure (ForInStep.yield r)) (λok s₃ =>
      if ok=true then wpAny (model prog w) A (eval elt env) (λx s₄ =>
       wpAny (model prog w) A (call (.builtin "list.append") [acc,x]) (λ_ s₅=>∃m,m<n∧I m s₅) (notedBy (model prog w) A env λe s'=>R (.error e) s') s₄) (notedBy (model prog w) A env λe s'=>R (.error e) s') s₃
      else ∃m,m<n∧I m s₃) (notedBy (model prog w) A env λe s'=>R (.error e) s') s₂) (notedBy (model prog w) A env λe s'=>R (.error e) s') s₁') (notedBy (model prog w) A env λe s'=>R (.error e) s') s₁) (notedBy (model prog w) A env λe s'=>R (.error e) s') s)(n:Nat)(h:I n s):codeAny (model prog w) A (.compLoop (.ListComp elt [⟨target,iter,ifs,0⟩] scope pos) 0 it acc env) R s:=by
 refine codeAny_loop rfl I (λn s hI=>?_) n h;show wpAny _ A ((compTurn (.ListComp elt [⟨target,iter,ifs,0⟩] scope pos) 0 it acc env).onRaise (λx=>do noteFrame x env;theTreesLotGoes x)) _ _ s;refine wpAny_noted ?_;rw[compTurn_list];refine wpAny_bind (wpAny_standAt (wpAny_bind (wpAny_mono (turn n s hI) (λr s₁ h₁=>?_) λ_ _ h'=>h')));cases r with
 |none=>exact wpAny_pure h₁
 |some v =>
  refine wpAny_bind (wpAny_mono h₁ (λ_ s₁' h₁'=>?_) λ_ _ h'=>h');refine wpAny_bind (wpAny_mono h₁' (λ_ s₂ h₂=>wpAny_bind (wpAny_mono h₂ (λok s₃ h₃=>?_) λ_ _ h'=>h')) λ_ _ h'=>h');cases ok with
  |false=>exact wpAny_pure ⟨rfl,h₃⟩
  |true =>
   exact wpAny_bind (wpAny_bind (wpAny_mono h₃ (λx s₄ h₄=>wpAny_bind (wpAny_mono h₄ (λ_ s₅ h₅=>wpAny_pure (wpAny_pure ⟨rfl,h₅⟩)) λ_ _ h'=>h')) λ_ _ h'=>h'))
section
variable {X:Cx}
def tLc(wi:TI)(g:TG)(tt:TT)(te:TE)(vs:List Nat):TE:=λσ H Q=>wi σ H λJ H1=>∀D,H1 D=none→∃W:Nat→Nat→Hp→Prop,(∃m,W 0 m (upd H1 D (.lst [])))∧∀i m H,W i m H →
 (J.stop i H∧Q (.ref D) H)∨(J.go i H∧∃Nx:Hp→Prop,(∀H',Nx H'→∃m',m'<m∧W (i+1) m' H')∧∀x H',J.yld i H x H'→g x (bJ σ vs) H' λσ2 H2=>bJ σ2 vs=bJ σ vs∧tt σ2 H2 λb H3 =>
  if b=true then te σ2 H3 λy H4=>∃acc,H4 D=some (.lst acc)∧acc.length<sizeLine∧Nx (upd H4 D (.lst (acc++[y]))) else Nx H3)
theorem lc_core{pins:List (Addr×Obj)}{s:Shared}{σ:St}{H:Hp}{Q:VK}{elt tg iter:Expr}{ifs:List Expr}{scope:Scope}{own:List (Str×Nat)}{pos pos':Pos}{wi:TI}{g:TG}{tt:TT}{te:TE}{use:Option (Value→Sem Unit)}{Qf:Value→Shared→Prop}(hc:X.calm=true)(hN:X.N.Nodup)(I:Inv X pins σ H s)(hi:PI X tg iter wi)(ok:db X.N X.env.scope scope own)(hg:∀(s:Shared) (H:Hp) (C:Addr) (cl:List (Str×Addr)) (fp:List Addr),PG (X.blk s H scope (compEnvC scope cl C X.env) fp) tg g)(ht:∀(s:Shared) (H:Hp) (C:Addr) (cl:List (Str×Addr)) (fp:List Addr),PTs (X.blk s H scope (compEnvC scope cl C X.env) fp) ifs tt)(he:∀(s:Shared) (H:Hp) (C:Addr) (cl:List (Str×Addr)) (fp:List Addr),PE (X.blk s H scope (compEnvC scope cl C X.env) fp) elt te)(hs:∀x,foldedSetIterable iter X.env x=pure x)(h:tLc wi g tt te (own.map (·.2)) σ H Q)(hRR:∀D C s' m H',Inv X pins σ H' s'→Q (.ref D) H'→s'.heap.Ns C m→kg X pins H' C→compPost (model X.prog X.w) X.A X.xe use Qf (.ref D) C (.ok .next) s'):wpAny (model X.prog X.w) X.A (comprehension (.ListComp elt [⟨tg,iter,ifs,0⟩] scope pos) scope X.env pos' (newList []) false (eval iter X.env) use) Qf X.xe s:=by
 have hfree:∀y∈scope.names,y.2=.free→∃c,X.env.cells.lookup y.1=some c:=λy hy e=>by
  rcases ok.free y hy e with k|k
  ·exact I.ok.has _ (.inl k)
  ·exact I.ok.has _ (.inr k)
 refine wpAny_comprehension_free (use:=use) rfl hs (iJ hfree) ok.kind (λy hy e=>by rw[ok.uniq y hy,e])
  (thn (hi pins s σ H _ I h) λxv s1 hx=>thn hx λitv s2 h2=>?_)
 obtain⟨it,fp,tn,J,H2,e,I2,T,st2,f2,q⟩:=h2;subst e;refine wpAny_newObj_type (pR ?_) (by show 0≤sizeLine;decide);generalize hD:s2.heap.objs.size=D;have hDn:H2 D=none:=I2.hok.fresh (Nat.le_of_eq hD);obtain⟨W,⟨m0,w0⟩,turn⟩:=q D hDn;generalize hs3:({s2 with heap:=s2.heap.push {cls:=.type "list",data:=.seq ([]:List Value).toArray}}:Shared)=s3;have I3:Inv X pins σ (upd H2 D (.lst [])) s3:=by
  rw[←hs3];refine I2.laid (t':=s2.toks) (λb o e=>rJ _ e) (Nat.le_of_eq hD) (ut (rO _) [] 0 .nil ?_);rw[←hD];exact rK _ rfl
 have h3:s3.heap=s2.heap.push {cls:=.type "list",data:=.seq ([]:List Value).toArray}:=by rw[←hs3]
 have sz:∀b∈fp,b<s2.heap.objs.size:=λb hb=>by
  obtain⟨o,e,_⟩:=T.obj _ _ st2 b hb;exact rg e
 have f3:∀b∈fp,kg X pins (upd H2 D (.lst [])) b∧b<s3.heap.objs.size:=λb hb=>by
  have hlt:=sz b hb;refine⟨⟨?_,(f2 b hb).2⟩,by rw[h3,rS];exact Nat.lt_succ_of_lt hlt⟩;rw[af (by rw[←hD];exact rm hlt)];exact(f2 b hb).1
 have st3:tn 0 s3.heap:=T.keep _ _ _ st2 λb _ o e=>by rw[h3];exact rJ _ e
 have I4:=ql I3 ok hN f3;have pg:=hg s3 (upd H2 D (.lst [])) s3.heap.objs.size (cellsFrom (s3.heap.objs.size+1) scope.names (aX X.env.cells scope.names [])) fp;have pt:=ht s3 (upd H2 D (.lst [])) s3.heap.objs.size (cellsFrom (s3.heap.objs.size+1) scope.names (aX X.env.cells scope.names [])) fp;have pe:=he s3 (upd H2 D (.lst [])) s3.heap.objs.size (cellsFrom (s3.heap.objs.size+1) scope.names (aX X.env.cells scope.names [])) fp;show codeAny _ _ (.compStart (.ListComp elt [⟨tg,iter,ifs,0⟩] scope pos) 0 (.ref it) (.ref D) (compEnvC scope (cellsFrom (s3.heap.objs.size+1) scope.names (aX X.env.cells scope.names [])) s3.heap.objs.size X.env)) (compPost (model X.prog X.w) X.A X.xe use Qf (.ref D) s3.heap.objs.size) {s3 with heap:=pushCells (s3.heap.push {cls:=.type "dict",data:=.dict #[]}) scope.names};have nfp:∀b∈fp,(upd H2 D (.lst [])) b=none:=λb hb=>(f3 b hb).1.1;generalize hce:compEnvC scope (cellsFrom (s3.heap.objs.size+1) scope.names (aX X.env.cells scope.names [])) s3.heap.objs.size X.env=ce at I4 pg pt pe ⊢;have cL:ce.locals=s3.heap.objs.size:=by subst hce;rfl
 generalize hH3:upd H2 D (.lst [])=H3 at I3 I4 pg pt pe w0 nfp f3;generalize hs4:({s3 with heap:=pushCells (s3.heap.push {cls:=.type "dict",data:=.dict #[]}) scope.names}:Shared)=s4 at I4 ⊢;have st4:tn 0 s4.heap:=T.keep _ _ _ st3 λb _ o e=>by rw[←hs4];exact pushCells_keeps _ _ _ _ (rJ _ e)
 have stat:∀{σ':St} {H':Hp} {s':Shared},Inv (X.blk s3 H3 scope ce fp) [] σ' H' s'→(∀b∈fp,H' b=none)→∀b∈fp,kg (X.blk s3 H3 scope ce fp) [] H' b:=λ{σ' H' s'} I' hn b hb =>
  (um (hn b hb) ((I'.ok.exf b hb).1) (I'.ok.exfs b hb) (.inl hb) (λx c e=>(I'.ok.exf b hb).2 x c e) (λp hp=>absurd (show p∈([]:List (Addr×Obj))++[] from hp) (by simp)))
 have loop:codeAny (model X.prog X.w) X.A (.compLoop (.ListComp elt [⟨tg,iter,ifs,0⟩] scope pos) 0 (.ref it) (.ref D) ce) (compPost (model X.prog X.w) X.A X.xe use Qf (.ref D) s3.heap.objs.size) s4:=by
  refine oA (λn s'=>∃i H',Inv (X.blk s3 H3 scope ce fp) [] (bJ σ (own.map (·.2))) H' s'∧tn i s'.heap∧(∀b∈fp,H' b=none)∧W i n H') ?_ m0 (tP 0 H3 I4 st4 nfp w0);rintro n s5 ⟨i,H5,I5,st5,n5,w5⟩;rcases turn i n H5 w5 with⟨stop,qq⟩|⟨go,Nx,hNx,step⟩
  ·have td:=T.done (X.blk s3 H3 scope ce fp) rfl rfl rfl hc i [] s5 _ H5 (λ_ _=>False) I5 (stat I5 n5) st5 stop;refine thnF td λr s6 ⟨hr,I6⟩=>?_;subst hr;have I7:Inv X pins σ H5 s6:=I3.call' (ch:=fp) I6.os I6.base I6.hok I6.bare λb hb=>ud ((f3 b hb).1.2.2.2.1) ((f3 b hb).1.2.1) ((f3 b hb).1.2.2.2.2.1) ((f3 b hb).1.2.2.2.2.2)
   have nC:H5 s3.heap.objs.size=none:=by
    have z:H5 ce.locals=none:=I6.free;rw[cL]at z;exact z
   obtain⟨m,hn,_⟩:=I6.loc;have hn:s6.heap.Ns ce.locals m:=hn;rw[cL]at hn;exact hRR D s3.heap.objs.size s6 m H5 I7 qq hn (I3.fpOk (rL _) nC)
  ·have ti:=T.item (X.blk s3 H3 scope ce fp) rfl rfl rfl hc i [] s5 _ H5 (λ_ _=>False) I5 (stat I5 n5) st5 go;refine thnF ti λr s6 ⟨u,hr,h6⟩=>?_;subst hr;refine thnF h6 λ_ s7 ⟨x,H7,I7,r7,y7,st7,n7⟩=>?_;have I7':=I7.pinned (stat I7 n7) (T.obj _ _ st7);refine thnF (pg _ s7 _ H7 x u _ I7' r7 (step x H7 y7)) λ_ s8 ⟨σ8,H8,I8,hw8,q8⟩=>?_;refine thnF (pt _ s8 σ8 H8 _ I8 q8) λb s9 ⟨H9,I9,q9⟩=>?_;have fin:∀{s':Shared} {H':Hp},Inv (X.blk s3 H3 scope ce fp) ([]++k0 fp s7.heap) σ8 H' s'→Nx H'→∃m,m<n∧∃i H',Inv (X.blk s3 H3 scope ce fp) [] (bJ σ (own.map (·.2))) H' s'∧tn i s'.heap∧(∀b∈fp,H' b=none)∧W i m H':=λ{s' H'} I' nx=>by
    obtain⟨m',hm,w'⟩:=hNx H' nx;have pin':∀b∈fp,∀o,s7.heap.get? b=some o→s'.heap.get? b=some o∧H' b=none:=λb hb o e =>
     let z:=I'.pin (b,o) (rN _ (rN _ (iA hb e)))
     ⟨z.1,z.2.1⟩
    have hl:(bJ σ (own.map (·.2))).length=σ8.length:=by rw[←hw8,fW]
    refine tF m' hm (tP (i+1) H' ((I'.unpinned (pins:=[])).weak hl (λj v e=>?_)) (T.keep _ _ _ st7 λb hb o e=>(pin' b hb o e).1) (λb hb=>?_) w')
    ·rw[←hw8]at e;exact(jq e).1
    ·obtain⟨o,e,_⟩:=T.obj _ _ st7 b hb;exact(pin' b hb o e).2
   cases b with
   |false =>
    simp only[sw,if_false]at q9 ⊢;exact fin I9 q9
   |true =>
    simp only[if_true]at q9 ⊢;refine thnF (pe _ s9 σ8 H9 _ I9 q9) λz s10 ⟨yv,H10,I10,r10,acc,hD10,hz10,nx⟩=>?_;exact app_ok (X:=X.blk s3 H3 scope ce fp) I10 hD10 hz10 r10 λs11 I11=>fin I11 nx
 exact codeAny_compStart_list loop (T.self X.A 0 _ _ _ st4 loop)
theorem fi{elt tg iter:Expr}{ifs:List Expr}{scope:Scope}{own:List (Str×Nat)}{pos:Pos}{wi:TI}{g:TG}{tt:TT}{te:TE}(hc:X.calm=true)(hN:X.N.Nodup)(hi:PI X tg iter wi)(ok:db X.N X.env.scope scope own)(hg:∀(s:Shared) (H:Hp) (C:Addr) (cl:List (Str×Addr)) (fp:List Addr),PG (X.blk s H scope (compEnvC scope cl C X.env) fp) tg g)(ht:∀(s:Shared) (H:Hp) (C:Addr) (cl:List (Str×Addr)) (fp:List Addr),PTs (X.blk s H scope (compEnvC scope cl C X.env) fp) ifs tt)(he:∀(s:Shared) (H:Hp) (C:Addr) (cl:List (Str×Addr)) (fp:List Addr),PE (X.blk s H scope (compEnvC scope cl C X.env) fp) elt te)(hs:∀x,foldedSetIterable iter X.env x=pure x:=by intro _;rfl):PE X (.ListComp elt [⟨tg,iter,ifs,0⟩] scope pos) (tLc wi g tt te (own.map (·.2))):=by
 intro pins s σ H Q I h;rw[eval_ListComp];refine lc_core hc hN I hi ok hg ht he hs h λD C s' m H' I' q hn f=>tF m hn (λh'' sb=>?_)
 obtain⟨f0,f1,f2,f3,f4,f5⟩:=f;exact tH (.ref D) H' (I'.turned (t':=s'.toks) (λb o hb e=>(sb.2 b hb).trans e) f0 f1 f3 f4 f5) rfl q
theorem kW{i:Nat}{y:Str}{py:Pos}{elt tg iter:Expr}{ifs:List Expr}{scope:Scope}{own:List (Str×Nat)}{pos spos:Pos}{wi:TI}{g:TG}{tt:TT}{te:TE}(hc:X.calm=true)(hN:X.N.Nodup)(hy:X.N[i]?=some y)(hyl:X.env.scope.names.lookup y=some .local)(hsw:swapsWith (.ListComp elt [⟨tg,iter,ifs,0⟩] scope pos) (some (.Name y py)) spos.line X.env=pure true)(hi:PI X tg iter wi)(ok:db X.N X.env.scope scope own)(hg:∀(s:Shared) (H:Hp) (C:Addr) (cl:List (Str×Addr)) (fp:List Addr),PG (X.blk s H scope (compEnvC scope cl C X.env) fp) tg g)(ht:∀(s:Shared) (H:Hp) (C:Addr) (cl:List (Str×Addr)) (fp:List Addr),PTs (X.blk s H scope (compEnvC scope cl C X.env) fp) ifs tt)(he:∀(s:Shared) (H:Hp) (C:Addr) (cl:List (Str×Addr)) (fp:List Addr),PE (X.blk s H scope (compEnvC scope cl C X.env) fp) elt te)(hs:∀x,foldedSetIterable iter X.env x=pure x:=by intro _;rfl):PS X (.Assign [.Name y py] (.ListComp elt [⟨tg,iter,ifs,0⟩] scope pos) spos) (tAsg (tLc wi g tt te (own.map (·.2))) (dq i)):=by
 intro pins s σ H D I h;rw[exec_Assign_Name_used _ _ _ _ hsw];refine wpAny_bind (wpAny_standAt (wpAny_bind ?_));show wpAny _ X.A (do let _ ←comprehension (.ListComp elt [⟨tg,iter,ifs,0⟩] scope pos) scope X.env (firstIterPos [⟨tg,iter,ifs,0⟩] pos) (newList []) false (eval iter X.env) (some (assign (.Name y py) X.env))) _ _ s;have h:tLc wi g tt te (own.map (·.2)) σ H (λx H1=>dq i x σ H1 D.nx):=h;refine wpAny_bind (thn (lc_core (Qf:=λ_ s'=>SP X pins D .next s') hc hN I hi ok hg ht he hs h λL C s' m H' I' q hn f=>?_) λ_ s' hq=>wpAny_pure (wpAny_pure hq));show wpAny _ _ (assign (.Name y py) X.env (.ref L)) _ _ _;refine wpAny_assign_Name (mf (v:=V.ref L) I' hN hy (.inl hyl) rfl (λs2 I2 ⟨a,sb,ha⟩=>?_) (.inr hyl));obtain⟨f0,f1,f2,f3,f4,f5⟩:=f;have haC:C≠a:=by
  rcases ha with z|z
  ·rw[z];exact f1
  ·exact λe=>f4 y a z e.symm
 refine tF m (hn.sameBut sb haC) (λh3 sb3=>?_);exact tO _ H' (I2.turned (t':=s2.toks) (λb o hb e=>(sb3.2 b hb).trans e) f0 f1 f3 f4 f5) q
end
theorem lp{lo:Int}{n:Nat}{g:TG}{tt:TT}{te:TE}{vs:List Nat}{σ:St}{H1:Hp}{D:Addr}{Qd:Hp→Prop}(Pv:Nat→Hp→Prop)(h0:Pv 0 (upd H1 D (.lst [])))(hs:∀i H,i<n→Pv i H→g (.int (lo+i)) (bJ σ vs) H λσ2 H2=>bJ σ2 vs=bJ σ vs∧tt σ2 H2 λb H3 =>
   if b=true then te σ2 H3 λy H4=>∃acc,H4 D=some (.lst acc)∧acc.length<sizeLine∧Pv (i+1) (upd H4 D (.lst (acc++[y]))) else Pv (i+1) H3)(hd:∀H,Pv n H→Qd H):∃W:Nat→Nat→Hp→Prop,(∃m,W 0 m (upd H1 D (.lst [])))∧∀i m H,W i m H →
   ((Itr lo n).stop i H∧Qd H)∨((Itr lo n).go i H∧∃Nx:Hp→Prop,(∀H',Nx H'→∃m',m'<m∧W (i+1) m' H')∧∀x H',(Itr lo n).yld i H x H'→g x (bJ σ vs) H' λσ2 H2=>bJ σ2 vs=bJ σ vs∧tt σ2 H2 λb H3 =>
    if b=true then te σ2 H3 λy H4=>∃acc,H4 D=some (.lst acc)∧acc.length<sizeLine∧Nx (upd H4 D (.lst (acc++[y]))) else Nx H3):=by
 refine tF (λi m H=>m=n-i∧i≤n∧Pv i H) (tK n (by simp) (rO _) h0) ?_;rintro i m H ⟨rfl,hi,p⟩;by_cases hlt:i<n
 ·refine .inr (tX hlt (Pv (i+1)) (λH' p'=>ua (n-(i+1)) (by omega) rfl hlt p') (λx H' y=>?_));obtain⟨e,y⟩:=y;subst e y;exact hs i _ hlt p
 ·have e:i=n:=by omega
  subst e;exact .inl ⟨rL _,hd H p⟩
theorem d6{K:fG}{a:Addr}{xs:List V}{g:TG}{tt:TT}{te:TE}{vs:List Nat}{σ:St}{H1:Hp}{D:Addr}{Qd:Hp→Prop}(Pv:Nat→Hp→Prop)(h0:Pv 0 (upd H1 D (.lst [])))(hl:∀i H,i≤xs.length→Pv i H→SqL K H a xs)(hs:∀i x H,xs[i]?=some x→Pv i H→g x (bJ σ vs) H λσ2 H2=>bJ σ2 vs=bJ σ vs∧tt σ2 H2 λb H3 =>
   if b=true then te σ2 H3 λy H4=>∃acc,H4 D=some (.lst acc)∧acc.length<sizeLine∧Pv (i+1) (upd H4 D (.lst (acc++[y]))) else Pv (i+1) H3)(hd:∀H,Pv xs.length H→Qd H):∃W:Nat→Nat→Hp→Prop,(∃m,W 0 m (upd H1 D (.lst [])))∧∀i m H,W i m H →
   ((Itl K a).stop i H∧Qd H)∨((Itl K a).go i H∧∃Nx:Hp→Prop,(∀H',Nx H'→∃m',m'<m∧W (i+1) m' H')∧∀x H',(Itl K a).yld i H x H'→g x (bJ σ vs) H' λσ2 H2=>bJ σ2 vs=bJ σ vs∧tt σ2 H2 λb H3 =>
    if b=true then te σ2 H3 λy H4=>∃acc,H4 D=some (.lst acc)∧acc.length<sizeLine∧Nx (upd H4 D (.lst (acc++[y]))) else Nx H3):=by
 refine tF (λi m H=>m=xs.length-i∧i≤xs.length∧Pv i H) (tK xs.length (by simp) (rO _) h0) ?_;rintro i m H ⟨rfl,hi,p⟩;have q:=hl i H hi p;by_cases hlt:i<xs.length
 ·refine .inr (tX (tO xs (xs[i]) q (by simp[hlt])) (Pv (i+1)) (λH' p'=>ua (xs.length-(i+1)) (by omega) rfl hlt p') (λx H' y=>?_));obtain⟨e,y⟩:=y;subst e;exact hs i x _ (y xs q) p
 ·have e:i=xs.length:=by omega
  subst e;exact .inl ⟨(tF xs q (rL _)),hd H p⟩
theorem lc_tup{K:fG}{a:Addr}{xs:List V}{g:TG}{tt:TT}{te:TE}{vs:List Nat}{σ:St}{H1:Hp}{D:Addr}{Qd:Hp→Prop}(Pv:Nat→Hp→Prop)(h0:Pv 0 (upd H1 D (.lst [])))(hl:∀i H,i≤xs.length→Pv i H→SqT K H a xs)(hs:∀i x H,xs[i]?=some x→Pv i H→g x (bJ σ vs) H λσ2 H2=>bJ σ2 vs=bJ σ vs∧tt σ2 H2 λb H3 =>
   if b=true then te σ2 H3 λy H4=>∃acc,H4 D=some (.lst acc)∧acc.length<sizeLine∧Pv (i+1) (upd H4 D (.lst (acc++[y]))) else Pv (i+1) H3)(hd:∀H,Pv xs.length H→Qd H):∃W:Nat→Nat→Hp→Prop,(∃m,W 0 m (upd H1 D (.lst [])))∧∀i m H,W i m H →
   ((Itt K a).stop i H∧Qd H)∨((Itt K a).go i H∧∃Nx:Hp→Prop,(∀H',Nx H'→∃m',m'<m∧W (i+1) m' H')∧∀x H',(Itt K a).yld i H x H'→g x (bJ σ vs) H' λσ2 H2=>bJ σ2 vs=bJ σ vs∧tt σ2 H2 λb H3 =>
    if b=true then te σ2 H3 λy H4=>∃acc,H4 D=some (.lst acc)∧acc.length<sizeLine∧Nx (upd H4 D (.lst (acc++[y]))) else Nx H3):=by
 refine tF (λi m H=>m=xs.length-i∧i≤xs.length∧Pv i H) (tK xs.length (by simp) (rO _) h0) ?_;rintro i m H ⟨rfl,hi,p⟩;have q:=hl i H hi p;by_cases hlt:i<xs.length
 ·refine .inr (tX (tO xs (xs[i]) q (by simp[hlt])) (Pv (i+1)) (λH' p'=>ua (xs.length-(i+1)) (by omega) rfl hlt p') (λx H' y=>?_));obtain⟨e,y⟩:=y;subst e;exact hs i x _ (y xs q) p
 ·have e:i=xs.length:=by omega
  subst e;exact .inl ⟨(tF xs q (rL _)),hd H p⟩
end L2
namespace L2
open PySem PySem.Spec PyProof.Rows
end L2
namespace L2
open PySem PySem.Spec PyProof.Rows
section
variable {κ:Type} [DecidableEq κ]
def fT(kvs:List (κ×V))(k:κ):Option V:=(kvs.find? λkv=>decide (kv.1=k)).map (·.2)
def gf(kvs:List (κ×V))(k:κ)(v:V):List (κ×V) :=
 if (kvs.any λkv=>decide (kv.1=k))=true then kvs.map (λkv=>if kv.1=k then (kv.1,v) else kv) else kvs++[(k,v)]
theorem iR{p:κ×V}{r:List (κ×V)}{k:κ}(e:p.1=k):fT (p::r) k=some p.2:=by simp[fT,List.find?_cons,e]
theorem iS{p:κ×V}{r:List (κ×V)}{k:κ}(e:¬p.1=k):fT (p::r) k=fT r k:=by simp[fT,List.find?_cons,e]
theorem oQ(k:κ):∀kvs:List (κ×V),(kvs.any λkv=>decide (kv.1=k))=(fT kvs k).isSome
 |[]=>rfl
 |p::r=>by
  rw[List.any_cons];by_cases e:p.1=k
  ·simp only[iR e,decide_eq_true e,Bool.true_or,Option.isSome_some]
  ·rw[iS e,decide_eq_false e,Bool.false_or];exact oQ k r
theorem jZ(kvs:List (κ×V))(k:κ)(v:V):(gf kvs k v).length≤kvs.length+1:=by
 unfold gf;split
 ·rw[rR];omega
 ·rw[r9,rP,sx];omega
theorem fV.isSome_eq{o:Option V}{u:Option Value}(r:fV o u):o.isSome=u.isSome:=by
 cases o with
 |none=>cases u with
  |none=>rfl
  |some _=>exact(show False from r).elim
 |some _=>cases u with
  |none=>exact(show False from r).elim
  |some _=>rfl
theorem fV.getD{o:Option V}{u:Option Value}{d:V}{d':Value}(r:fV o u)(rd:bg d d'):bg (o.getD d) (u.getD d'):=by
 cases o with
 |none=>cases u with
  |none=>exact rd
  |some _=>exact(show False from r).elim
 |some _=>cases u with
  |none=>exact(show False from r).elim
  |some _=>exact r
theorem KV.val{kvs:List (κ×V)}{vs:List (κ×Value)}(r:KV kvs vs)(k:κ):fV (fT kvs k) (valueAt vs k):=by
 unfold KV at r;induction r with
 |nil=>exact True.intro
 |@cons p q ps qs h t ih =>
  obtain⟨h1,h2⟩:=h;by_cases e:p.1=k
  ·have e':q.1=k:=h1.symm.trans e;have b:valueAt (q::qs) k=some q.2:=by simp[valueAt,List.find?_cons,e']
   rw[iR e,b];exact h2
  ·have e':¬q.1=k:=λz=>e (h1.trans z);have b:valueAt (q::qs) k=valueAt qs k:=by simp[valueAt,List.find?_cons,e']
   rw[iS e,b];exact ih
theorem KV.any{kvs:List (κ×V)}{vs:List (κ×Value)}(r:KV kvs vs)(k:κ):(kvs.any λkv=>decide (kv.1=k))=vs.any λkv=>decide (kv.1=k):=by
 unfold KV at r;induction r with
 |nil=>rfl
 |cons h t ih=>rw[List.any_cons,List.any_cons,ih,h.1]
theorem KV.repl{kvs:List (κ×V)}{vs:List (κ×Value)}(r:KV kvs vs)(k:κ){y:V}{u:Value}(ry:bg y u):KV (kvs.map λkv=>if kv.1=k then (kv.1,y) else kv) (vs.map λkv=>if kv.1=k then (kv.1,u) else kv):=by
 unfold KV at r ⊢;induction r with
 |nil=>exact .nil
 |@cons p q ps qs h t ih =>
  rw[rQ,rQ];refine .cons ?_ ih;obtain⟨h1,h2⟩:=h;by_cases e:p.1=k
  ·rw[if_pos e,if_pos (h1.symm.trans e)];exact⟨h1,ry⟩
  ·rw[if_neg e,if_neg (λz=>e (h1.trans z))];exact⟨h1,h2⟩
theorem KV.put{kvs:List (κ×V)}{vs:List (κ×Value)}(r:KV kvs vs)(k:κ){y:V}{u:Value}(ry:bg y u):KV (gf kvs k y) (stored vs k u):=by
 unfold gf stored;rw[r.any k];by_cases e:(vs.any λkv=>decide (kv.1=k))=true
 ·rw[if_pos e,if_pos e];exact r.repl k ry
 ·rw[if_neg e,if_neg e];exact Paired.snoc r ⟨rfl,ry⟩
theorem KV.length{kvs:List (κ×V)}{vs:List (κ×Value)}(r:KV kvs vs):kvs.length=vs.length:=Paired.length r
end
theorem kV_is{P:Program}{w:World}{k:Key}{u:Value}(r:bg (kV k) u):(bB P w).is k u=true:=by
 cases k with
 |inl i=>obtain⟨t,e⟩:=(show ∃t,u=Value.int i t from r);subst e;exact pW P w i t
 |inr x=>obtain⟨t,e⟩:=(show ∃t,u=Value.str x t from r);subst e;exact pV P w x t
theorem mG{P:Program}{w:World}:∀{ks:List Key} {us:List Value},aW (ks.map kV) us→ItemsAre (bB P w) ks us
 |[],_,r=>by rw[List.map_nil]at r;cases r;exact .nil
 |k::ks,_,r=>by
  rw[rQ]at r;cases r with
  |cons h t=>exact .cons (kV_is h) (mG t)
abbrev KT(H:Hp):List (List Key×V)→List (List Key×Addr×Value)→Prop:=Paired λp q=>p.1=q.1∧H q.2.1=some (.tup (p.1.map kV))∧bg p.2 q.2.2
theorem KT.val{H:Hp}{kvs:List (List Key×V)}{xs:List (List Key×Addr×Value)}(r:KT H kvs xs)(k:List Key):fV (fT kvs k) ((atKey xs k).map (·.2)):=by
 induction r with
 |nil=>exact True.intro
 |@cons p q ps qs h t ih =>
  obtain⟨h1,_,h2⟩:=h;by_cases e:p.1=k
  ·have e':q.1=k:=h1.symm.trans e;have b:atKey (q::qs) k=some q.2:=by simp[atKey,List.find?_cons,e']
   rw[iR e,b];exact h2
  ·have e':¬q.1=k:=λz=>e (h1.trans z);have b:atKey (q::qs) k=atKey qs k:=by simp[atKey,List.find?_cons,e']
   rw[iS e,b];exact ih
theorem KT.repl{H:Hp}{kvs:List (List Key×V)}{xs:List (List Key×Addr×Value)}(r:KT H kvs xs)(k:List Key){y:V}{u:Value}(ry:bg y u):KT H (kvs.map λkv=>if kv.1=k then (kv.1,y) else kv) (xs.map (putAt k u)):=by
 induction r with
 |nil=>exact .nil
 |@cons p q ps qs h t ih =>
  rw[rQ,rQ];refine .cons ?_ ih;obtain⟨h1,h2,h3⟩:=h;unfold putAt;by_cases e:p.1=k
  ·rw[if_pos e,if_pos (h1.symm.trans e)];exact tS h1 h2 ry
  ·rw[if_neg e,if_neg (λz=>e (h1.trans z))];exact tS h1 h2 h3
theorem KT.put{H:Hp}{kvs:List (List Key×V)}{xs:List (List Key×Addr×Value)}(r:KT H kvs xs)(k:List Key){b:Addr}{y:V}{u:Value}(hb:H b=some (.tup (k.map kV)))(ry:bg y u):KT H (gf kvs k y) (storedH xs k b u):=by
 have e:(kvs.any λkv=>decide (kv.1=k))=(atKey xs k).isSome:=by
  rw[oQ,(r.val k).isSome_eq,Option.isSome_map]
 unfold gf storedH;rw[e];by_cases q:(atKey xs k).isSome=true
 ·rw[if_pos q,if_pos q];exact r.repl k ry
 ·rw[if_neg q,if_neg q];exact Paired.snoc r (tS rfl hb ry)
theorem KT.keeps{H H':Hp}{kvs:List (List Key×V)}{xs:List (List Key×Addr×Value)}(r:KT H kvs xs)(ht:∀b ys,H b=some (.tup ys)→H' b=some (.tup ys)):KT H' kvs xs :=
 Paired.mapP r λ_ _ z=>tS z.1 (ht _ _ z.2.1) z.2.2
section
variable {P:Program} {w:World} {H:Hp} {h:Heap} {a:Addr}
theorem rd_of{u:HO}(ok:HOk P w H h)(e:Rd H a u):bI P w H h a u:=e.ok ok
theorem dk_rd{kvs:List (Key×V)}(ok:HOk P w H h)(e:Rd H a (.dK kvs)):kvs.length≤sizeLine∧(a==sysModules)=false∧∃vs,KV kvs vs∧h.DictOf (bB P w) a vs :=
 show bI P w H h a (.dK kvs) from rd_of ok e
theorem dk_of{kvs:List (Key×V)}(ok:HOk P w H h)(e:H a=some (.dK kvs)):kvs.length≤sizeLine∧(a==sysModules)=false∧∃vs,KV kvs vs∧h.DictOf (bB P w) a vs:=dk_rd ok (.inl e)
theorem iD{ks:List Key}(ok:HOk P w H h)(e:H a=some (.tup (ks.map kV))):(tupleKind (bB P w)).is h ks a:=by
 obtain⟨_,its,r,o,h1,h2,n,h3⟩:=(show bI P w H h a (.tup (ks.map kV)) from ok a _ e)
 exact tI o its.toArray n h1 h2 h3 (by simpa using mG r)
theorem dt_rd{kvs:List (List Key×V)}(ok:HOk P w H h)(e:Rd H a (.dT kvs)):kvs.length≤sizeLine∧(a==sysModules)=false ∧
  ∃xs,KT H kvs xs∧h.DictOfH (tupleKind (bB P w)) a xs:=by
 obtain⟨z,y,xs,r,o,es,ep,h1,h2,h3,h4,h5⟩:=(show bI P w H h a (.dT kvs) from rd_of ok e)
 refine t9 z y xs r o es (tJ ep h1 h2 h3 h4 (λx hx=>?_) h5);have all:∀{l:List (List Key×V)} {m:List (List Key×Addr×Value)},KT H l m→∀x∈m,(tupleKind (bB P w)).is h x.1 x.2.1:=by
  intro l m q;induction q with
  |nil=>intro x hx;exact nomatch hx
  |@cons p q ps qs hq t ih =>
   intro x hx;rcases rC.mp hx with e|hx
   ·subst e;exact iD ok (by rw[←hq.1];exact hq.2.1)
   ·exact ih x hx
 exact all r x hx
theorem dt_of{kvs:List (List Key×V)}(ok:HOk P w H h)(e:H a=some (.dT kvs)):kvs.length≤sizeLine∧(a==sysModules)=false ∧
  ∃xs,KT H kvs xs∧h.DictOfH (tupleKind (bB P w)) a xs:=dt_rd ok (.inl e)
end
def DGet(H:Hp)(a:Addr)(y:V)(r:Option V):Prop :=
 (∃kvs k,Rd H a (.dK kvs)∧y=kV k∧r=fT kvs k)∨∃kvs k b,Rd H a (.dT kvs)∧y=.ref b∧H b=some (.tup (k.map kV))∧r=fT kvs k
def DPut(H:Hp)(a:Addr)(y v:V)(H':Hp):Prop :=
 (∃kvs k,H a=some (.dK kvs)∧y=kV k∧kvs.length<sizeLine∧H'=upd H a (.dK (gf kvs k v))) ∨
 ∃kvs k b,H a=some (.dT kvs)∧y=.ref b∧H b=some (.tup (k.map kV))∧kvs.length<sizeLine∧H'=upd H a (.dT (gf kvs k v))
theorem DGet.t{H:Hp}{a b:Addr}{kvs:List (List Key×V)}{k:List Key}(e:H a=some (.dT kvs))(eb:H b=some (.tup (k.map kV))):DGet H a (.ref b) (fT kvs k):=.inr (tI kvs k b (.inl e) rfl eb rfl)
theorem DPut.t{H:Hp}{a b:Addr}{kvs:List (List Key×V)}{k:List Key}{v:V}(e:H a=some (.dT kvs))(eb:H b=some (.tup (k.map kV)))(hl:kvs.length<sizeLine):DPut H a (.ref b) v (upd H a (.dT (gf kvs k v))):=.inr ⟨kvs,tG k b e rfl eb hl rfl⟩
section
variable {X:Cx} {pins:List (Addr×Obj)} {σ:St} {H:Hp} {s:Shared} {a:Addr} {y v:V} {u r:Value} {o:Option V} {A:Around} {E:Value→Shared→Prop}
theorem Inv.big(I:Inv X pins σ H s):sysModules<s.heap.objs.size:=by
 have h:mainGlobals<s.heap.objs.size:=(I.mod.glob.keeps I.bk).lt;exact Nat.lt_trans (by decide) h
theorem d_getItem{Q:Value→Shared→Prop}(hu:A.units+1<cLine)(I:Inv X pins σ H s)(g:DGet H a y (some v))(ry:bg y u)(h:∀w' s',Inv X pins σ H s'→bg v w'→Q w' s'):wpAny (model X.prog X.w) A (getItem (.ref a) u) Q E s:=by
 rcases g with⟨kvs,k,e,ey,l⟩|⟨kvs,k,b,e,ey,eb,l⟩
 ·subst ey;obtain⟨z,hd,vs,rel,dd⟩:=dk_rd I.hok e;obtain⟨w',hw,rw'⟩:=fV.some_of (v:=v) (o:=valueAt vs k) (by rw[l];exact rel.val k);exact wpAny_getItem_of (kV_is ry) dd.mapOf hw (h w' _ (I.tok _) rw')
 ·subst ey;cases (show u=Value.ref b from ry);obtain⟨z,hd,xs,rel,dd⟩:=dt_rd I.hok e;obtain⟨w',hw,rw'⟩:=fV.some_of (v:=v) (o:=(atKey xs k).map (·.2)) (by rw[l];exact rel.val k);obtain⟨p,hp,hp2⟩:=Option.map_eq_some_iff.mp hw;refine wpAny_getItem_heap (tupleKind_room_in1 hu) (iD I.hok eb) dd hp ?_;rw[hp2];exact h w' _ (I.tok _) rw'
theorem kt{h':Heap}{t':Nat}{ob:HO}(I:Inv X pins σ H s)(mu:Mut (H a))(hs:Heap.SameBut a s.heap h')(he:∃q,h'.get? a=some q)(new:bI X.prog X.w (upd H a ob) h' a ob):Inv X pins σ (upd H a ob) {s with heap:=h',toks:=t'} :=
 I.write (x:=a) (e:=a) mu (.inl rfl) (λb q hb z=>(hs.2 b hb).trans z) he new
theorem dk_new{P:Program}{w:World}{H':Hp}{h':Heap}{kvs:List (Key×V)}{vs:List (Key×Value)}(z:kvs.length≤sizeLine)(hd:(a==sysModules)=false)(rel:KV kvs vs)(dd:h'.DictOf (bB P w) a vs):bI P w H' h' a (.dK kvs):=uz z hd vs rel dd
theorem d_setItem{H':Hp}{Q:Unit→Shared→Prop}(hu:A.units+1<cLine)(I:Inv X pins σ H s)(g:DPut H a y v H')(ry:bg y u)(rv:bg v r)(h:∀s',Inv X pins σ H' s'→Q () s'):wpAny (model X.prog X.w) A (setItem (.ref a) u r) Q E s:=by
 rcases g with⟨kvs,k,e,ey,l,eH⟩|⟨kvs,k,b,e,ey,eb,l,eH⟩
 ·subst ey eH;obtain⟨z,hd,vs,rel,dd⟩:=dk_of I.hok e;have hz:vs.length≤sizeLine:=by rw[←rel.length];exact z
  have hl:(gf kvs k v).length≤sizeLine:=by have:=jZ kvs k v;omega
  refine wpAny_setItem_pairs (hsz:=hz) (kV_is ry) dd λh' dd' hs=>h _ ?_;have he:∃q,h'.get? a=some q:=let ⟨q,_,_,hq,_⟩:=dd';⟨q,hq⟩;exact kt I (by rw[e];exact True.intro) hs he (dk_new hl hd (rel.put k rv) dd')
 ·subst ey eH;cases (show u=Value.ref b from ry);obtain⟨z,hd,xs,rel,dd⟩:=dt_of I.hok e;have hz:xs.length≤sizeLine:=by rw[←Paired.length rel];exact z
  have hl:(gf kvs k v).length≤sizeLine:=by have:=jZ kvs k v;omega
  refine wpAny_setItem_heap (hsz:=hz) (tupleKind_room_in1 hu) (iD I.hok eb) dd λh' dd' hs=>h _ ?_;obtain⟨q,es,ep,hq,h2,h3,h4,_,h5⟩:=dd';refine kt I (by rw[e];exact True.intro) hs ⟨q,hq⟩ (t9 hl hd _ ((rel.put k eb rv).keeps λc ys ec=>?_) q es (t8 ep hq h2 h3 h4 h5));rw[af (a9 ec e (λz=>nomatch z))];exact ec
end
def NoSl(i:Expr):Prop:=∀ov iv,subscripted i false ov iv=operate [ov,iv] (getItem ov iv)
theorem subD_of{prog:Program}{w:World}{A:Around}{E:Value→Shared→Prop}{s:Shared}{env:Env}{value slice:Expr}{pos:Pos}{T id:String}{Q:Value→Shared→Prop}(hl:typeLookup (.type T) "__getitem__" = pure (some (.builtin id)))(hs:NoSl slice)(h:wpAny (model prog w) A (eval value env) (λo s₁=>wpAny (model prog w) A (eval slice env) (λi s₂=>s₂.TypeIs o T∧wpAny (model prog w) A (getItem o i) Q E s₂) E s₁) E s):wpAny (model prog w) A (eval (.Subscript value slice pos) env) Q E s:=by
 refine Subscript_ (wpAny_mono h (λo s₁ h₁=>wpAny_mono h₁ (λi s₂ h₂=>?_) λ_ _ x=>x) λ_ _ x=>x);obtain⟨hT,h₂⟩:=h₂;unfold subscriptTail;refine wpAny_bind ?_;rw[getitemInPython_of_ne hT.not_modules];refine wpAny_bind (wpAny_specialOf hT hl ?_);have fin:wpAny (model prog w) A (subscripted slice false o i) (λr s₃=>wpAny (model prog w) A (letTemporaryGo value o r >>= λ_=>pure r) Q E s₃) E s₂:=by
  rw[hs o i];exact wpAny_operating (wpAny_mono h₂ (λr s₃ h₃=>wpAny_bind (wpAny_letTemporaryGo (wpAny_pure h₃))) λ_ _ x=>x)
 first
  |exact wpAny_pure (wpAny_bind fin)
  |exact wpAny_bind (wpAny_pure (wpAny_bind fin))
  |exact wpAny_bind fin
theorem qi{X:Cx}{pins:List (Addr×Obj)}{σ:St}{H:Hp}{s:Shared}{a:Addr}{y:V}{o:Option V}(I:Inv X pins σ H s)(g:DGet H a y o):s.TypeIs (.ref a) "dict":=by
 rcases g with⟨kvs,k,e,_,_⟩|⟨kvs,k,b,e,_,_,_⟩
 ·obtain⟨_,_,vs,_,dd⟩:=dk_rd I.hok e;exact dd.typeIs
 ·obtain⟨_,_,xs,_,dd⟩:=dt_rd I.hok e;exact dd.typeIs
def tDGet(td ty:TE):TE:=λσ H Q=>td σ H λx H1=>ty σ H1 λy H2=>∃a v,x=.ref a∧DGet H2 a y (some v)∧Q v H2
def sDPut(td ty tv:TE):TS:=λD σ H=>tv σ H λv H1=>td σ H1 λx H2=>ty σ H2 λy H3=>∃a H4,x=.ref a∧DPut H3 a y v H4∧D.nx σ H4
section
variable {X:Cx} {o i e value:Expr} {pos pos' tpos:Pos} {td ty tv:TE}
theorem pe_dget(hu:X.A.units+1<cLine)(ho:PE X o td)(hi:PE X i ty)(hs:NoSl i):PE X (.Subscript o i pos) (tDGet td ty):=by
 intro pins s σ H Q I h;refine subD_of PySem.F.slot_dict_getitem.lookup hs (thn (ho pins s σ H _ I h) λu s1 ⟨x,H1,I1,rx,q1⟩=>thn (hi pins s1 σ H1 _ I1 q1) λiv s2 ⟨y,H2,I2,ry,a,v,ex,g,q2⟩=>?_);subst ex;obtain rfl:u=Value.ref a:=rx;exact⟨qi I2 g,d_getItem hu I2 g ry λw' s3 I3 rw'=>tH v H2 I3 rw' q2⟩
theorem ps_dput(hu:X.A.units+1<cLine)(ho:PE X o td)(hi:PE X i ty)(hv:PE X value tv)(hs:swapsWith value (some (.Subscript o i pos')) pos.line X.env=pure false):PS X (.Assign [.Subscript o i pos'] value pos) (sDPut td ty tv):=by
 intro pins s σ H D I h;refine wpAny_Assign_Subscript (thn (hv pins s σ H _ I h) λr s1 ⟨v,H1,I1,rv,q1⟩=>thn (ho pins s1 σ H1 _ I1 q1) λu s2 ⟨x,H2,I2,rx,q2⟩=>thn (hi pins s2 σ H2 _ I2 q2) λiv s3 ⟨y,H3,I3,ry,a,H4,ex,g,q3⟩=>?_) hs;subst ex;obtain rfl:u=Value.ref a:=rx;exact d_setItem hu I3 g ry rv λs4 I4=>tO σ H4 I4 q3
end
theorem qh{P:Program}{w:World}{H:Hp}(h:Heap)(hb:sysModules<h.objs.size):bI P w H (h.push {cls:=.type "dict",data:=.dict #[]}) h.objs.size (.dT []) :=
 (t9 (rO _) (beq_eq_false_iff_ne.mpr (Ne.symm (rm hb))) [] .nil _ (#[]) (t8 0 (rK _ rfl) (tS rfl rfl rfl) rfl rfl List.nodup_nil))
def tDNewT:TE:=λ_ H Q=>∀p,H p=none→Q (.ref p) (upd H p (.dT []))
section
variable {X:Cx} {pos:Pos}
theorem pD:PE X (.Dict [] [] pos) tDNewT:=λpins s σ H Q I h =>
 wpAny_Dict_empty (tH (.ref s.heap.objs.size) _ (I.laid (a:=s.heap.objs.size) (o:=.dT []) (t':=s.toks) (λ_ _ q=>rJ _ q) (rL _) (qh s.heap I.big)) rfl (h _ (I.hok.fresh (rL _))))
end
structure M2(X:Cx)(o:Expr)(m:Str)(apos:Pos)(e f:Expr)(cpos:Pos):Prop where
 base:attributeBase o m X.env (eval o X.env)=eval o X.env
 few:((backTo cpos (starEach [e,f] X.env)).all (λx=>!x.1)&&(backToKw cpos (keywordEach [] X.env)).all (λx=>x.1.isSome)
  && decide (([e,f]:List Expr).length+([]:List Keyword).length+(if ([]:List Keyword).isEmpty then 0 else 1)<30))=true
 line:(apos.endLine==cpos.line)=true
 trees:backTo cpos (starEach [e,f] X.env)=[(false,eval e X.env),(false,eval f X.env)]
def IsD(H:Hp)(a:Addr):Prop:=(∃kvs,Rd H a (.dK kvs))∨∃kvs,Rd H a (.dT kvs)
theorem isD_at{X:Cx}{pins:List (Addr×Obj)}{σ:St}{H:Hp}{s:Shared}{a:Addr}(I:Inv X pins σ H s)(d:IsD H a):s.TypeIs (.ref a) "dict"∧(∀b,Value.ref a=.ref b→∃ob,s.heap.get? b=some ob∧ob.dict=none)∧(a==sysModules)=false:=by
 rcases d with⟨kvs,e⟩|⟨kvs,e⟩
 ·obtain⟨_,hd,vs,_,dd⟩:=dk_rd I.hok e;refine tS dd.typeIs (λb q=>?_) hd;cases q;obtain⟨ob,_,_,h1,h2,_⟩:=dd;exact tF ob h1 h2.2.1
 ·obtain⟨_,hd,xs,_,dd⟩:=dt_rd I.hok e;refine tS dd.typeIs (λb q=>?_) hd;cases q;obtain⟨ob,_,_,h1,h2,_⟩:=dd;exact tF ob h1 h2.2.1
section
variable {X:Cx} {pins:List (Addr×Obj)} {σ:St} {H:Hp} {s:Shared} {a:Addr} {y d:V} {u r:Value} {o:Option V} {A:Around} {E:Value→Shared→Prop}
theorem d_get2{Q:Value→Shared→Prop}(hu:A.units+1<cLine)(I:Inv X pins σ H s)(g:DGet H a y o)(ry:bg y u)(rd:bg d r)(h:∀w' s',Inv X pins σ H s'→bg (o.getD d) w'→Q w' s'):wpAny (model X.prog X.w) A (call (.builtin "dict.get") [.ref a,u,r]) Q E s:=by
 rcases g with⟨kvs,k,e,ey,l⟩|⟨kvs,k,b,e,ey,eb,l⟩
 ·subst ey;obtain⟨z,hd,vs,rel,dd⟩:=dk_rd I.hok e;refine call_meetsIn PySem.F.slot_dict_get dd.typeIs PySem.F.entry_dict_get (PySem.F.args_dict_get_3 _ _ _) (meets_dict_get_default (bB X.prog X.w) a (kV_is ry) hd r) (tF _ dd.mapOf (h _ _ (I.tok _) ?_));rw[l];exact(rel.val k).getD rd
 ·subst ey;cases (show u=Value.ref b from ry);obtain⟨z,hd,xs,rel,dd⟩:=dt_rd I.hok e;refine call_meetsIn PySem.F.slot_dict_get dd.typeIs PySem.F.entry_dict_get (PySem.F.args_dict_get_3 _ _ _) (meetsH_dict_get_default (tupleKind (bB X.prog X.w)) a b hd r) (uB (tupleKind_room_in1 hu) k xs (iD I.hok eb) dd (h _ _ (I.tok _) ?_));rw[l];exact(rel.val k).getD rd
end
def tDGet2(td ty tx:TE):TE:=λσ H Q=>td σ H λx H1=>∃a,x=.ref a∧IsD H1 a∧ty σ H1 λy H2=>tx σ H2 λz H3=>∃o,DGet H3 a y o∧Q (o.getD z) H3
section
variable {X:Cx} {o e f:Expr} {apos cpos:Pos} {td ty tx:TE}
theorem pe_dget2(hu:X.A.units+1<cLine)(ho:PE X o td)(he:PE X e ty)(hf:PE X f tx)(m:M2 X o "get" apos e f cpos):PE X (.Call (.Attribute o "get" apos) [e,f] [] cpos) (tDGet2 td ty tx):=by
 intro pins s σ H Q I h;refine wpAny_Call_method m.base m.few m.line PySem.F.plainAttrs_dict PySem.F.slot_dict_get PySem.F.type_dict_get (thn (ho pins s σ H _ I h) λu s1 ⟨x,H1,I1,rx,a,ex,d,q1⟩=>?_);subst ex;obtain rfl:u=Value.ref a:=rx;obtain⟨t1,t2,_⟩:=isD_at I1 d;refine tS t1 t2 ?_;rw[m.trees];refine Calls.callWith_builtin rfl (Calls.evalArgs_plain (Calls.spliced_cons (thn (he pins s1 σ H1 _ I1 q1) λiv s2 ⟨y,H2,I2,ry,q2⟩ =>
  Calls.spliced_cons (thn (hf pins s2 σ H2 _ I2 q2) λfv s3 ⟨z,H3,I3,rz,ov,g,q3⟩=>Calls.spliced_nil ?_))))
 exact d_get2 hu I3 g ry rz λw' s4 I4 rw'=>tH _ H3 I4 rw' q3
end
end L2
namespace L2
open PySem PySem.Spec PyProof.Rows
end L2
namespace L2
open PySem PySem.Spec PyProof.Rows
theorem lF:bootBuiltins "reversed" = some (.type "reversed"):=by decide +kernel
section
variable {X:Cx} {pins:List (Addr×Obj)} {σ:St} {H:Hp} {s:Shared} {h':Heap}
theorem Inv.turnedL{t':Nat}{ch:List Addr}(I:Inv X pins σ H s)(k:∀b o,b∉ch→s.heap.get? b=some o→h'.get? b=some o)(hf:∀b∈ch,kg X pins H b):Inv X pins σ H {s with heap:=h',toks:=t'}:=by
 have nit:∀b u,H b=some u→b∉ch:=λb u e z=>by
  have q:=(hf b z).1;rw[q]at e;cases e
 refine I.step (g':=s.gens) (d':=s.drawn) (ch:=ch) (λb hb=>ud ((hf b hb).2.2.2.1) ((hf b hb).2.1) ((hf b hb).2.2.2.2.1) ((hf b hb).2.2.2.2.2)) (λb o _ _ hc e _=>k b o hc e) (λb o _ _ hc e _=>⟨o.slots,k b o hc e⟩)
  (λ_ _ _ _ n=>n) (λb o hc e=>⟨o,k b o hc e⟩) (λ_ _ e=>e) (λ_ _ _ e=>e) (λb ps e=>⟨#[],by rw[e];simp⟩) (λm hm=>?_) (λb u e=>?_) I.bare
 ·obtain⟨o,es,ep,ho,r⟩:=hm;exact t6 o es ep (k _ o (λz=>(hf _ z).2.1 rfl) ho) r
 ·refine(I.hok b u e).stay (λc v hc q=>k c v ?_ q) (λ_ q=>q) λ_ _ q=>q;rcases hc with z|z
  ·rw[z];exact nit b u e
  ·exact nit c _ z
theorem Inv.turnedNew{t':Nat}{ch:List Addr}{T:Addr}{ob:HO}(I:Inv X pins σ H s)(k:∀b o,b∉ch→s.heap.get? b=some o→h'.get? b=some o)(hf:∀b∈ch,kg X pins H b)(hT:s.heap.objs.size≤T)(new:bI X.prog X.w (upd H T ob) h' T ob):Inv X pins σ (upd H T ob) {s with heap:=h',toks:=t'}:=by
 have hn:H T=none:=I.hok.fresh hT;have nit:∀b u,H b=some u→b∉ch:=λb u e z=>by
  have q:=(hf b z).1;rw[q]at e;cases e
 refine I.step (g':=s.gens) (d':=s.drawn) (ch:=ch) (λb hb=>ud ((hf b hb).2.2.2.1) ((hf b hb).2.1) ((hf b hb).2.2.2.2.1) ((hf b hb).2.2.2.2.2)) (λb o _ _ hc e _=>k b o hc e) (λb o _ _ hc e _=>⟨o.slots,k b o hc e⟩)
  (λb o _ e n=>?_) (λb o hc e=>⟨o,k b o hc e⟩) (λb xs e=>?_) (λb o u e=>?_) (λb ps e=>⟨#[],?_⟩) (λm hm=>?_) (λb u e=>?_) I.bare
 ·rw[af (rm (rh (rg e) hT))];exact n
 ·rw[af (ai e hn)];exact e
 ·rw[af (ai e hn)];exact e
 ·rw[af (ai e hn),e];simp
 ·obtain⟨o,es,ep,ho,r⟩:=hm;exact t6 o es ep (k _ o (λz=>(hf _ z).2.1 rfl) ho) r
 ·by_cases hb:b=T
  ·subst hb;rw[ac]at e;cases e;exact new
  ·rw[af hb]at e;refine(I.hok b u e).stay (λc v hc q=>k c v ?_ q) (λc q=>by rw[af (ai q hn)];exact q) λc xs q=>by rw[af (ai q hn)];exact q
   rcases hc with z|z
   ·rw[z];exact nit b u e
   ·exact nit c _ z
theorem Inv.lock{d:Addr}{u:HO}(I:Inv X pins σ H s)(h:H d=some u)(mu:Mut (some u)):∃od,Inv X pins σ (upd H d (.frz od u)) s:=by
 have x:=I.hok d u h;have ex:∃od,s.heap.get? d=some od:=by
  cases u with
  |lst xs=>obtain⟨_,_,_,_,e⟩:=x;exact⟨_,e⟩
  |dK kvs=>obtain⟨_,_,_,_,o,_,_,e,_⟩:=x;exact⟨o,e⟩
  |dT kvs=>obtain⟨_,_,_,_,o,_,_,e,_⟩:=x;exact⟨o,e⟩
  |set S n=>obtain⟨o,_,_,_,e,_⟩:=x;exact⟨o,e⟩
  |ins C dx fs=>obtain⟨_,_,_,e,_⟩:=x;exact⟨_,e⟩
  |ext φ=>obtain⟨_,⟨_,e⟩,_⟩:=x;exact⟨_,e⟩
  |_=>exact False.elim mu
 obtain⟨od,e⟩:=ex;have new:bI X.prog X.w (upd H d (.frz od u)) s.heap d (.frz od u):=by
  refine⟨e,x.stay (λb v _ q=>q) (λb q=>?_) λb xs q=>?_⟩
  ·rw[af (λz=>by rw[z,h]at q;cases q;exact mu)];exact q
  ·rw[af (λz=>by rw[z,h]at q;cases q;exact mu)];exact q
 exact⟨od,I.write (x:=d) (e:=d) (t':=s.toks) (h':=s.heap) (by rw[h];exact mu) (.inl rfl) (λb v _ q=>q) ⟨od,e⟩ new⟩
theorem Inv.nofrz{d:Addr}{u:HO}(I:Inv X pins σ H s)(h:H d=some u)(mu:Mut (some u)):∀o' u',X.H_0 d≠some (.frz o' u'):=λo' u' e=>by
 have q:=I.base.frzs d o' u' e;rw[h]at q;cases q;exact mu
theorem Inv.unlock{d:Addr}{od:Obj}{u:HO}(I:Inv X pins σ H s)(h:H d=some (.frz od u))(hn:∀o' u',X.H_0 d≠some (.frz o' u')):Inv X pins σ (upd H d u) s:=by
 have neH:∀b o,H b=some o→(∀o' u',o≠.frz o' u')→b≠d:=λb o e hne z=>by
  rw[z,h]at e;cases e;exact hne _ _ rfl
 have neN:∀b,H b=none→b≠d:=λb e z=>by rw[z,h]at e;cases e
 refine⟨I.ok,I.os,I.bare,⟨I.base.keep,I.base.slot,λb o e n hx=>?_,I.base.there,λb xs e=>?_,λb o x e=>?_,λb ps e=>?_⟩,I.loc,I.cell,?_,λx c e=>?_,λp hp=>?_,λb o e=>?_,I.len⟩
 ·rw[af (neN b (I.base.free b o e n hx))];exact I.base.free b o e n hx
 ·have q:=I.base.tups b xs e;rw[af (neH b _ q (λ_ _ z=>nomatch z))];exact q
 ·have q:=I.base.frzs b o x e;rw[af (λz=>by rw[z]at e;exact hn _ _ e)];exact q
 ·obtain⟨m,q⟩:=I.base.tbls b ps e;exact⟨m,by rw[af (neH b _ q (λ_ _ z=>nomatch z))];exact q⟩
 ·rw[af (neN _ I.free)];exact I.free
 ·rw[af (neN c (I.freeC x c e))];exact I.freeC x c e
 ·obtain⟨e,n,r⟩:=I.pin p hp;exact tS e (by rw[af (neN _ n)];exact n) r
 ·by_cases hb:b=d
  ·rw[hb,ac]at e;cases e;rw[hb];obtain⟨_,x⟩:=I.hok d _ h;exact x.stay (λc v _ q=>q) (λc q=>by rw[af (neH c _ q (λ_ _ z=>nomatch z))];exact q) λc xs q=>by rw[af (neH c _ q (λ_ _ z=>nomatch z))];exact q
  ·rw[af hb]at e;exact(I.hok b o e).stay (λc v _ q=>q) (λc q=>by rw[af (neH c _ q (λ_ _ z=>nomatch z))];exact q) λc xs q=>by rw[af (neH c _ q (λ_ _ z=>nomatch z))];exact q
end
def tLock(t:TS):TS:=λD σ H=>∃d u,H d=some u∧Mut (some u)∧∀od,t ⟨λσ' H'=>H' d=some (.frz od u)∧D.nx σ' (upd H' d u),λv H'=>H' d=some (.frz od u)∧D.rt v (upd H' d u),λσ' H'=>H' d=some (.frz od u)∧D.bk σ' (upd H' d u),λσ' H'=>H' d=some (.frz od u)∧D.ct σ' (upd H' d u)⟩ σ (upd H d (.frz od u))
def tLockE(t:TE):TE:=λσ H Q=>∃d u,H d=some u∧Mut (some u)∧∀od,t σ (upd H d (.frz od u)) λv H'=>H' d=some (.frz od u)∧Q v (upd H' d u)
section
variable {X:Cx}
theorem ps_lock{st:Stmt}{t:TS}(h:PS X st t):PS X st (tLock t):=by
 intro pins s σ H D I hw;obtain⟨d,u,hd,mu,hw⟩:=hw;obtain⟨od,I1⟩:=I.lock hd mu;refine thn (h pins s σ _ _ I1 (hw od)) λf s1 q=>?_;cases f with
 |next=>obtain⟨σ',H',I2,e,q⟩:=q;exact tO σ' _ (I2.unlock e (I.nofrz hd mu)) q
 |brk=>obtain⟨σ',H',I2,e,q⟩:=q;exact tO σ' _ (I2.unlock e (I.nofrz hd mu)) q
 |cont=>obtain⟨σ',H',I2,e,q⟩:=q;exact tO σ' _ (I2.unlock e (I.nofrz hd mu)) q
 |ret v=>obtain⟨x,σ',H',I2,r,e,q⟩:=q;exact tM x σ' _ (I2.unlock e (I.nofrz hd mu)) r q
theorem nQ{e:Expr}{t:TE}(h:PE X e t):PE X e (tLockE t):=by
 intro pins s σ H Q I hw;obtain⟨d,u,hd,mu,hw⟩:=hw;obtain⟨od,I1⟩:=I.lock hd mu;refine thn (h pins s σ _ _ I1 (hw od)) λv s1 ⟨x,H1,I2,r,e2,q⟩=>?_;exact tH x _ (I2.unlock e2 (I.nofrz hd mu)) r q
theorem pi_one{tg:Expr}{pins:List (Addr×Obj)}{σ:St}{H:Hp}{s:Shared}{R:It→Hp→Prop}{J:It}{tn:Nat→Heap→Prop}{tk:Nat}(I:Inv X pins σ H s)(o:Obj)(T:Turn X.prog X.w X.K tg J [s.heap.objs.size] s.heap.objs.size tn)(st:tn 0 (s.heap.push o))(q:R J H):PIE X pins σ tg R (.ref s.heap.objs.size) {s with heap:=s.heap.push o,toks:=tk}:=by
 refine tY s.heap.objs.size [s.heap.objs.size] tn J (tJ H rfl (I.kept λb ob e=>rJ _ e) T st (λb hb=>?_) q);have e:b=s.heap.objs.size:=by simpa using hb
 subst e;exact I.fpOk (rL _) (I.hok.fresh (rL _))
end
def Itc(lo c:Int)(n:Nat):It:=⟨λi _=>i<n,λi H x H'=>H'=H∧x=.int (lo+(i:Nat)*c),λi _=>n≤i⟩
theorem oS{P:Program}{w:World}{K:fG}{tg:Expr}(it:Addr)(lo c:Int)(n:Nat):Turn P w K tg (Itc lo c n) [it] it (λi h=>IsRangeIter h it (lo+(i:Nat)*c) ((n:Int)-(i:Nat)) c) where
 mem:=by simp
 obj:=λi h st b hb=>by
  have e:b=it:=by simpa using hb
  subst e;exact tF _ st (λv z=>nomatch z)
 keep:=λi h h' st k=>k it (by simp) _ st
 item:=by
  intro X hP hw hK hc i pins s σ H E I hf st hg;subst hP hw hK;obtain⟨f0,f1,f2,f3,f4,f5⟩:=hf it (by simp);have W:=Walks.range (prog:=X.prog) (w:=X.w) (I.ok.hd hc) it lo c n;refine W.item i s _ _ hg st λv h' tk hv st' kk=>?_;obtain⟨t,rfl⟩:=hv;have I1:Inv X pins σ H {s with heap:=h',toks:=tk}:=I.turned (λb o hb e=>kk b o (by simpa using hb) e) f0 f1 f3 f4 f5;exact tF _ rfl (go_of (s:={s with heap:=h',toks:=tk}) (n:="range_iterator") st' rfl rfl (by decide) (tG (.int (lo+(i:Nat)*c)) H I1 ⟨t,rfl⟩ ⟨rfl,rfl⟩ st' (λb hb=>(hf b hb).1)))
 done:=by
  intro X hP hw hK hc i pins s σ H E I hf st hg;subst hP hw hK;obtain⟨f0,f1,f2,f3,f4,f5⟩:=hf it (by simp);exact wpAny_pyNext_range_end (I.ok.hd hc) st (by have:n≤i:=hg;omega) λh' eb=>⟨rfl,I.turned (t':=s.toks) (λb o hb e=>eb b o hb e) f0 f1 f3 f4 f5⟩
 self:=λA i s Q E st h=>wpAny_pyIter_rangeiter st h
def RgC(i j c:Int)(n:Nat):Prop:=c≠0∧c.natAbs<1073741824∧Builtin.Range.small i j c=true∧Builtin.Range.rangeSize i j c=n
theorem RgC.neg{i j:Int}(ha : -(2^62)≤i)(ha':i<2^62)(hb : -(2^62)≤j)(hb':j<2^62):RgC i j (-1) (i-j).toNat :=
 (ud (by decide) (by decide) (PySem.W.small_down ha ha' hb hb') (PySem.W.rangeSize_downNat i j))
def iRng3(ta:TA):TI:=λσ H R=>ta σ H λvs H1=>∃(i j c:Int) (n:Nat),vs=[.int i,.int j,.int c]∧RgC i j c n∧R (Itc i c n) H1
section
variable {X:Cx} {tg:Expr}
theorem mB{a b c:Expr}{ta:TA}{p pos:Pos}(hg:Gl X "range")(hm:X.mg "range" = none)(ha:PA X [a,b,c] ta)(hs:starEach [a,b,c] X.env=(false,eval a X.env)::starEach [b,c] X.env:=by rfl)(hpl:(backTo pos (starEach [b,c] X.env)).any (·.1)=false:=by rfl):PI X tg (.Call (.Name "range" p) [a,b,c] [] pos) (iRng3 ta):=by
 intro pins s σ H R I h;refine Call_ (eD I hg hm boot_range (PyProof.Rows.callWith_type1 (thn (ha pos pins s σ H _ I h) λus s1 ⟨vs,H1,I1,r1,q1⟩=>?_) hs hpl));obtain⟨i,j,k,n,e,⟨c0,c1,c2,c3⟩,q⟩:=q1;subst e;cases r1 with
 |cons r rr =>
  cases rr with
  |cons r' rr =>
   cases rr with
   |cons r'' rr =>
    cases rr;obtain⟨t,rfl⟩:=r;obtain⟨t',rfl⟩:=r';obtain⟨t'',rfl⟩:=r'';refine call_range_3 c0 ?_ (.inl (PyProof.noPylong_small c1));refine wpAny_pyIter_range (IsRange.new ..) c2 ?_;have I2:Inv X pins σ H1 {s1 with heap:=s1.heap.push {cls:=.type "range",data:=.fields #[.int i t,.int j t',.int k t'']}}:=I1.kept (t':=s1.toks) λb o e=>rJ _ e;refine pi_one (tk:=s1.toks) I2 _ (oS _ i k n) ?_ q;have e1:i+((0:Nat):Int)*k=i:=by simp
    have e2:(n:Int)-((0:Nat):Int)=Builtin.Range.rangeSize i j k:=by rw[c3];simp
    show IsRangeIter _ _ (i+((0:Nat):Int)*k) ((n:Int)-((0:Nat):Int)) k;rw[e1,e2];exact rK _ rfl
end
theorem lr{lo c:Int}{n:Nat}{g:TG}{tb:TS}{D:hG}{σ:St}{H:Hp}(Pv:Nat→St→Hp→Prop)(h0:Pv 0 σ H)(hs:∀i σ H,i<n→Pv i σ H→g (.int (lo+(i:Nat)*c)) σ H λσ2 H2=>tb {D with nx:=Pv (i+1),ct:=Pv (i+1),bk:=D.nx} σ2 H2)(hd:∀σ H,Pv n σ H→D.nx σ H):∃W:Nat→Nat→St→Hp→Prop,(∃m,W 0 m σ H)∧∀i m σ H,W i m σ H →
   ((Itc lo c n).stop i H∧D.nx σ H)∨((Itc lo c n).go i H∧∃N:St→Hp→Prop,(∀σ' H',N σ' H'→∃m',m'<m∧W (i+1) m' σ' H')∧∀x H',(Itc lo c n).yld i H x H'→g x σ H' λσ2 H2=>tb {D with nx:=N,ct:=N,bk:=D.nx} σ2 H2):=by
 refine tF (λi m σ H=>m=n-i∧i≤n∧Pv i σ H) (tK n (by simp) (rO _) h0) ?_;rintro i m σ H ⟨rfl,hi,p⟩;by_cases hlt:i<n
 ·refine .inr (tX hlt (Pv (i+1)) (λσ' H' p'=>ua (n-(i+1)) (by omega) rfl hlt p') (λx H' y=>?_));obtain⟨e,y⟩:=y;subst e y;exact hs i σ _ hlt p
 ·have e:i=n:=by omega
  subst e;exact .inl ⟨rL _,hd σ H p⟩
theorem qJ{α β:Type}{G:α→β→Prop}{l₁:List α}{l₂:List β}(h:Paired G l₁ l₂):∀{i:Nat} {a:α},l₁[i]?=some a→∃b,l₂[i]?=some b∧G a b:=by
 induction h with
 |nil=>intro i a e;simp at e
 |@cons a b l₁ l₂ r t ih =>
  intro i a' e;cases i with
  |zero =>
   simp only[List.getElem?_cons_zero,Option.some.injEq]at e;subst e;exact tF b rfl r
  |succ j =>
   simp only[List.getElem?_cons_succ]at e ⊢;exact ih e
theorem dict_ep{o:Obj}{es es':Array DictEntry}{ep ep':Nat}(h:o.data=.dict es ep)(h':o.data=.dict es' ep'):es'=es∧ep'=ep:=by
 rw[h]at h';cases h';exact⟨rfl,rfl⟩
def Ite(K:fG)(a:Addr):It :=
 ⟨λi H=>∃(xs:List V) (x:V),SqL K H a xs∧xs[i]?=some x,λi H v H'=>∃T x,v=.ref T∧H T=none∧H'=upd H T (.tup [.int (i:Nat),x])∧∀xs,SqL K H a xs→xs[i]?=some x,λi H=>∃xs:List V,SqL K H a xs∧xs.length≤i⟩
theorem turn_enum{P:Program}{w:World}{K:fG}{elts:List Expr}{kk:Nat}{tpos:Pos}(a e it:Addr):Turn P w K (.Tuple elts kk tpos) (Ite K a) [e,it] e (λi h=>(∃old,IsEnum h e it ((i:Nat):Int) old)∧h.IsListIter it a i∧e≠it) where
 mem:=by simp
 obj:=λi h st b hb=>by
  obtain⟨⟨old,he⟩,⟨o,ho,hc,hd⟩,_⟩:=st;have e':b=e∨b=it:=by simpa using hb
  rcases e' with z|z
  ·rw[z];exact tF _ he (λv q=>nomatch q)
  ·rw[z];exact tF o ho (λv q=>by rw[hd]at q;cases q)
 keep:=λi h h' st k=>let ⟨⟨old,he⟩,hi,hne⟩:=st;⟨⟨old,k e (by simp) _ he⟩,hi.at λo q=>k it (by simp) o q,hne⟩
 item:=by
  intro X hP hw hK hc i pins s σ H E I hf st hg;subst hP hw hK;obtain⟨⟨old,he⟩,hit,hne⟩:=st;obtain⟨xs,x,hq,hx⟩:=hg;obtain⟨its,rv,p,hz⟩:=I.list hq;obtain⟨u,hu,ru⟩:=rv.get hx;have hel:e<s.heap.objs.size:=rg he;have hil:it<s.heap.objs.size:=by obtain⟨_,q,_⟩:=hit;exact rg q
  refine wpAny_pyNext_enum_item he hit p.isList (x:=u) (by simpa using hu) hne λh' ho hit' hT hsz hk=>?_;refine tF _ rfl (wpAny_letOwnedTupleGo_enum (s:={s with heap:=h',toks:=s.toks+1}) ho λh'' he' sb=>?_);have hT2:h''.get? s.heap.objs.size=some {cls:=.type "tuple",data:=.seq #[.int i s.toks,u]}:=(sb.2 _ (rH hel)).trans hT;have new:bI X.prog X.w (upd H s.heap.objs.size (.tup [.int (i:Nat),x])) h'' s.heap.objs.size (.tup [.int (i:Nat),x]) :=
   (tX (by show 2≤sizeLine;decide) [.int i s.toks,u] (.cons ⟨_,rfl⟩ (.cons ru .nil)) (ux _ hT2 rfl _ rfl))
  have I1:Inv X pins σ (upd H s.heap.objs.size (.tup [.int (i:Nat),x])) {s with heap:=h'',toks:=s.toks+1} :=
   I.turnedNew (ch:=[e,it]) (λb ob hb q=>(sb.2 b (λz=>hb (by simp[z]))).trans (hk b ob (λz=>hb (by simp[z])) (λz=>hb (by simp[z])) q)) hf (rL _) new
  refine tG (.ref s.heap.objs.size) _ I1 rfl (tP _ x rfl (I.hok.fresh (rL _)) rfl (λys hy=>by rw[I.list_inj hy hq];exact hx)) (tS ⟨u,?_⟩ (hit'.at λo q=>(sb.2 it (Ne.symm hne)).trans q) hne) (λb hb=>?_)
  ·have e1:((i+1:Nat):Int)=(i:Int)+1:=by omega
   rw[e1];exact he'
  ·have hb':b<s.heap.objs.size:=by
    have e':b=e∨b=it:=by simpa using hb
    rcases e' with z|z
    ·rw[z];exact hel
    ·rw[z];exact hil
   rw[af (rm hb')];exact(hf b hb).1
 done:=by
  intro X hP hw hK hc i pins s σ H E I hf st hg;subst hP hw hK;obtain⟨⟨old,he⟩,hit,hne⟩:=st;obtain⟨xs,hq,hx⟩:=hg;obtain⟨its,rv,p,hz⟩:=I.list hq;obtain⟨f0,f1,f2,f3,f4,f5⟩:=hf it (by simp);have hl:=rv.length;exact wpAny_pyNext_enum_end (I.ok.hd hc) he hit p.isList (by simp;omega) λh' eb=>⟨rfl,I.turned (t':=s.toks) (λb o hb q=>eb b o hb q) f0 f1 f3 f4 f5⟩
 self:=λA i s Q E st h=>let ⟨⟨_,he⟩,_⟩:=st;wpAny_pyIter_enum he h
def iEnum(K:fG)(ta:TA):TI:=λσ H R=>ta σ H λvs H1=>∃a xs,vs=[.ref a]∧SqL K H1 a xs∧R (Ite K a) H1
theorem pi_enum{X:Cx}{e:Expr}{ta:TA}{p pos tpos:Pos}{elts:List Expr}{kk:Nat}(hg:Gl X "enumerate")(hm:X.mg "enumerate" = none)(ha:PA X [e] ta)(hs:starEach [e] X.env=[(false,eval e X.env)]:=by rfl):PI X (.Tuple elts kk tpos) (.Call (.Name "enumerate" p) [e] [] pos) (iEnum X.K ta):=by
 intro pins s σ H R I h;refine Call_ (eD I hg hm boot_enumerate (PyProof.Rows.callWith_type1 (thn (ha pos pins s σ H _ I h) λus s1 ⟨vs,H1,I1,r1,q1⟩=>?_) hs rfl));obtain⟨a,xs,ex,hq,q⟩:=q1;subst ex;cases r1 with
 |cons r rr =>
  cases rr;cases r;obtain⟨its,rv,p',hz⟩:=I1.list hq;refine call_enumerate_list p'.isList λh' he hit hsz hk=>wpAny_pyIter_enum he ?_;have I2:Inv X pins σ H1 {s1 with heap:=h'}:=I1.kept (t':=s1.toks) hk;refine tY (s1.heap.objs.size+1) [s1.heap.objs.size+1,s1.heap.objs.size] _ _ (tJ H1 rfl I2 (turn_enum a (s1.heap.objs.size+1) s1.heap.objs.size) (tS ⟨.none,he⟩ hit (Nat.succ_ne_self _)) (λb hb=>?_) q);have e':b=s1.heap.objs.size+1∨b=s1.heap.objs.size:=by simpa using hb
  have hle:s1.heap.objs.size≤b:=by
   rcases e' with z|z
   ·rw[z];exact sy _ _
   ·rw[z];exact rL _
  exact I1.fpOk hle (I1.hok.fresh hle)
theorem jK:bootBuiltins "zip" = some (.type "zip"):=by decide +kernel
def Itz(K:fG)(a b:Addr):It :=
 ⟨λi H=>∃(xs ys:List V) (x y:V),SqL K H a xs∧SqL K H b ys∧xs[i]?=some x∧ys[i]?=some y,
  λi H v H'=>∃T x y,v=.ref T∧H T=none∧H'=upd H T (.tup [x,y])∧(∀xs,SqL K H a xs→xs[i]?=some x)∧∀ys,SqL K H b ys→ys[i]?=some y,
  λi H=>∃xs ys:List V,SqL K H a xs∧SqL K H b ys∧(xs.length≤i∨ys.length≤i)⟩
theorem turn_zip{P:Program}{w:World}{K:fG}{elts:List Expr}{kk:Nat}{tpos:Pos}{a b z TI TO i1 i2:Addr}(D:ZipApart z TI TO i1 i2 a b):Turn P w K (.Tuple elts kk tpos) (Itz K a b) [z,TI,TO,i1,i2] z (λi h=>IsZip h z TI TO .none∧IsPair h TI (.ref i1) (.ref i2)∧(∃x y,IsPair h TO x y)∧h.IsListIter i1 a i∧h.IsListIter i2 b i) where
 mem:=by simp
 obj:=λi h st c hc=>by
  obtain⟨hz,hTI,⟨x,y,hTO⟩,⟨o1,e1,_,d1⟩,⟨o2,e2,_,d2⟩⟩:=st;have e':c=z∨c=TI∨c=TO∨c=i1∨c=i2:=by simpa using hc
  rcases e' with q|q|q|q|q
  ·rw[q];exact tF _ hz (λv q=>nomatch q)
  ·rw[q];exact tF _ hTI (λv q=>nomatch q)
  ·rw[q];exact tF _ hTO (λv q=>nomatch q)
  ·rw[q];exact tF o1 e1 (λv q=>by rw[d1]at q;cases q)
  ·rw[q];exact tF o2 e2 (λv q=>by rw[d2]at q;cases q)
 keep:=λi h h' st k=>by
  obtain⟨hz,hTI,⟨x,y,hTO⟩,h1,h2⟩:=st;exact uw (k z (by simp) _ hz) (k TI (by simp) _ hTI) (tU x y (k TO (by simp) _ hTO)) (h1.at λo q=>k i1 (by simp) o q) (h2.at λo q=>k i2 (by simp) o q)
 item:=by
  intro X hP hw hK hc i pins s σ H E I hf st hg;subst hP hw hK;obtain⟨hz,hTI,⟨x0,y0,hTO⟩,h1,h2⟩:=st;obtain⟨xs,ys,x,y,hqx,hqy,hx,hy⟩:=hg;obtain⟨its,rv,p,_⟩:=I.list hqx;obtain⟨its2,rv2,p2,_⟩:=I.list hqy;obtain⟨u,hu,ru⟩:=rv.get hx;obtain⟨u2,hu2,ru2⟩:=rv2.get hy;have hzl:z<s.heap.objs.size:=rg hz;refine wpAny_pyNext_zip_item D hz hTI hTO h1 h2 p.isList p2.isList (x:=u) (y:=u2) (by simpa using hu) (by simpa using hu2) λh' z' TO' h1' h2' hT hsz hk=>?_;refine tF _ rfl (wpAny_letOwnedTupleGo_zip (s:={s with heap:=h'}) z' λh'' z'' sb=>?_);have hT2:h''.get? s.heap.objs.size=some {cls:=.type "tuple",data:=.seq #[u,u2]}:=(sb.2 _ (rH hzl)).trans hT;have new:bI X.prog X.w (upd H s.heap.objs.size (.tup [x,y])) h'' s.heap.objs.size (.tup [x,y]) :=
   (tX (by show 2≤sizeLine;decide) [u,u2] (.cons ru (.cons ru2 .nil)) (ux _ hT2 rfl _ rfl))
  have I1:Inv X pins σ (upd H s.heap.objs.size (.tup [x,y])) {s with heap:=h''} :=
   I.turnedNew (t':=s.toks) (ch:=[z,TI,TO,i1,i2]) (λc o hb q=>(sb.2 c (λq'=>hb (by simp[q']))).trans (hk c o (λq'=>hb (by simp[q'])) (λq'=>hb (by simp[q'])) (λq'=>hb (by simp[q'])) (λq'=>hb (by simp[q'])) q)) hf (rL _) new
  refine tG (.ref s.heap.objs.size) _ I1 rfl ⟨_,tG x y rfl (I.hok.fresh (rL _)) rfl (λl hl=>by rw[I.list_inj hl hqx];exact hx) (λl hl=>by rw[I.list_inj hl hqy];exact hy)⟩ (uw z'' ?_ (tU u u2 ?_) ?_ ?_) (λc hcm=>?_)
  ·exact(sb.2 _ D.TIz).trans (hk _ _ D.TIz D.TITO D.TIi1 D.TIi2 hTI)
  ·exact(sb.2 _ D.TOz).trans TO'
  ·exact h1'.at λo q=>(sb.2 _ D.i1z).trans q
  ·exact h2'.at λo q=>(sb.2 _ D.i2z).trans q
  ·have hlt:c<s.heap.objs.size:=by
    have e':c=z∨c=TI∨c=TO∨c=i1∨c=i2:=by simpa using hcm
    rcases e' with q|q|q|q|q
    ·rw[q];exact hzl
    ·rw[q];exact rg hTI
    ·rw[q];exact rg hTO
    ·rw[q];obtain⟨_,e1,_⟩:=h1;exact rg e1
    ·rw[q];obtain⟨_,e2,_⟩:=h2;exact rg e2
   rw[af (rm hlt)];exact(hf c hcm).1
 done:=by
  intro X hP hw hK hc i pins s σ H E I hf st hg;subst hP hw hK;obtain⟨hz,hTI,⟨x0,y0,hTO⟩,h1,h2⟩:=st;obtain⟨xs,ys,hqx,hqy,hend⟩:=hg;obtain⟨its,rv,p,_⟩:=I.list hqx;obtain⟨its2,rv2,p2,_⟩:=I.list hqy;have l1:=rv.length;have l2:=rv2.length;have he:its.toArray[i]?=none∨its2.toArray[i]?=none:=by
   rcases hend with q|q
   ·exact .inl (by simp;omega)
   ·exact .inr (by simp;omega)
  exact wpAny_pyNext_zip_end (I.ok.hd hc) D hz hTI hTO h1 h2 p.isList p2.isList he λh' hk=>⟨rfl,I.turnedL (t':=s.toks) (ch:=[z,TI,TO,i1,i2]) (λc o hb q =>
   hk c o (λq'=>hb (by simp[q'])) (λq'=>hb (by simp[q'])) (λq'=>hb (by simp[q'])) (λq'=>hb (by simp[q'])) q) hf⟩
 self:=λA i s Q E st h=>wpAny_pyIter_zip st.1 h
def iZip(K:fG)(ta:TA):TI:=λσ H R=>ta σ H λvs H1=>∃a b xs ys,vs=[.ref a,.ref b]∧SqL K H1 a xs∧SqL K H1 b ys∧R (Itz K a b) H1
theorem pi_zip{X:Cx}{e e2:Expr}{ta:TA}{p pos tpos:Pos}{elts:List Expr}{kk:Nat}(hg:Gl X "zip")(hm:X.mg "zip" = none)(ha:PA X [e,e2] ta)(hs:starEach [e,e2] X.env=(false,eval e X.env)::starEach [e2] X.env:=by rfl)(hpl:(backTo pos (starEach [e2] X.env)).any (·.1)=false:=by rfl):PI X (.Tuple elts kk tpos) (.Call (.Name "zip" p) [e,e2] [] pos) (iZip X.K ta):=by
 intro pins s σ H R I h;refine Call_ (eD I hg hm jK (PyProof.Rows.callWith_type1 (thn (ha pos pins s σ H _ I h) λus s1 ⟨vs,H1,I1,r1,q1⟩=>?_) hs hpl));obtain⟨a,b,xs,ys,ex,hqx,hqy,q⟩:=q1;subst ex;cases r1 with
 |cons r rr =>
  cases rr with
  |cons r' rr =>
   cases rr;cases r;cases r';obtain⟨its,rv,p1,_⟩:=I1.list hqx;obtain⟨its2,rv2,p2,_⟩:=I1.list hqy;have la:a<s1.heap.objs.size:=p1.lt;have lb:b<s1.heap.objs.size:=p2.lt;refine call_zip_2 p1.isList p2.isList λh' hz hTI hTO h1 h2 hsz hk=>wpAny_pyIter_zip hz ?_;have I2:Inv X pins σ H1 {s1 with heap:=h'}:=I1.kept (t':=s1.toks) hk;refine tY (s1.heap.objs.size+4) [s1.heap.objs.size+4,s1.heap.objs.size+2,s1.heap.objs.size+3,s1.heap.objs.size,s1.heap.objs.size+1] _ _ (tJ H1 rfl I2 (turn_zip (PySem.W.ktu_apart s1.heap.objs.size a b la lb)) (uw hz hTI (tU _ _ hTO) h1 h2) (λc hcm=>?_) q);have e':c=s1.heap.objs.size+4∨c=s1.heap.objs.size+2∨c=s1.heap.objs.size+3∨c=s1.heap.objs.size∨c=s1.heap.objs.size+1:=by simpa using hcm
   have hle:s1.heap.objs.size≤c:=by
    rcases e' with z|z|z|z|z
    ·rw[z];exact sy _ _
    ·rw[z];exact sy _ _
    ·rw[z];exact sy _ _
    ·rw[z];exact rL _
    ·rw[z];exact sy _ _
   exact I1.fpOk hle (I1.hok.fresh hle)
end L2
section
namespace Bits
open PySem PyProof.Rows
end Bits
end
section
namespace TL
open PySem PySem.Builtin PySem.Builtin.Str PySem.StrLaws
end TL
end
namespace L2
open PySem PySem.Spec PyProof.Rows
end L2
namespace L2
open PySem PySem.Spec PyProof.Rows
end L2
namespace Att
open PySem PySem.W PySem.Calls PyProof.Rows
end Att
namespace L2
open PySem PySem.Spec PyProof.Rows
end L2
namespace L2
open PySem PySem.Spec PyProof.Rows
end L2
namespace L2
open PySem PySem.Spec PyProof.Rows
def inClass(s:Stmt)(j:Nat):Stmt:=match s with
 |.ClassDef _ _ _ body _ _ _ _ _ _ _=>body.getD j (.Pass ⟨0,0,0,0⟩)
 |_=>.Pass ⟨0,0,0,0⟩
def cC(s:Stmt):Arguments:=match s with
 |.FunctionDef _ a _ _ _ _ _ _ _ _=>a
 |_=>{posonlyargs:=[],args:=[],vararg:=none,kwonlyargs:=[],kw_defaults:=[],kwarg:=none,defaults:=[]}
def b9(s:Stmt):List Stmt:=match s with
 |.FunctionDef _ _ b _ _ _ _ _ _ _=>b
 |_=>[]
def ag(s:Stmt):Scope:=match s with
 |.FunctionDef _ _ _ _ _ _ sc _ _ _=>sc
 |_=>{kind:=.function,names:=[],isGenerator:=false,isCoroutine:=false}
abbrev CX0:CXT:=λ_ _ _ _ _ _=>False
abbrev E0:XK:=λ_ _ _=>False
theorem az{X:Cx}:gG CX0 X E0:=λ_ _ _ _ _ _ _ h=>h.elim
structure Fun(K:fG)(x qual:Str)(st:Stmt)(f:Addr)(fd:FuncData):Prop where
 ex:∃(oc:Value) (od:Option Addr) (kV doc pm:Value) (an:Option Addr) (cdv ct:Value) (osl:Array (Option Value)),
  fd=PySem.W.fnOf x qual (cC st) (b9 st) (ag st) .none kV doc pm an cdv ct∧K.lookup f=some ⟨oc,od,.func fd,osl⟩∧PySem.W.codeIn K cdv qual=true
 kp:PySem.W.keepIn K (.ref f)=true
section
variable {P:Program} {w:World} {K:fG} {mg:Str→Option Value} {base:Heap}
theorem Fun.ok{x qual:Str}{st:Stmt}{f:Addr}{fd:FuncData}{N ps:List Str}{k:Nat}{sp:Sp}(F:Fun K x qual st f fd)(S:ap N ps (ag st))(len:∀vs H Q E,sp vs H Q E→vs.length=ps.length)(hbody:∀(cdv:Value) (A:Around) (outer:List Env) (s:Shared) (H:Hp) (vs:List V) (Q:VK) (E:XK),bP k (A.deeper (envOfC qual (ag st) s.heap.objs.size f cdv))→sp vs H Q E →
   ∃t,PSs (cxOf CX0 P w K mg base N qual (ag st) f cdv A outer s H E).nox (b9 st) t∧t {nx:=λ_ H'=>Q .non H',rt:=Q} (start N vs) H):aZ P w K mg base CX0 (k+1) f fd ps sp:=by
 obtain⟨oc,od,kV,doc,pm,an,cdv,ct,osl,rfl,lk,hcd⟩:=F.ex;refine fn_of lk hcd S len λA outer s H vs Q E hr hsp=>?_;obtain⟨t,h,q⟩:=hbody cdv A outer s H vs Q E hr hsp;exact tF t h.nox q
theorem Fun.binds{x qual:Str}{st:Stmt}{f:Addr}{fd:FuncData}{ps:List Str}(F:Fun K x qual st f fd)(h:∀(kV doc pm:Value) (an:Option Addr) (cdv ct:Value) (us:List Value),us.length=ps.length→bindArgs (PySem.W.fnOf x qual (cC st) (b9 st) (ag st) .none kV doc pm an cdv ct) ⟨us,[]⟩=pure (ps.zip us)):ck K fd ps []:=by
 obtain⟨oc,od,kV,doc,pm,an,cdv,ct,osl,rfl,lk,hcd⟩:=F.ex;exact .all (h kV doc pm an cdv ct)
theorem fL{x qual:Str}{st:Stmt}{f:Addr}{oc:Value}{od an:Option Addr}{osl:Array (Option Value)}{kV doc pm cdv ct:Value}(l:K.lookup f=some ⟨oc,od,.func (PySem.W.fnOf x qual (cC st) (b9 st) (ag st) .none kV doc pm an cdv ct),osl⟩)(c:PySem.W.codeIn K cdv qual=true)(k:PySem.W.keepIn K (.ref f)=true):Fun K x qual st f (PySem.W.fnOf x qual (cC st) (b9 st) (ag st) .none kV doc pm an cdv ct):=⟨(tZ oc od kV doc pm an (tM cdv ct osl rfl l c)),k⟩
end
theorem hu_of{A:Around}{k:Nat}(hr:bP k A):A.units+1<cLine:=sA (Nat.add_le_add_left (by decide:1≤64) _) hr.units
section
variable {X:Cx}
theorem pv(i:Nat){x:Str}{pos:Pos}(hN:X.N[i]?=some x:=by rfl)(hv:Vis X.env.scope x:=by first|exact Or.inl rfl|exact Or.inr (Or.inl rfl)|exact Or.inr (Or.inr rfl))(hd:(x==("__debug__" : Str))=false:=by decide)(hcd:(x==("__classdict__" : Str))=false:=by decide):PE X (.Name x pos) (dc i):=pe_var hN hv hd hcd
end
def ao(H H':Hp):Prop:=∀b o,H b=some o→H' b=some o
theorem ao.trans{H H1 H2:Hp}(a:ao H H1)(b:ao H1 H2):ao H H2:=λc o h=>b c o (a c o h)
theorem ao.free{H H':Hp}(e:ao H H'){l:Addr}(h:H' l=Option.none):H l=Option.none:=by
 cases q:H l with
 |none=>rfl
 |some o =>
  rw[e l o q]at h;cases h
theorem ao.seq{K:fG}{H H':Hp}{a:Addr}{xs:List V}(e:ao H H')(h:SqL K H a xs):SqL K H' a xs:=by
 rcases h with(h|⟨o,h⟩)|h
 ·exact .inl (.inl (e _ _ h))
 ·exact .inl (.inr ⟨o,e _ _ h⟩)
 ·exact .inr h
theorem ao.made{H H1:Hp}{x dx C:Addr}(nx:H x=Option.none)(nd:H dx=Option.none)(k:∀b o,(upd (upd H dx (.own x)) x (.ins C dx [])) b=some o→b≠x→H1 b=some o):ao H H1:=λb o e =>
 k b o (by rw[af (ai e nx),af (ai e nd)];exact e) (ai e nx)
end L2
end
section
section
set_option maxHeartbeats 2000000
namespace L2
open PySem PySem.Spec PyProof.Rows
open PySem.W (WData Codec OpenSpec Well WellAll ReadsW ReadsAllW)
mutual
inductive Dw(K:fG)(H:Hp):V→WData→Prop
 |non:Dw K H .non .none
 |bl (b:Bool):Dw K H (.bl b) (.bool b)
 |int (i:Int):Dw K H (.int i) (.int i)
 |str (x:Str):Dw K H (.str x) (.str x)
 |byt (b:Array UInt8):Dw K H (.byt b) (.bytes b.toList)
 |lst {a:Addr} {xs:List V} {ds:List WData}:SqL K H a xs→eV K H xs ds→Dw K H (.ref a) (.list ds)
 |tup {a:Addr} {xs:List V} {ds:List WData}:SqT K H a xs→eV K H xs ds→Dw K H (.ref a) (.tuple ds)
inductive eV(K:fG)(H:Hp):List V→List WData→Prop
 |nil:eV K H [] []
 |cons {v:V} {vs:List V} {d:WData} {ds:List WData}:Dw K H v d→eV K H vs ds→eV K H (v::vs) (d::ds)
end
theorem dw_ints{K:fG}{H:Hp}:∀ns:List Int,eV K H (ns.map V.int) (ns.map WData.int)
 |[]=>.nil
 |n::r=>.cons (.int n) (dw_ints r)
theorem ints_dw{K:fG}{H:Hp}:∀(ns:List Int) (xs:List V),eV K H xs (ns.map WData.int)→xs=ns.map V.int
 |[],xs,h=>by
  cases h;rfl
 |n::r,xs,h=>by
  cases h with
  |cons h1 h2 =>
   cases h1;rw[ints_dw r _ h2]<;>rfl
section
variable {P:Program} {w:World} {K:fG} {H:Hp} {h:Heap} {R:PySem.W.WRecords} {cl:Str→Option Addr}
theorem sqL_at{a:Addr}{xs:List V}(hok:HOk P w H h)(KX:K.In h)(q:SqL K H a xs):∃(its:List Value) (o:Obj) (n:Nat),aW xs its∧h.get? a=some o∧o.cls=.type "list"∧o.data=.seq its.toArray n:=by
 rcases q with q|⟨o,its,n,e,hc,_,hd,_,hv⟩
 ·obtain⟨_,its,n,hv,e⟩:=(show bI P w H h a (.lst xs) from q.ok hok)
  exact tI its _ n hv e rfl rfl
 ·exact tI its.toList o n hv (KX _ _ e) hc (by simp[hd])
theorem sqT_at{a:Addr}{xs:List V}(hok:HOk P w H h)(KX:K.In h)(q:SqT K H a xs):∃(its:List Value) (o:Obj) (n:Nat),aW xs its∧h.get? a=some o∧o.cls=.type "tuple"∧o.data=.seq its.toArray n:=by
 rcases q with q|⟨o,its,n,e,hc,hd,_,hv⟩
 ·obtain⟨_,its,hv,o,e,hc,n,hd⟩:=(show bI P w H h a (.tup xs) from q.ok hok)
  exact tI its o n hv e hc hd
 ·exact tI its.toList o n hv (KX _ _ e) hc (by simp[hd])
mutual
theorem Dw.reads(hok:HOk P w H h)(KX:K.In h):∀(d:WData) (v:V) (u:Value),Dw K H v d→bg v u→∃as,ReadsW R cl h u d as
 |.none,_,_,x,r=>by
  cases x;cases r;exact⟨_,ReadsW.none⟩
 |.bool b,_,_,x,r=>by
  cases x;cases r;exact⟨_,ReadsW.bool b⟩
 |.int i,_,_,x,r=>by
  cases x;obtain⟨t,rfl⟩:=r;exact⟨_,ReadsW.int i t⟩
 |.str s,_,_,x,r=>by
  cases x;obtain⟨t,rfl⟩:=r;exact⟨_,ReadsW.str s t⟩
 |.bytes b,_,_,x,r=>by
  cases x;obtain⟨t,rfl⟩:=r;exact⟨_,ReadsW.bytes _ t⟩
 |.list ds,_,_,x,r=>by
  cases x with
  |lst hs ha =>
   cases r;obtain⟨its,o,n,rv,ho,hc,hd⟩:=sqL_at hok KX hs;obtain⟨as,hr⟩:=Dw.readsAll hok KX ds _ its ha rv;exact⟨_,ReadsW.list ho hc hd hr⟩
 |.tuple ds,_,_,x,r=>by
  cases x with
  |tup hs ha =>
   cases r;obtain⟨its,o,n,rv,ho,hc,hd⟩:=sqT_at hok KX hs;obtain⟨as,hr⟩:=Dw.readsAll hok KX ds _ its ha rv;exact⟨_,ReadsW.tuple ho hc hd hr⟩
 |.float _,_,_,x,_=>by cases x
 |.dict _,_,_,x,_=>by cases x
 |.bytearray _,_,_,x,_=>by cases x
 |.set _,_,_,x,_=>by cases x
 |.frozenset _,_,_,x,_=>by cases x
 |.obj _ _,_,_,x,_=>by cases x
theorem Dw.readsAll(hok:HOk P w H h)(KX:K.In h):∀(ds:List WData) (vs:List V) (us:List Value),eV K H vs ds→aW vs us→∃as,ReadsAllW R cl h us ds as
 |[],_,_,x,r=>by
  cases x;cases r;exact⟨_,ReadsAllW.nil⟩
 |d::ds,_,_,x,r=>by
  cases x with
  |cons h1 h2 =>
   cases r with
   |cons r1 r2 =>
    obtain⟨as,q1⟩:=Dw.reads hok KX d _ _ h1 r1;obtain⟨bs,q2⟩:=Dw.readsAll hok KX ds _ _ h2 r2;exact⟨_,ReadsAllW.cons q1 q2⟩
end
end
mutual
def plW:WData→Bool
 |.none=>true
 |.bool _=>true
 |.int _=>true
 |.str _=>true
 |.bytes _=>true
 |.list xs=>jy xs
 |.tuple xs=>jy xs
 |_=>false
def jy:List WData→Bool
 |[]=>true
 |x::r=>plW x&&jy r
end
theorem px{α:Type}{f:α→WData}(h:∀a,plW (f a)=true):∀l:List α,jy (l.map f)=true
 |[]=>rfl
 |x::r=>by
  show(plW (f x)&&jy (r.map f))=true;rw[h x,px h r]<;>rfl
theorem gg:∀(c:Codec) (a:c.denote),plW (c.enc a)=true
 |.unit,_=>rfl
 |.bool,_=>rfl
 |.int _ _,_=>rfl
 |.nat _ _,_=>rfl
 |.u8,_=>rfl
 |.bytes _ _,_=>rfl
 |.text _ _ _ _,_=>rfl
 |.list _ _ c,a=>px (λx=>gg c x) a
 |.pair c d,a=>by
  show(plW (c.enc a.1)&&(plW (d.enc a.2)&&true))=true;rw[gg c a.1,gg d a.2]<;>rfl
 |.triple c d e,a=>by
  show(plW (c.enc a.1)&&(plW (d.enc a.2.1)&&(plW (e.enc a.2.2)&&true)))=true;rw[gg c a.1,gg d a.2.1,gg e a.2.2]<;>rfl
 |.option c,none=>rfl
 |.option c,some x=>gg c x
theorem jx:∀(cs:List Codec) (a:Codec.denoteAll cs),jy (Codec.encAll cs a)=true
 |[],_=>rfl
 |c::cs,a=>by
  show(plW (c.enc a.1)&&jy (Codec.encAll cs a.2))=true;rw[gg c a.1,jx cs a.2]<;>rfl
theorem ie:∀{xs:List WData} {d:WData},d∈xs→d.weight≤WData.weightAll xs
 |[],d,h=>absurd h (by simp)
 |x::r,d,h=>by
  show d.weight≤x.weight+1+WData.weightAll r;rcases rC.mp h with e|m
  ·rw[e];omega
  ·have z:=ie m;omega
def toV:Value→V
 |.none=>.non
 |.bool b=>.bl b
 |.int i _=>.int i
 |.str x _=>.str x
 |.bytes b _=>.byt b
 |.ref a=>.ref a
 |_=>.non
def OkU(A:List Addr):Value→Prop
 |.none=>True
 |.bool _=>True
 |.int _ _=>True
 |.str _ _=>True
 |.bytes _ _=>True
 |.ref a=>a∈A
 |_=>False
theorem OkU.mono{A B:List Addr}(h:∀a∈A,a∈B):∀{u:Value},OkU A u→OkU B u:=λ{u} x=>by
 cases u with
 |ref a=>exact h a x
 |none=>trivial
 |bool b=>trivial
 |int i t=>trivial
 |str s t=>trivial
 |bytes b t=>trivial
 |_=>exact False.elim x
theorem relV_toV{A:List Addr}{u:Value}(x:OkU A u):bg (toV u) u:=by
 cases u with
 |ref a=>rfl
 |none=>rfl
 |bool b=>rfl
 |int i t=>exact⟨t,rfl⟩
 |str s t=>exact⟨t,rfl⟩
 |bytes b t=>exact⟨t,rfl⟩
 |_=>exact False.elim x
theorem df{A:List Addr}:∀{vs:List Value},(∀u∈vs,OkU A u)→aW (vs.map toV) vs
 |[],_=>.nil
 |u::r,h=>.cons (relV_toV (h u (rA ..))) (df λx hx=>h x (rB _ hx))
def fS(h:Heap)(A:List Addr)(a:Addr):Prop:=∃vs:List Value,vs.length≤sizeLine∧(∀u∈vs,OkU A u) ∧
 (h.get? a=some {cls:=.type "list",data:=.seq vs.toArray}∨h.get? a=some {cls:=.type "tuple",data:=.seq vs.toArray})
theorem fS.mono{h:Heap}{A B:List Addr}{a:Addr}(k:∀a∈A,a∈B)(x:fS h A a):fS h B a:=by
 obtain⟨vs,h1,h2,h3⟩:=x;exact tK vs h1 (λu hu=>(h2 u hu).mono k) h3
theorem dM{P:Params}{h:Heap}:∀{vs:List Value} {ds:List WData},WellAll P h vs ds→vs.length=ds.length
 |_,_,.nil=>rfl
 |_,_,.cons _ b=>by
  show _+1=_+1;rw[dM b]
theorem lZ{P:Params}{h:Heap}{v:Value}{ds:List WData}(x:Well P h v (.list ds)):∃(a:Addr) (vs:List Value),v=.ref a∧h.get? a=some {cls:=.type "list",data:=.seq vs.toArray}∧WellAll P h vs ds:=by
 cases x with
 |list ho hall=>exact tH _ _ rfl ho hall
theorem kD{P:Params}{h:Heap}{v:Value}{ds:List WData}(x:Well P h v (.tuple ds)):∃(a:Addr) (vs:List Value),v=.ref a∧h.get? a=some {cls:=.type "tuple",data:=.seq vs.toArray}∧WellAll P h vs ds:=by
 cases x with
 |tuple ho hall=>exact tH _ _ rfl ho hall
theorem l4{P:Params}{h:Heap}{us:List Value}{d:WData}{ds:List WData}(x:WellAll P h us (d::ds)):∃(v:Value) (vs:List Value),us=v::vs∧Well P h v d∧WellAll P h vs ds:=by
 cases x with
 |cons a b=>exact tH _ _ rfl a b
theorem line_of{n:Nat}(h:n≤1048576):n≤sizeLine:=rq h (by decide)
section
variable {P:Params} {h:Heap}
mutual
theorem area_one:∀(d:WData) (v:Value),Well P h v d→plW d=true→d.weight≤1048576→∃A:List Addr,OkU A v∧∀a∈A,fS h A a
 |.none,_,x,_,_=>by
  cases x;exact tF [] trivial (λa m=>absurd m (by simp))
 |.bool b,_,x,_,_=>by
  cases x;exact tF [] trivial (λa m=>absurd m (by simp))
 |.int i,_,x,_,_=>by
  cases x;exact tF [] trivial (λa m=>absurd m (by simp))
 |.str s,_,x,_,_=>by
  cases x;exact tF [] trivial (λa m=>absurd m (by simp))
 |.bytes b,_,x,_,_=>by
  cases x;exact tF [] trivial (λa m=>absurd m (by simp))
 |.list ds,_,x,p,z=>by
  obtain⟨a,vs,rfl,ho,hall⟩:=lZ x;have z2:WData.weightAll ds≤1048576:=z;obtain⟨A,h1,h2⟩:=gE ds _ hall p λd hd=>rq (ie hd) z2;have k:∀b∈A,b∈a::A:=λb hb=>rB _ hb;refine tF (a::A) (rA ..) (λb hb=>?_);rcases rC.mp hb with e|m
  ·rw[e];exact tK vs (line_of (by rw[dM hall];exact rq (PySem.W.length_le_weightAllW ds) z2)) (λu hu=>(h1 u hu).mono k) (.inl ho)
  ·exact(h2 b m).mono k
 |.tuple ds,_,x,p,z=>by
  obtain⟨a,vs,rfl,ho,hall⟩:=kD x;have z2:WData.weightAll ds≤1048576:=z;obtain⟨A,h1,h2⟩:=gE ds _ hall p λd hd=>rq (ie hd) z2;have k:∀b∈A,b∈a::A:=λb hb=>rB _ hb;refine tF (a::A) (rA ..) (λb hb=>?_);rcases rC.mp hb with e|m
  ·rw[e];exact tK vs (line_of (by rw[dM hall];exact rq (PySem.W.length_le_weightAllW ds) z2)) (λu hu=>(h1 u hu).mono k) (.inr ho)
  ·exact(h2 b m).mono k
 |.float _,_,_,p,_=>sC (show false=true from p)
 |.dict _,_,_,p,_=>sC (show false=true from p)
 |.bytearray _,_,_,p,_=>sC (show false=true from p)
 |.set _,_,_,p,_=>sC (show false=true from p)
 |.frozenset _,_,_,p,_=>sC (show false=true from p)
 |.obj _ _,_,_,p,_=>sC (show false=true from p)
theorem gE:∀(ds:List WData) (vs:List Value),WellAll P h vs ds→jy ds=true→(∀d∈ds,d.weight≤1048576)→∃A:List Addr,(∀u∈vs,OkU A u)∧∀a∈A,fS h A a
 |[],_,x,_,_=>by
  cases x;exact tF [] (λu m=>absurd m (by simp)) (λa m=>absurd m (by simp))
 |d::ds,_,x,p,z=>by
  obtain⟨v,vs,rfl,x1,x2⟩:=l4 x;have q:plW d=true∧jy ds=true:=Bool.and_eq_true_iff.mp p;obtain⟨A,a1,a2⟩:=area_one d v x1 q.1 (z d (rA ..));obtain⟨B,b1,b2⟩:=gE ds vs x2 q.2 λe he=>z e (rB _ he);have kA:∀b∈A,b∈A++B:=λb hb=>rD.mpr (.inl hb);have kB:∀b∈B,b∈A++B:=λb hb=>rD.mpr (.inr hb);refine tF (A++B) (λu hu=>?_) (λb hb=>?_)
  ·rcases rC.mp hu with e|m
   ·rw[e];exact a1.mono kA
   ·exact(b1 u m).mono kB
  ·rcases rD.mp hb with m|m
   ·exact(a2 b m).mono kA
   ·exact(b2 b m).mono kB
end
end
def hoOf(o:Obj):Option HO:=match o.data with
 |.seq vs _=>if (o.cls==Value.type "list")=true then some (.frz o (.lst (vs.toList.map toV))) else some (.frz o (.tup (vs.toList.map toV)))
 |_=>none
def dX(K:fG)(h:Heap)(A:List Addr):Hp:=λb=>if b∈A then (if (K.lookup b).isNone=true then (h.get? b).bind hoOf else none) else none
def OnlyF(H:Hp):Prop:=∀b,H b=none∨∃o u,H b=some (.frz o u)
theorem qc(vs:List Value):hoOf {cls:=.type "list",data:=.seq vs.toArray}=some (.frz {cls:=.type "list",data:=.seq vs.toArray} (.lst (vs.map toV))):=by
 show(if (Value.type "list" == Value.type "list")=true then some (HO.frz {cls:=.type "list",data:=.seq vs.toArray} (.lst (vs.toArray.toList.map toV))) else some (HO.frz {cls:=.type "list",data:=.seq vs.toArray} (.tup (vs.toArray.toList.map toV))))=_;rw[if_pos (beq_self_eq_true _)]
theorem qb(vs:List Value):hoOf {cls:=.type "tuple",data:=.seq vs.toArray}=some (.frz {cls:=.type "tuple",data:=.seq vs.toArray} (.tup (vs.map toV))):=by
 show(if (Value.type "tuple" == Value.type "list")=true then some (HO.frz {cls:=.type "tuple",data:=.seq vs.toArray} (.lst (vs.toArray.toList.map toV))) else some (HO.frz {cls:=.type "tuple",data:=.seq vs.toArray} (.tup (vs.toArray.toList.map toV))))=_;rw[if_neg (by decide)]
section
variable {P:Program} {w:World} {K:fG} {h:Heap} {A:List Addr}
theorem ku{b:Addr}{o:Obj}(hb:b∈A)(hk:K.lookup b=none)(e:h.get? b=some o):dX K h A b=hoOf o:=by
 unfold dX;rw[if_pos hb,hk,if_pos (show(none:Option Obj).isNone=true from rfl),e]<;>rfl
theorem of_argH{b:Addr}{u:HO}(q:dX K h A b=some u):b∈A∧K.lookup b=none:=by
 unfold dX at q;by_cases hb:b∈A
 ·rw[if_pos hb]at q;cases hk:K.lookup b with
  |none=>exact⟨hb,rfl⟩
  |some o =>
   rw[hk,if_neg (by simp)]at q;cases q
 ·rw[if_neg hb]at q;cases q
theorem g9(ar:∀a∈A,fS h A a){b:Addr}{u:HO}(q:dX K h A b=some u):K.lookup b=none∧∃vs:List Value,vs.length≤sizeLine∧(∀u∈vs,OkU A u) ∧
    ((h.get? b=some {cls:=.type "list",data:=.seq vs.toArray}∧u=.frz {cls:=.type "list",data:=.seq vs.toArray} (.lst (vs.map toV))) ∨
     (h.get? b=some {cls:=.type "tuple",data:=.seq vs.toArray}∧u=.frz {cls:=.type "tuple",data:=.seq vs.toArray} (.tup (vs.map toV)))):=by
  obtain⟨hb,hk⟩:=of_argH q;obtain⟨vs,h1,h2,h3⟩:=ar b hb;refine uk hk vs h1 h2 ?_;rcases h3 with e | e
  · rw[ku hb hk e,qc]at q
    exact .inl ⟨e,(Option.some.inj q).symm⟩
  · rw[ku hb hk e,qb]at q
    exact .inr ⟨e,(Option.some.inj q).symm⟩
theorem mY(ar:∀a∈A,fS h A a):OnlyF (dX K h A):=λb=>by
 cases q:dX K h A b with
 |none=>exact .inl rfl
 |some u =>
  obtain⟨_,vs,_,_,⟨_,e⟩|⟨_,e⟩⟩:=g9 ar q
  ·exact .inr (tU _ _ (by rw[e]))
  ·exact .inr (tU _ _ (by rw[e]))
theorem argH_ok(ar:∀a∈A,fS h A a):HOk P w (dX K h A) h:=λb u q=>by
 obtain⟨_,vs,h1,h2,⟨e,rfl⟩|⟨e,rfl⟩⟩:=g9 ar q
 ·exact uv e (by rw[rR];exact h1) vs _ (df h2) e
 ·exact uz e (by rw[rR];exact h1) vs (df h2) (ux _ e rfl _ rfl)
theorem ki{c c':Value}{vs us:List Value}(e:(some {cls:=c,data:=.seq vs.toArray}:Option Obj)=some {cls:=c',data:=.seq us.toArray}):c=c'∧vs=us:=by
 have e1:=Option.some.inj e;have e2:c=c':=congrArg Obj.cls e1;have e3:Data.seq vs.toArray=Data.seq us.toArray:=congrArg Obj.data e1;injection e3 with e4;refine⟨e2,?_⟩;have e5:=congrArg Array.toList e4;simpa using e5
theorem argL(KX:K.In h)(ar:∀a∈A,fS h A a){a:Addr}{vs:List Value}(ha:a∈A)(e:h.get? a=some {cls:=.type "list",data:=.seq vs.toArray}):(∀u∈vs,OkU A u)∧SqL K (dX K h A) a (vs.map toV):=by
 obtain⟨us,h1,h2,h3⟩:=ar a ha;have hu:us=vs:=by
  rcases h3 with q|q
  ·rw[e]at q;exact(ki q).2.symm
  ·rw[e]at q;exact absurd (Value.type.inj (ki q).1) (by decide)
 subst hu;refine⟨h2,?_⟩;cases hk:K.lookup a with
 |none=>exact .inl (.inr ⟨_,by rw[ku ha hk e,qc]⟩)
 |some o =>
  have e2:=KX a o hk;rw[e]at e2;obtain rfl:=Option.some.inj e2;exact .inr (tU _ us.toArray (tJ _ hk rfl rfl rfl (by rw[sh];exact h1) (by simpa using df h2)))
theorem argT(KX:K.In h)(ar:∀a∈A,fS h A a){a:Addr}{vs:List Value}(ha:a∈A)(e:h.get? a=some {cls:=.type "tuple",data:=.seq vs.toArray}):(∀u∈vs,OkU A u)∧SqT K (dX K h A) a (vs.map toV):=by
 obtain⟨us,h1,h2,h3⟩:=ar a ha;have hu:us=vs:=by
  rcases h3 with q|q
  ·rw[e]at q;exact absurd (Value.type.inj (ki q).1) (by decide)
  ·rw[e]at q;exact(ki q).2.symm
 subst hu;refine⟨h2,?_⟩;cases hk:K.lookup a with
 |none=>exact .inl (.inr ⟨_,by rw[ku ha hk e,qb]⟩)
 |some o =>
  have e2:=KX a o hk;rw[e]at e2;obtain rfl:=Option.some.inj e2;exact .inr ⟨_,tG us.toArray _ hk rfl rfl (by rw[sh];exact h1) (by simpa using df h2)⟩
mutual
theorem dw_one{Pm:Params}(KX:K.In h)(ar:∀a∈A,fS h A a):∀(d:WData) (v:Value),Well Pm h v d→plW d=true→OkU A v→Dw K (dX K h A) (toV v) d
 |.none,_,x,_,_=>by
  cases x;exact .non
 |.bool b,_,x,_,_=>by
  cases x;exact .bl b
 |.int i,_,x,_,_=>by
  cases x;exact .int i
 |.str s,_,x,_,_=>by
  cases x;exact .str s
 |.bytes b,_,x,_,_=>by
  cases x;have z:=Dw.byt (K:=K) (H:=dX K h A) b.toArray;exact z
 |.list ds,_,x,p,hu=>by
  obtain⟨a,vs,rfl,ho,hall⟩:=lZ x;obtain⟨h2,hs⟩:=argL KX ar hu ho;exact .lst hs (lA KX ar ds _ hall p h2)
 |.tuple ds,_,x,p,hu=>by
  obtain⟨a,vs,rfl,ho,hall⟩:=kD x;obtain⟨h2,hs⟩:=argT KX ar hu ho;exact .tup hs (lA KX ar ds _ hall p h2)
 |.float _,_,_,p,_=>sC (show false=true from p)
 |.dict _,_,_,p,_=>sC (show false=true from p)
 |.bytearray _,_,_,p,_=>sC (show false=true from p)
 |.set _,_,_,p,_=>sC (show false=true from p)
 |.frozenset _,_,_,p,_=>sC (show false=true from p)
 |.obj _ _,_,_,p,_=>sC (show false=true from p)
theorem lA{Pm:Params}(KX:K.In h)(ar:∀a∈A,fS h A a):∀(ds:List WData) (vs:List Value),WellAll Pm h vs ds→jy ds=true→(∀u∈vs,OkU A u)→eV K (dX K h A) (vs.map toV) ds
 |[],_,x,_,_=>by
  cases x;exact .nil
 |d::ds,_,x,p,hu=>by
  obtain⟨v,vs,rfl,x1,x2⟩:=l4 x;have q:plW d=true∧jy ds=true:=Bool.and_eq_true_iff.mp p;exact .cons (dw_one KX ar d v x1 q.1 (hu _ (rA ..))) (lA KX ar ds vs x2 q.2 λu m=>hu u (rB _ m))
end
end
theorem spec_call{P:Program}{w:World}{K:fG}{mg mb:Str→Option Value}{CX:CXT}{k:Nat}{fa:Addr}{fd:FuncData}{ps:List Str}{sp:Sp}{s₁:Shared}{vals:List Value}{ds:List WData}{R:PySem.W.WRecords}{cl:Str→Option Addr}{d0:WData}(KX:K.In s₁.heap)(hns:s₁.heap.Ns mainGlobals mg)(hb:s₁.heap.Ns builtinsNs mb)(hbb:∀x:Str,x≠"__name__"→mb x=bootBuiltins x)(hlim:s₁.heap.NoLimit)(hg:s₁.gens = #[])(hwl:WellAll w.params s₁.heap vals ds)(hpl:jy ds=true)(hwt:∀d∈ds,d.weight≤1048576)(hr:bP k callerA)(F:∀base:Heap,K.In base→base.Ns mainGlobals mg→aZ P w K mg base CX k fa fd ps sp)(hbind:∀(s:Shared) (us:List Value),us.length=ps.length→BindsTo s fd ⟨us,[]⟩ (ps.zip us))(hlen:ds.length=ps.length)(hsp:∀(H:Hp) (xs:List V),OnlyF H→eV K H xs ds→sp xs H (λv H'=>Dw K H' v d0) λ_ _ _=>False)(hCX:∀H e s',CX [] H s₁ (λ_ _ _=>False) e s'→False):codeAny (model P w) callerA (.call (.ref fa) ⟨vals,[]⟩) (λr s'=>∃u as,r=.ok (.ret u)∧ReadsW R cl s'.heap u d0 as∧OldK s₁.heap s'.heap∧s'.os=s₁.os∧AllBare s'.gens) s₁:=by
 obtain⟨A,ho,ar⟩:=gE ds vals hwl hpl hwt;have hO:OnlyF (dX K s₁.heap A):=mY ar;have hok:HOk P w (dX K s₁.heap A) s₁.heap:=argH_ok ar;have hS:=lA KX ar ds vals hwl hpl ho;have hV:=df ho;have hK:∀b u,dX K s₁.heap A b=some u→K.lookup b=none:=λb u q=>(g9 ar q).1;have noA:∀{b:Addr} {o:Obj} {es:Array DictEntry} {ep:Nat},s₁.heap.get? b=some o→o.data=.dict es ep→dX K s₁.heap A b=none:=λ{b o es ep} e d=>by
  cases q:dX K s₁.heap A b with
  |none=>rfl
  |some u =>
   obtain⟨_,vs,_,_,⟨e2,_⟩|⟨e2,_⟩⟩:=g9 ar q
   ·rw[e2]at e;cases e;have d':Data.seq vs.toArray _=Data.dict es ep:=d;cases d'
   ·rw[e2]at e;cases e;have d':Data.seq vs.toArray _=Data.dict es ep:=d;cases d'
 generalize dX K s₁.heap A=H at hO hok hS hK noA;have base_of:∀{b:Addr} {o:Obj},s₁.heap.get? b=some o→H b=none→(iF s₁.heap H).get? b=some o:=λe n=>qd e n;have nsK:∀{b:Addr} {m:Str→Option Value},s₁.heap.Ns b m→(iF s₁.heap H).Ns b m:=λ{b m} ⟨o,es,ep,e,d,r⟩=>⟨o,es,ep,base_of e (noA e d),d,r⟩
 have nK:∀b o,K.lookup b=some o→H b=none:=λb o e=>by
  cases q:H b with
  |none=>rfl
  |some u =>
   rw[hK b u q]at e;cases e
 have hKb:K.In (iF s₁.heap H):=λb o e=>base_of (KX b o e) (nK b o e);have hM:Mod K mg (iF s₁.heap H):=⟨hKb,nsK hns,⟨mb,nsK hb,hbb⟩,let ⟨mc,h1,h2⟩:=hlim;⟨mc,nsK h1,h2⟩⟩
 have e0:Env0 P w K mg (iF s₁.heap H) callerA [] s₁ H:=⟨rfl,hM,λb o e=>of_hidT e,Nat.le_of_eq (mJ _ _),trivial,λb hb=>absurd (show b∈([]:List Addr) from hb) (by simp),hok,.of_eq hg⟩
 have hl:vals.length=ps.length:=by rw[dM hwl];exact hlen
 refine codeAny_mono ((F _ hKb (nsK hns)).run callerA [] s₁ H ⟨vals,[]⟩ vals (vals.map toV) _ _ hr e0 (hbind s₁ vals hl) hV (hsp H _ hO hS)) λr s' x=>?_;cases r with
 |error e=>exact(hCX H e s' x).elim
 |ok fl =>
  cases fl with
  |next=>exact False.elim x
  |brk=>exact False.elim x
  |cont=>exact False.elim x
  |ret u =>
   obtain⟨v,H',os,bare,un,hok',r',q⟩:=x;have kept:∀b o,s₁.heap.get? b=some o→s'.heap.get? b=some o:=λb o e=>by
    cases q2:H b with
    |none=>exact un.keep b o e q2 (by intro z;exact absurd (show b∈([]:List Addr) from z) (by simp)) (by simp)
    |some u2 =>
     rcases hO b with z|⟨ob,u3,z⟩
     ·rw[q2]at z;cases z
     ·have z2:=un.frzs b ob _ z;obtain⟨e1,_⟩:=hok b _ z;obtain⟨e2,_⟩:=hok' b _ z2;rw[e]at e1;cases e1;exact e2
   have KX':K.In s'.heap:=λb o e=>kept b o (KX b o e);obtain⟨as,hrd⟩:=Dw.reads (R:=R) (cl:=cl) hok' KX' d0 v u q r';exact tG u as rfl hrd (OldK.of_keep kept) os bare
theorem gu{ds:List WData}(h:WData.layableAll ds=true):∀d∈ds,d.weight≤1048576:=λd hd =>
 (PySem.W.layableW_iff.mp (List.all_eq_true.mp h d hd)).2.2
theorem iH:∀(cs:List Codec) (a:Codec.denoteAll cs),(Codec.encAll cs a).length=cs.length
 |[],_=>rfl
 |c::cs,a=>by
  show(Codec.encAll cs a.2).length+1=cs.length+1;rw[iH cs a.2]
theorem walk_spec{r:OpenSpec}{k:Nat}{q:Program}{loose:List Str}{XP:(Str→Option Value)→Heap→Prop}{YP:World→Heap→Prop}{d:DefRec}{K:Params→fG}{CX:World→CXT}{ps:List Str}{sp:World→Sp}(hwell:r.wellSaid=true)(hdf:d.params.defaults=[])(hlen:r.args.length=ps.length)(hr:bP k callerA)(hY:∀(w:World) (h:Heap),YP w h→(K w.params).In h)(F:∀(w:World) (mg:Str→Option Value) (fa:Addr) (h:Heap),YP w h→(K w.params).In h→h.Ns mainGlobals mg→mg d.name=some (.ref fa) →
   ∃fd:FuncData,(∀(s:Shared) (us:List Value),us.length=ps.length→BindsTo s fd ⟨us,[]⟩ (ps.zip us)) ∧
    ∀base:Heap,(K w.params).In base→base.Ns mainGlobals mg→aZ r.prog w (K w.params) mg base (CX w) k fa fd ps (sp w))(hsp:∀(w:World) (H:Hp) (xs:List V) (a:Codec.denoteAll r.args),OnlyF H→Codec.withinAll r.args a=true→Codec.app r.args r.asked a=true→eV (K w.params) H xs (Codec.encAll r.args a) →
   sp w xs H (λv H'=>Dw (K w.params) H' v (r.ret.enc (Codec.app r.args r.f a))) λ_ _ _=>False)(hCX:∀(w:World) (H:Hp) (s:Shared) (e:Value) (s':Shared),CX w [] H s (λ_ _ _=>False) e s'→False):PySem.W.WalkOS q loose XP YP r d [] (λf vs=>PySem.call f vs):=by
 intro w s_0 s₁ mg mb G Y fa o pm cd doc dV kV ho hd hcd hD hmg hg args vals as hpre hlay hrd hwl hlo;obtain⟨a,e1,e2⟩:=PySem.W.os_pre_some hpre;obtain⟨e3,hwi⟩:=Codec.encAll_of_decAll r.args args a e1;subst e3;have KX:=hY w _ Y;obtain⟨fd,hb,hF⟩:=F w mg fa _ Y KX G.T.g hmg;refine PySem.W.enter_call (codeAny_mono (spec_call (R:=[]) (cl:=classAt s_0.heap) (d0:=r.ret.enc (Codec.app r.args r.f a)) KX G.T.g G.T.b G.T.builtins G.T.nolimit hg hwl (jx _ _) (gu hlay) hr hF hb (by rw[iH];exact hlen)
  (λH xs hO hS=>hsp w H xs a hO hwi e2 hS) λH e s'=>hCX w H s₁ e s') λr' s' hq=>?_)
 obtain⟨u,as',rfl,h1,h2,h3,h4⟩:=hq;exact ud (.inl ⟨u,tG _ as' rfl (λ_=>rfl) h1 ((OpenSpec.post_iff hwell hwi _ _).mpr rfl) (λz=>sC (show false=true from z))⟩) h2 h3 h4
theorem walk_specK{r:OpenSpec}{k:Nat}{q:Program}{loose:List Str}{XP:(Str→Option Value)→Heap→Prop}{YP:World→Heap→Prop}{d:DefRec}{K:Params→fG}{CX:CXT}{ps:List Str}{sp:fG→Sp}(hwell:r.wellSaid=true)(hdf:d.params.defaults=[])(hlen:r.args.length=ps.length)(hr:bP k callerA)(hY:∀(w:World) (h:Heap),YP w h→(K w.params).In h)(F:∀(w:World) (mg:Str→Option Value) (fa:Addr) (h:Heap),YP w h→(K w.params).In h→h.Ns mainGlobals mg→mg d.name=some (.ref fa) →
   ∃fd:FuncData,(∀(s:Shared) (us:List Value),us.length=ps.length→BindsTo s fd ⟨us,[]⟩ (ps.zip us)) ∧
    ∀base:Heap,(K w.params).In base→base.Ns mainGlobals mg→aZ r.prog w (K w.params) mg base CX k fa fd ps (sp (K w.params)))(hsp:∀(K:fG) (H:Hp) (xs:List V) (a:Codec.denoteAll r.args),OnlyF H→Codec.withinAll r.args a=true→Codec.app r.args r.asked a=true→eV K H xs (Codec.encAll r.args a) →
   sp K xs H (λv H'=>Dw K H' v (r.ret.enc (Codec.app r.args r.f a))) λ_ _ _=>False)(hCX:∀(H:Hp) (s:Shared) (e:Value) (s':Shared),CX [] H s (λ_ _ _=>False) e s'→False):PySem.W.WalkOS q loose XP YP r d [] (λf vs=>PySem.call f vs) :=
 walk_spec (K:=K) (CX:=λ_=>CX) (sp:=λw=>sp (K w.params)) hwell hdf hlen hr hY F (λw H xs a h1 h2 h3 h4=>hsp (K w.params) H xs a h1 h2 h3 h4) λ_ H s e s'=>hCX H s e s'
end L2
end
end
section
namespace My
open PySem PySem.Spec PyProof.Rows L2
inductive Kd|lst|tup
 deriving DecidableEq
structure Cp where
 kd:Kd
 it:Addr
 src:Addr
 vs:Array Value
def Cp.at(c:Cp)(h:Heap)(k:Nat):Prop:=match c.kd with
 |.lst=>h.IsListIter c.it c.src k∧h.IsList c.src c.vs
 |.tup=>IsTupIter h c.it c.src k∧IsTup h c.src c.vs
theorem Cp.keep{c:Cp}{h h':Heap}{k:Nat}(p:c.at h k)(e1:∀o,h.get? c.it=some o→h'.get? c.it=some o)(e2:∀o,h.get? c.src=some o→h'.get? c.src=some o):c.at h' k:=by
 unfold Cp.at at p ⊢;split at p
 ·obtain⟨⟨o,e,r⟩,⟨o',e',r'⟩⟩:=p;exact⟨(tF o (e1 o e) r),(tF o' (e2 o' e') r')⟩
 ·obtain⟨⟨o,e,r⟩,⟨o',e',r'⟩⟩:=p;exact⟨(tF o (e1 o e) r),(tF o' (e2 o' e') r')⟩
section
variable {prog:Program} {w:World} {A:Around} {E:Value→Shared→Prop} {s:Shared}
theorem ke{it t:Addr}{i:Nat}{its:Array Value}{x:Value}{Q:Value→Shared→Prop}(p:IsTupIter s.heap it t i)(pt:IsTup s.heap t its)(hx:its[i]?=some x)(q:∀h',IsTupIter h' it t (i+1)→Heap.SameBut it s.heap h'→Q x {s with heap:=h'}):wpAny (model prog w) A (Builtin.SmallTypes.nextOf (.ref it)) Q E s:=by
 obtain⟨ob,hob,hc,hd⟩:=id p;obtain⟨ol,hol,_,nl,hdl⟩:=pt;unfold Builtin.SmallTypes.nextOf;refine wpAny_bind (wpAny_callSpecial?_slot (name:=Str.ofString "__next__") p.typeIs slot_tupleiter_next (wpAny_call_entry slot_tupleiter_next p.typeIs entry_tupleiter_next ?_ (args_tupleiter_next _)));show wpAny _ _ (field (.ref it) 0 >>= _) _ _ _;refine wpAny_bind (wpAny_field hob hd (x:=.ref t) rfl ?_);show wpAny _ _ (if (Value.ref t==Value.none)=true then _ else _) _ _ _;rw[if_neg (show ¬((Value.ref t==Value.none)=true) by intro z;cases z)];show wpAny _ _ (field (.ref it) 1 >>= _) _ _ _;refine wpAny_bind (wpAny_field hob hd (x:=.int i 0) rfl ?_);show wpAny _ _ (seqItems? (.ref t) >>= _) _ _ _;refine wpAny_bind (wpAny_seqItems hol hdl ?_);simp only[Int.toNat_natCast,hx];refine wpAny_bind (wpAny_setField hob hd (by simp) (wpAny_pure (tF x rfl (wpAny_pure (q _ ?_ (Heap.SameBut.update ..))))));refine tK _ (Heap.get?_update_self _ hob (Obj.isFreed_of_fields (Obj.data_mapFields hd _))) ((Obj.cls_mapFields ..).trans hc) ?_;rw[Obj.data_mapFields hd];simp[rawInt]
theorem Cp.item{c:Cp}{k:Nat}{x:Value}{Q:Value→Shared→Prop}(p:c.at s.heap k)(ne:c.src≠c.it)(hx:c.vs[k]?=some x)(q:∀h',c.at h' (k+1)→Heap.SameBut c.it s.heap h'→Q x {s with heap:=h'}):wpAny (model prog w) A (Builtin.SmallTypes.nextOf (.ref c.it)) Q E s:=by
 obtain⟨kd,it,src,vs⟩:=c;cases kd with
 |lst =>
  obtain⟨p1,p2⟩:=p;exact wpAny_nextOf_list_item p1 p2 hx λh' a b=>q h' ⟨a,p2.extBut b.extBut ne⟩ b
 |tup =>
  obtain⟨p1,p2⟩:=p;refine ke p1 p2 hx λh' a b=>q h' ⟨a,?_⟩ b;obtain⟨o',e',r'⟩:=p2;exact tF o' (b.extBut _ _ ne e') r'
abbrev cV(h:Heap)(T:Addr)(vs:Array Value):Prop:=h.get? T=some {cls:=.type "tuple",data:=.seq vs}
theorem upd_tup{T:Addr}{vs:Array Value}{x:Value}{k:Nat}{Q:Unit→Shared→Prop}(p:cV s.heap T vs)(hsz:vs.size≤100)(q:∀h',cV h' T (vs.setIfInBounds k x)→Heap.SameBut T s.heap h'→Q () {s with heap:=h'}):wpAny (model prog w) A (updateSeq T (·.setIfInBounds k x)) Q E s:=by
 refine wpAny_updateSeq p rfl (q _ ?_ (Heap.SameBut.update ..)) (rq hsz (by decide)) (by rw[Array.size_setIfInBounds];exact rq hsz (by decide));show(s.heap.update T _).get? T=_;rw[Heap.get?_update_self _ p rfl];simp[Obj.mapSeq]
structure Apart(z TI TO:Addr)(cs:List Cp):Prop where
 TIz:TI≠z
 TOz:TO≠z
 TITO:TI≠TO
 itz:∀c∈cs,c.it≠z∧c.it≠TI∧c.it≠TO
 srcz:∀c∈cs,c.src≠z∧c.src≠TO
 src:∀c∈cs,∀d∈cs,c.src≠d.it
 nd:(cs.map (·.it)).Nodup
theorem zipN_next{z TI TO:Addr}{cs:List Cp}{k:Nat}{old:Array Value}{xs:List Value}{Q:Value→Shared→Prop}(D:Apart z TI TO cs)(hne:cs≠[])(pz:IsZip s.heap z TI TO .none)(pI:cV s.heap TI (cs.map λc=>Value.ref c.it).toArray)(pO:cV s.heap TO old)(ho:old.size=cs.length)(hcl:cs.length≤100)(pc:∀c∈cs,c.at s.heap k)(hx:xs.length=cs.length)(hxs:∀(j:Nat) (c:Cp) (x:Value),cs[j]?=some c→xs[j]?=some x→c.vs[k]?=some x)(q:∀h',IsZip h' z TI TO (rawInt s.heap.objs.size)→cV h' TO xs.toArray→(∀c∈cs,c.at h' (k+1))→cV h' s.heap.objs.size xs.toArray→h'.objs.size=s.heap.objs.size+1 →
   (∀b o,b≠z→b≠TO→(∀c∈cs,b≠c.it)→s.heap.get? b=some o→h'.get? b=some o)→Q (.ref s.heap.objs.size) {s with heap:=h'}):wpAny (model prog w) A (Builtin.«zip.__next__» ⟨[.ref z],[]⟩) (λfin s'=>∃v,fin=.done (.ret v)∧Q v s') E s:=by
 show wpAny _ _ (field (.ref z) 2 >>= _) _ _ _;refine wpAny_bind (wpAny_field pz rfl (x:=.bool false) rfl ?_);show wpAny _ _ (field (.ref z) 3 >>= _) _ _ _;refine wpAny_bind (wpAny_field pz rfl (x:=.ref TI) rfl ?_);refine wpAny_bind (wpAny_seqItems pI rfl ?_);have he:((cs.map λc=>Value.ref c.it).toArray).isEmpty=false:=by
  cases cs with
  |nil=>exact absurd rfl hne
  |cons c cs=>rfl
 simp only[he,sw,if_false];refine wpAny_bind ?_;unfold Builtin.SmallTypes.ownedTupleIsFree;refine wpAny_bind (wpAny_field pz rfl (x:=.none) rfl (wpAny_pure ?_));simp only[if_true];refine wpAny_bind (wpAny_rule (wpAny_bind (wpAny_field pz rfl (x:=.ref TO) rfl ?_)));refine wpAny_bind (wpAny_setField_rec pz (by simp) λh1 z1 s1=>?_);have z1:IsZip h1 z TI TO .ellipsis:=z1;refine wpAny_bind (wpAny_forIn_list _ (λrest b s'=>b=(none,())∧∃(j:Nat) (h:Heap),s'={s with heap:=h}∧rest=((cs.map λc=>Value.ref c.it).zipIdx).drop j∧j≤cs.length∧IsZip h z TI TO .ellipsis∧cV h TO (xs.take j++old.toList.drop j).toArray ∧
   (∀(i:Nat) (c:Cp),cs[i]?=some c→c.at h (if i<j then k+1 else k))∧h.objs.size=s.heap.objs.size∧(∀b o,b≠z→b≠TO→(∀c∈cs,b≠c.it)→s.heap.get? b=some o→h.get? b=some o)) _ ?turn ?fin _ _
  (ut rfl 0 h1 rfl (tN rfl (rO _) z1 ?_ (λi c hc=>?_) s1.1 (λb o n1 _ _ e=>s1.extBut _ _ n1 e))))
 case turn =>
  rintro ⟨v,i⟩ rest r s' ⟨hr,j,h,e1,e2,hj,hz,hO,hcs,hsz,hk⟩;subst hr e1;have hjl:j<cs.length:=by
   by_cases hjl:j<cs.length
   ·exact hjl
   ·rw[sE (by rw[List.length_zipIdx,rR];omega)]at e2;cases e2
  rw[sF (by rw[List.length_zipIdx,rR];exact hjl),List.getElem_zipIdx,List.getElem_map]at e2;injection e2 with e2 e3;injection e2 with ev ei;have ei:j=i:=by omega
  subst ev ei e3;have hc:cs[j]?=some cs[j]:=sG hjl;have hm:cs[j]∈cs:=List.getElem_mem hjl;have hxj:xs[j]?=some xs[j]:=sG (by omega);have pj:=hcs j _ hc;rw[if_neg (by omega)]at pj;have hnit:∀(i:Nat) (c:Cp),cs[i]?=some c→i≠j→c.it≠cs[j].it:=by
   intro i c hi hij z;have a1:(cs.map (·.it))[i]?=some c.it:=by rw[r6,hi];rfl
   have a2:(cs.map (·.it))[j]?=some c.it:=by rw[r6,hc,z];rfl
   exact hij ((List.getElem?_inj (rE.mp a1).1 D.nd).mp (a1.trans a2.symm))
  refine wpAny_bind (wpAny_onRaise ?_);show wpAny _ _ (Builtin.SmallTypes.nextOf (.ref cs[j].it) >>= _) _ _ _;refine wpAny_bind (Cp.item pj (D.src _ hm _ hm) (hxs j _ _ hc hxj) λh2 p2 s2=>wpAny_pure ?_);have hO2:=s2.extBut _ _ (D.itz _ hm).2.2.symm hO;refine wpAny_bind (wpAny_seqItems hO2 rfl (wpAny_bind (upd_tup hO2 ?_ λh3 hO3 s3=>?_)))
  ·simp;omega
  ·refine wpAny_bind (wpAny_letGo (wpAny_pure (ut rfl (j+1) h3 rfl (tN rfl hjl (s3.extBut _ _ D.TOz.symm (s2.extBut _ _ (D.itz _ hm).1.symm hz)) ?_ (λi c hi=>?_) (by rw[s3.1,s2.1,hsz]) (λb o n1 n2 n3 e=>s3.extBut _ _ n2 (s2.extBut _ _ (n3 _ hm) (hk b o n1 n2 n3 e)))))))
   ·have e4:((xs.take j++old.toList.drop j).toArray.setIfInBounds j xs[j])=(xs.take (j+1)++old.toList.drop (j+1)).toArray:=by
     apply Array.ext';simp only[Array.toList_setIfInBounds];have hlj:(xs.take j).length=j:=by rw[rX];omega
     have e6:xs.take (j+1)=xs.take j++[xs[j]]:=by
      rw[sI,hxj];rfl
     rw[List.set_append_right _ _ (by omega),hlj,sJ,e6,sF (show j<old.toList.length by simp;omega),List.set_cons_zero,sK];rfl
    rw[←e4];exact hO3
   ·have hcm:c∈cs:=r8 hi;have keepS:∀o,h.get? c.src=some o→h3.get? c.src=some o:=λo e=>s3.extBut _ _ (D.srcz _ hcm).2 (s2.extBut _ _ (D.src _ hcm _ hm) e);by_cases hij:i=j
    ·subst hij;rw[hi]at hc;injection hc with hc;subst hc;rw[if_pos (by omega)];exact Cp.keep p2 (λo e=>s3.extBut _ _ (D.itz _ hcm).2.2 e) (λo e=>s3.extBut _ _ (D.srcz _ hcm).2 e)
    ·have pi:=hcs i c hi;have e5:(if i<j+1 then k+1 else k)=if i<j then k+1 else k:=by
      by_cases h1:i<j
      ·rw[if_pos h1,if_pos (by omega)]
      ·rw[if_neg h1,if_neg (by omega)]
     rw[e5];exact Cp.keep pi (λo e=>s3.extBut _ _ (D.itz _ hcm).2.2 (s2.extBut _ _ (hnit i c hi hij) e)) keepS
 case fin =>
  rintro b s' ⟨hr,j,h,e1,e2,hj,hz,hO,hcs,hsz,hk⟩;subst hr e1;have hjn:j=cs.length:=by
   have:=congrArg List.length e2;rw[sg,List.length_zipIdx,rR,sx]at this;omega
  subst hjn;rw[sn (by omega),sE (by simp;omega),rT]at hO;refine wpAny_bind (wpAny_seqItems hO rfl ?_);refine wpAny_bind (wpAny_newTuple ?_ (by simp;exact rq (show xs.length≤100 by omega) (by decide)));have hzl:z<h.objs.size:=rg hz;have hz6:IsZip (h.push {cls:=.type "tuple",data:=.seq xs.toArray}) z TI TO .ellipsis:=rJ _ hz;show wpAny _ _ (Builtin.SmallTypes.ownedTupleHandOut (.ref z) (.ref h.objs.size) >>= _) _ _ _;refine wpAny_bind ?_;unfold Builtin.SmallTypes.ownedTupleHandOut;refine wpAny_bind (wpAny_setField_rec hz6 (by simp) λh7 z7 s7=>?_);have z7:IsZip h7 z TI TO (rawInt h.objs.size):=z7;refine wpAny_setField_rec z7 (by simp) λh8 z8 s8=>?_;have z8:IsZip h8 z TI TO (rawInt h.objs.size):=z8;have up:∀b o,b≠z→h.get? b=some o→h8.get? b=some o:=λb o n e=>s8.extBut _ _ n (s7.extBut _ _ n (rJ _ e));have hT:cV h8 h.objs.size xs.toArray:=s8.extBut _ _ (rH hzl) (s7.extBut _ _ (rH hzl) (rK _ rfl));have h8s:h8.objs.size=h.objs.size+1:=by rw[s8.1,s7.1,rS]
  rw[hsz]at z8 hT h8s;refine wpAny_pure (tF _ rfl ?_);show Q (.ref h.objs.size) _;rw[hsz];refine q h8 z8 (up _ _ D.TOz hO) (λc hc=>?_) hT h8s (λb o n1 n2 n3 e=>up b o n1 (hk b o n1 n2 n3 e));obtain⟨i,hi⟩:=sM hc;have pi:=hcs i c hi;rw[if_pos (rE.mp hi).1]at pi;exact Cp.keep pi (λo e=>up _ o (D.itz _ hc).1 e) (λo e=>up _ o (D.srcz _ hc).1 e)
 ·show cV h1 TO (xs.take 0++old.toList.drop 0).toArray;have:(xs.take 0++old.toList.drop 0).toArray=old:=by simp
  rw[this];exact s1.extBut _ _ D.TOz pO
 ·have hcm:=r8 hc;rw[if_neg (by omega)];exact Cp.keep (pc c hcm) (λo e=>s1.extBut _ _ (D.itz _ hcm).1 e) (λo e=>s1.extBut _ _ (D.srcz _ hcm).1 e)
theorem lB{it t:Addr}{i:Nat}{its:Array Value}{Q:Value→Shared→Prop}(calm:A.handled=none)(p:IsTupIter s.heap it t i)(pt:IsTup s.heap t its)(hx:its[i]?=none)(q:∀h' e,Heap.ExtBut it s.heap h'→(∃o,h'.get? e=some o∧o.cls=.type "StopIteration")→E (.ref e) {s with heap:=h'}):wpAny (model prog w) A (Builtin.SmallTypes.nextOf (.ref it)) Q E s:=by
 obtain⟨ob,hob,hc,hd⟩:=id p;obtain⟨ol,hol,_,nl,hdl⟩:=pt;unfold Builtin.SmallTypes.nextOf;refine wpAny_bind (wpAny_callSpecial?_slot (name:=Str.ofString "__next__") p.typeIs slot_tupleiter_next (wpAny_call_entry slot_tupleiter_next p.typeIs entry_tupleiter_next ?_ (args_tupleiter_next _)));show wpAny _ _ (field (.ref it) 0 >>= _) _ _ _;refine wpAny_bind (wpAny_field hob hd (x:=.ref t) rfl ?_);show wpAny _ _ (if (Value.ref t==Value.none)=true then _ else _) _ _ _;rw[if_neg (show ¬((Value.ref t==Value.none)=true) by intro z;cases z)];show wpAny _ _ (field (.ref it) 1 >>= _) _ _ _;refine wpAny_bind (wpAny_field hob hd (x:=.int i 0) rfl ?_);show wpAny _ _ (seqItems? (.ref t) >>= _) _ _ _;refine wpAny_bind (wpAny_seqItems hol hdl ?_);simp only[Int.toNat_natCast,hx];refine wpAny_bind (wpAny_rule (wpAny_bind (wpAny_setField hob hd (by simp) ?_)));show wpAny _ _ (newExc (.type "StopIteration") [] >>= _) _ _ _;refine wpAny_bind ?_;simp only[newExc,newTuple];refine wpAny_bind (wpAny_newObj_type ?_ (by size_fits));refine wpAny_bind (m:=firstArgMember _ _) (wpAny_of_eq (a:=Value.none) (by first|rfl|(simp only[firstArgMember];rfl)) ?_);refine wpAny_newObj_type ?_ (by size_fits);simp only[raiseNew];refine wpAny_bind (wpAny_handled ?_)
 first|rw[show A.in1.handled=none from calm]|rw[calm]
 refine wpAny_bind (wpAny_pure (wpAny_throw (q _ _ (((Heap.SameBut.update ..).extBut.push _).push _) (tF _ (rK _ rfl) rfl))))
theorem Cp.stop{c:Cp}{k:Nat}{Q:Value→Shared→Prop}(calm:A.handled=none)(p:c.at s.heap k)(hx:c.vs[k]?=none)(q:∀h' e,Heap.ExtBut c.it s.heap h'→(∃o,h'.get? e=some o∧o.cls=.type "StopIteration")→E (.ref e) {s with heap:=h'}):wpAny (model prog w) A (Builtin.SmallTypes.nextOf (.ref c.it)) Q E s:=by
 obtain⟨kd,it,src,vs⟩:=c;cases kd with
 |lst =>
  obtain⟨p1,p2⟩:=p;exact wpAny_nextOf_list_end calm p1 p2 hx q
 |tup =>
  obtain⟨p1,p2⟩:=p;exact lB calm p1 p2 hx q
theorem zipN_end{z TI TO:Addr}{c0:Cp}{cs:List Cp}{k:Nat}{Q:Fin→Shared→Prop}(calm:A.handled=none)(D:Apart z TI TO (c0::cs))(pz:IsZip s.heap z TI TO .none)(pI:cV s.heap TI ((c0::cs).map λc=>Value.ref c.it).toArray)(pc:c0.at s.heap k)(hx:c0.vs[k]?=none)(q:∀h' e,(∀b o,b≠z→b≠c0.it→s.heap.get? b=some o→h'.get? b=some o)→(∃o,h'.get? e=some o∧o.cls=.type "StopIteration")→E (.ref e) {s with heap:=h'}):wpAny (model prog w) A (Builtin.«zip.__next__» ⟨[.ref z],[]⟩) Q E s:=by
 show wpAny _ _ (field (.ref z) 2 >>= _) _ _ _;refine wpAny_bind (wpAny_field pz rfl (x:=.bool false) rfl ?_);show wpAny _ _ (field (.ref z) 3 >>= _) _ _ _;refine wpAny_bind (wpAny_field pz rfl (x:=.ref TI) rfl ?_);refine wpAny_bind (wpAny_seqItems pI rfl ?_);have he:(((c0::cs).map λc=>Value.ref c.it).toArray).isEmpty=false:=rfl;simp only[he,sw,if_false];refine wpAny_bind ?_;unfold Builtin.SmallTypes.ownedTupleIsFree;refine wpAny_bind (wpAny_field pz rfl (x:=.none) rfl (wpAny_pure ?_));simp only[if_true];refine wpAny_bind (wpAny_rule (wpAny_bind (wpAny_field pz rfl (x:=.ref TO) rfl ?_)));refine wpAny_bind (wpAny_setField_rec pz (by simp) λh1 z1 s1=>?_);have z1:IsZip h1 z TI TO .ellipsis:=z1;have m0:c0∈c0::cs:=by simp
 refine wpAny_bind ?_;simp only[rQ,List.zipIdx_cons,List.forIn_cons];refine wpAny_bind (wpAny_bind (wpAny_onRaise ?_));show wpAny _ _ (Builtin.SmallTypes.nextOf (.ref c0.it) >>= _) _ _ _;have p1:c0.at h1 k:=Cp.keep pc (λo e=>s1.extBut _ _ (D.itz _ m0).1 e) (λo e=>s1.extBut _ _ (D.srcz _ m0).1 e);refine wpAny_bind (Cp.stop calm p1 hx λh2 e s2 ho=>?_);obtain⟨oe,hoe,hce⟩:=ho;have z2:IsZip h2 z TI TO .ellipsis:=s2 _ _ (D.itz _ m0).1.symm z1;have hez:e≠z:=by
  intro y;subst y;rw[z2]at hoe;cases hoe;simp at hce
 exact wpAny_setField_rec z2 (by simp) λh3 _ s3=>q h3 e (λb o n1 n2 x=>s3.extBut _ _ n1 (s2 _ _ n2 (s1.extBut _ _ n1 x))) (tF oe (s3.extBut _ _ hez hoe) hce)
theorem pk{z TI TO:Addr}{cs:List Cp}{k:Nat}{old:Array Value}{xs:List Value}{Q:Option Value→Shared→Prop}(D:Apart z TI TO cs)(hne:cs≠[])(pz:IsZip s.heap z TI TO .none)(pI:cV s.heap TI (cs.map λc=>Value.ref c.it).toArray)(pO:cV s.heap TO old)(ho:old.size=cs.length)(hcl:cs.length≤100)(pc:∀c∈cs,c.at s.heap k)(hx:xs.length=cs.length)(hxs:∀(j:Nat) (c:Cp) (x:Value),cs[j]?=some c→xs[j]?=some x→c.vs[k]?=some x)(q:∀h',IsZip h' z TI TO (rawInt s.heap.objs.size)→cV h' TO xs.toArray→(∀c∈cs,c.at h' (k+1))→cV h' s.heap.objs.size xs.toArray→h'.objs.size=s.heap.objs.size+1 →
   (∀b o,b≠z→b≠TO→(∀c∈cs,b≠c.it)→s.heap.get? b=some o→h'.get? b=some o)→Q (some (.ref s.heap.objs.size)) {s with heap:=h'}):wpAny (model prog w) A (pyNext (.ref z)) Q E s:=by
 have ty:s.TypeIs (.ref z) "zip":=tF _ pz rfl
 unfold pyNext;exact wpAny_bind (wpAny_attempt (wpAny_callSpecial?_slot (name:=Str.ofString "__next__") ty F.slot_zip_next (wpAny_call_entry F.slot_zip_next ty F.entry_zip_next
  (zipN_next D hne pz pI pO ho hcl pc hx hxs λh' a1 a2 a3 a4 a5 a6=>wpAny_pure (q h' a1 a2 a3 a4 a5 a6)) (F.args_zip_next_1 _))))
theorem kb{z TI TO:Addr}{c0:Cp}{cs:List Cp}{k:Nat}{Q:Option Value→Shared→Prop}(calm:A.handled=none)(D:Apart z TI TO (c0::cs))(pz:IsZip s.heap z TI TO .none)(pI:cV s.heap TI ((c0::cs).map λc=>Value.ref c.it).toArray)(pc:c0.at s.heap k)(hx:c0.vs[k]?=none)(q:∀h',(∀b o,b≠z→b≠c0.it→s.heap.get? b=some o→h'.get? b=some o)→Q none {s with heap:=h'}):wpAny (model prog w) A (pyNext (.ref z)) Q E s:=by
 have ty:s.TypeIs (.ref z) "zip":=tF _ pz rfl
 unfold pyNext;refine wpAny_bind (wpAny_attempt (wpAny_callSpecial?_slot (name:=Str.ofString "__next__") ty F.slot_zip_next (wpAny_call_entry F.slot_zip_next ty F.entry_zip_next
  (zipN_end calm D pz pI pc hx λh' e hk ho=>?_) (F.args_zip_next_1 _))))
 obtain⟨oe,hoe,hce⟩:=ho;exact wpAny_bind (wpAny_isInstance (T:="StopIteration") (b:=true) (tF oe hoe hce) isSubtype_stop (wpAny_pure (q _ hk)))
end
def cU(kd:Kd)(h:Heap)(a:Addr)(vs:Array Value):Prop:=match kd with
 |.lst=>h.IsList a vs
 |.tup=>IsTup h a vs
def itName:Kd→String
 |.lst=>"list_iterator"
 |.tup=>"tuple_iterator"
abbrev eQ(kd:Kd)(a:Addr):Obj:={cls:=.type (itName kd),data:=.fields #[.ref a,.int 0 0]}
theorem cU.push{kd:Kd}{h:Heap}{a:Addr}{vs:Array Value}(p:cU kd h a vs)(o:Obj):cU kd (h.push o) a vs:=by
 cases kd with
 |lst=>exact Heap.IsList.push p o
 |tup =>
  obtain⟨ob,e,r⟩:=p;exact tF ob (rJ _ e) r
theorem fg{prog:Program}{w:World}{A:Around}{E:Value→Shared→Prop}{s:Shared}{kd:Kd}{a:Addr}{vs:Array Value}{Q:Value→Shared→Prop}(p:cU kd s.heap a vs)(q:Q (.ref s.heap.objs.size) {s with heap:=s.heap.push (eQ kd a)}):wpAny (model prog w) A (pyIter (.ref a)) Q E s:=by
 cases kd with
 |lst=>exact wpAny_pyIter_list p q
 |tup=>exact iter_tuple p q
abbrev zA1(h:Heap)(k1:Kd)(a1:Addr):Heap:=h.push (eQ k1 a1)
abbrev zA2(h:Heap)(k1 k2:Kd)(a1 a2:Addr):Heap:=(zA1 h k1 a1).push (eQ k2 a2)
abbrev zA3(h:Heap)(k1 k2:Kd)(a1 a2:Addr):Heap:=(zA2 h k1 k2 a1 a2).push {cls:=.type "tuple",data:=.seq #[.ref h.objs.size,.ref (zA1 h k1 a1).objs.size]}
abbrev zA4(h:Heap)(k1 k2:Kd)(a1 a2:Addr):Heap:=(zA3 h k1 k2 a1 a2).push {cls:=.type "tuple",data:=.seq #[.none,.none]}
abbrev zA5(h:Heap)(k1 k2:Kd)(a1 a2:Addr):Heap:=(zA4 h k1 k2 a1 a2).push {cls:=.type "zip",data:=.fields #[.none,.bool false,.bool false,.ref (zA2 h k1 k2 a1 a2).objs.size,.ref (zA3 h k1 k2 a1 a2).objs.size]}
theorem qR(k1 k2:Kd)(a1 a2:Addr)(xs ys:Array Value):Meets (Builtin.«zip.__new__» ⟨[.type "zip",.ref a1,.ref a2],[]⟩) (λ_ R s=>cU k1 s.heap a1 xs∧cU k2 s.heap a2 ys∧R (.ok (.ret (.ref (zA4 s.heap k1 k2 a1 a2).objs.size))) {s with heap:=zA5 s.heap k1 k2 a1 a2}) :=
 .of_wp λprog w A R s h=>by
  obtain⟨hp,g,d,tk,os⟩:=s;obtain⟨p1,p2,h⟩:=h;have hsub:=sub_zip;have q1:cU k1 (Shared.heap ⟨hp,g,d,tk,os⟩) a1 xs:=p1;have q2:cU k2 (Shared.heap ⟨hp.push (eQ k1 a1),g,d,tk,os⟩) a2 ys:=p2.push _
  wp_walk using fg q1,fg q2
  exact tF _ rfl h
abbrev zB3(h:Heap)(k1 k2 k3:Kd)(a1 a2 a3:Addr):Heap:=(zA2 h k1 k2 a1 a2).push (eQ k3 a3)
abbrev zB4(h:Heap)(k1 k2 k3:Kd)(a1 a2 a3:Addr):Heap:=(zB3 h k1 k2 k3 a1 a2 a3).push {cls:=.type "tuple",data:=.seq #[.ref h.objs.size,.ref (zA1 h k1 a1).objs.size,.ref (zA2 h k1 k2 a1 a2).objs.size]}
abbrev zB5(h:Heap)(k1 k2 k3:Kd)(a1 a2 a3:Addr):Heap:=(zB4 h k1 k2 k3 a1 a2 a3).push {cls:=.type "tuple",data:=.seq #[.none,.none,.none]}
abbrev zB6(h:Heap)(k1 k2 k3:Kd)(a1 a2 a3:Addr):Heap:=(zB5 h k1 k2 k3 a1 a2 a3).push {cls:=.type "zip",data:=.fields #[.none,.bool false,.bool false,.ref (zB3 h k1 k2 k3 a1 a2 a3).objs.size,.ref (zB4 h k1 k2 k3 a1 a2 a3).objs.size]}
set_option maxHeartbeats 8000000 in
theorem qQ(k1 k2 k3:Kd)(a1 a2 a3:Addr)(xs ys ws:Array Value):Meets (Builtin.«zip.__new__» ⟨[.type "zip",.ref a1,.ref a2,.ref a3],[]⟩) (λ_ R s=>cU k1 s.heap a1 xs∧cU k2 s.heap a2 ys∧cU k3 s.heap a3 ws∧R (.ok (.ret (.ref (zB5 s.heap k1 k2 k3 a1 a2 a3).objs.size))) {s with heap:=zB6 s.heap k1 k2 k3 a1 a2 a3}) :=
 .of_wp λprog w A R s h=>by
  obtain⟨hp,g,d,tk,os⟩:=s;obtain⟨p1,p2,p3,h⟩:=h;have hsub:=sub_zip;have q1:cU k1 (Shared.heap ⟨hp,g,d,tk,os⟩) a1 xs:=p1;have q2:cU k2 (Shared.heap ⟨hp.push (eQ k1 a1),g,d,tk,os⟩) a2 ys:=p2.push _;have q3:cU k3 (Shared.heap ⟨(hp.push (eQ k1 a1)).push (eQ k2 a2),g,d,tk,os⟩) a3 ws:=(p3.push _).push _
  wp_walk using fg q1,fg q2,fg q3
  exact tF _ rfl h
theorem tc_zip3(a b c:Value):checkTypeCall "zip" ⟨[a,b,c],[]⟩=pure ():=by kernel_rfl
theorem nc_zip3(a b c:Value):checkBuiltinCall "zip.__new__" ⟨[.type "zip",a,b,c],[]⟩=pure ():=by kernel_rfl
theorem oi_4(a b c d:Value):argsOk "object.__init__" ⟨[a,b,c,d],[]⟩:=by
 unfold argsOk;rw[signature?_of (id:="object.__init__") (n:=['_','_','t','i','n','i','_','_']) (o:=['t','c','e','j','b','o']) (by kernel_rfl) F.owner_object]
 kernel_rfl
theorem lD{kd:Kd}{h h':Heap}{a it:Addr}{vs:Array Value}(p:cU kd h a vs)(e:h'.get? it=some (eQ kd a))(k:∀b o,h.get? b=some o→h'.get? b=some o):(⟨kd,it,a,vs⟩:Cp).at h' 0:=by
 cases kd with
 |lst =>
  obtain⟨ob,e2,r⟩:=p;exact⟨(tK _ e rfl rfl),(tF ob (k _ _ e2) r)⟩
 |tup =>
  obtain⟨ob,e2,r⟩:=p;exact⟨(tK _ e rfl rfl),(tF ob (k _ _ e2) r)⟩
section
variable {prog:Program} {w:World} {A:Around} {E:Value→Shared→Prop} {s:Shared}
theorem zip2_made{k1 k2:Kd}{a1 a2:Addr}{xs ys:Array Value}{Q:Value→Shared→Prop}(p1:cU k1 s.heap a1 xs)(p2:cU k2 s.heap a2 ys)(q:∀h',IsZip h' (s.heap.objs.size+4) (s.heap.objs.size+2) (s.heap.objs.size+3) .none→cV h' (s.heap.objs.size+2) #[.ref s.heap.objs.size,.ref (s.heap.objs.size+1)]→cV h' (s.heap.objs.size+3) #[.none,.none] →
   (⟨k1,s.heap.objs.size,a1,xs⟩:Cp).at h' 0→(⟨k2,s.heap.objs.size+1,a2,ys⟩:Cp).at h' 0→(∀b o,s.heap.get? b=some o→h'.get? b=some o)→Q (.ref (s.heap.objs.size+4)) {s with heap:=h'}):wpAny (model prog w) A (call (.type "zip") [.ref a1,.ref a2]) Q E s:=by
 refine callType_new F.called_zip (by decide) (F.typeCall_zip_2 _ _) (F.newCall_zip_2 _ _) (λobj=>F.args_object_init_3 obj _ _) F.entry_zip_new (qR k1 k2 a1 a2 xs ys) (tS p1 p2 ?_);have z1:(zA1 s.heap k1 a1).objs.size=s.heap.objs.size+1:=rS ..;have z2:(zA2 s.heap k1 k2 a1 a2).objs.size=s.heap.objs.size+2:=by rw[rS,z1]
 have z3:(zA3 s.heap k1 k2 a1 a2).objs.size=s.heap.objs.size+3:=by rw[rS,z2]
 have z4:(zA4 s.heap k1 k2 a1 a2).objs.size=s.heap.objs.size+4:=by rw[rS,z3]
 have g5:(zA5 s.heap k1 k2 a1 a2).get? (zA4 s.heap k1 k2 a1 a2).objs.size=some _:=rK _ rfl;have g4:(zA5 s.heap k1 k2 a1 a2).get? (zA3 s.heap k1 k2 a1 a2).objs.size=some _:=rJ _ (rK _ rfl);have g3:(zA5 s.heap k1 k2 a1 a2).get? (zA2 s.heap k1 k2 a1 a2).objs.size=some _:=rJ _ (rJ _ (rK _ rfl));have g2:(zA5 s.heap k1 k2 a1 a2).get? (zA1 s.heap k1 a1).objs.size=some (eQ k2 a2):=rJ _ (rJ _ (rJ _ (rK _ rfl)));have g1:(zA5 s.heap k1 k2 a1 a2).get? s.heap.objs.size=some (eQ k1 a1):=rJ _ (rJ _ (rJ _ (rJ _ (rK _ rfl))));have kp:∀b o,s.heap.get? b=some o→(zA5 s.heap k1 k2 a1 a2).get? b=some o:=λb o e=>rJ _ (rJ _ (rJ _ (rJ _ (rJ _ e))));show _∧_;rw[z2,z3,z4]at g5;rw[z1,z2]at g3;rw[z3]at g4;rw[z1]at g2;rw[z4];exact⟨(tF _ g5 rfl),q _ g5 g3 g4 (lD p1 g1 kp) (lD p2 g2 kp) kp⟩
theorem zip3_made{k1 k2 k3:Kd}{a1 a2 a3:Addr}{xs ys ws:Array Value}{Q:Value→Shared→Prop}(p1:cU k1 s.heap a1 xs)(p2:cU k2 s.heap a2 ys)(p3:cU k3 s.heap a3 ws)(q:∀h',IsZip h' (s.heap.objs.size+5) (s.heap.objs.size+3) (s.heap.objs.size+4) .none→cV h' (s.heap.objs.size+3) #[.ref s.heap.objs.size,.ref (s.heap.objs.size+1),.ref (s.heap.objs.size+2)]→cV h' (s.heap.objs.size+4) #[.none,.none,.none] →
   (⟨k1,s.heap.objs.size,a1,xs⟩:Cp).at h' 0→(⟨k2,s.heap.objs.size+1,a2,ys⟩:Cp).at h' 0→(⟨k3,s.heap.objs.size+2,a3,ws⟩:Cp).at h' 0→(∀b o,s.heap.get? b=some o→h'.get? b=some o)→Q (.ref (s.heap.objs.size+5)) {s with heap:=h'}):wpAny (model prog w) A (call (.type "zip") [.ref a1,.ref a2,.ref a3]) Q E s:=by
 refine callType_new F.called_zip (by decide) (tc_zip3 _ _ _) (nc_zip3 _ _ _) (λobj=>oi_4 obj _ _ _) F.entry_zip_new (qQ k1 k2 k3 a1 a2 a3 xs ys ws) (ud p1 p2 p3 ?_);have z1:(zA1 s.heap k1 a1).objs.size=s.heap.objs.size+1:=rS ..;have z2:(zA2 s.heap k1 k2 a1 a2).objs.size=s.heap.objs.size+2:=by rw[rS,z1]
 have z3:(zB3 s.heap k1 k2 k3 a1 a2 a3).objs.size=s.heap.objs.size+3:=by rw[rS,z2]
 have z4:(zB4 s.heap k1 k2 k3 a1 a2 a3).objs.size=s.heap.objs.size+4:=by rw[rS,z3]
 have z5:(zB5 s.heap k1 k2 k3 a1 a2 a3).objs.size=s.heap.objs.size+5:=by rw[rS,z4]
 have g6:(zB6 s.heap k1 k2 k3 a1 a2 a3).get? (zB5 s.heap k1 k2 k3 a1 a2 a3).objs.size=some _:=rK _ rfl;have g5:(zB6 s.heap k1 k2 k3 a1 a2 a3).get? (zB4 s.heap k1 k2 k3 a1 a2 a3).objs.size=some _:=rJ _ (rK _ rfl);have g4:(zB6 s.heap k1 k2 k3 a1 a2 a3).get? (zB3 s.heap k1 k2 k3 a1 a2 a3).objs.size=some _:=rJ _ (rJ _ (rK _ rfl));have g3:(zB6 s.heap k1 k2 k3 a1 a2 a3).get? (zA2 s.heap k1 k2 a1 a2).objs.size=some (eQ k3 a3):=rJ _ (rJ _ (rJ _ (rK _ rfl)));have g2:(zB6 s.heap k1 k2 k3 a1 a2 a3).get? (zA1 s.heap k1 a1).objs.size=some (eQ k2 a2):=rJ _ (rJ _ (rJ _ (rJ _ (rK _ rfl))));have g1:(zB6 s.heap k1 k2 k3 a1 a2 a3).get? s.heap.objs.size=some (eQ k1 a1):=rJ _ (rJ _ (rJ _ (rJ _ (rJ _ (rK _ rfl)))));have kp:∀b o,s.heap.get? b=some o→(zB6 s.heap k1 k2 k3 a1 a2 a3).get? b=some o:=λb o e=>rJ _ (rJ _ (rJ _ (rJ _ (rJ _ (rJ _ e)))));show _∧_;rw[z3,z4,z5]at g6;rw[z1,z2,z3]at g4;rw[z4]at g5;rw[z2]at g3;rw[z1]at g2;rw[z5];exact⟨(tF _ g6 rfl),q _ g6 g4 g5 (lD p1 g1 kp) (lD p2 g2 kp) (lD p3 g3 kp) kp⟩
end
structure Pt where
 kd:Kd
 it:Addr
 src:Addr
def Cp.pt(c:Cp):Pt:=⟨c.kd,c.it,c.src⟩
def Pt.itAt(p:Pt)(h:Heap)(k:Nat):Prop:=match p.kd with
 |.lst=>h.IsListIter p.it p.src k
 |.tup=>IsTupIter h p.it p.src k
def SqK(kd:Kd)(K:fG)(H:Hp)(a:Addr)(xs:List V):Prop:=match kd with
 |.lst=>SqL K H a xs
 |.tup=>SqT K H a xs
structure lS(z TI TO:Addr)(ps:List Pt):Prop where
 TIz:TI≠z
 TOz:TO≠z
 TITO:TI≠TO
 itz:∀c∈ps,c.it≠z∧c.it≠TI∧c.it≠TO
 srcz:∀c∈ps,c.src≠z∧c.src≠TO
 src:∀c∈ps,∀d∈ps,c.src≠d.it
 nd:(ps.map (·.it)).Nodup
theorem lS.cp{z TI TO:Addr}{ps:List Pt}{cs:List Cp}(D:lS z TI TO ps)(e:cs.map Cp.pt=ps):Apart z TI TO cs:=by
 subst e;have m:∀c,c∈cs→c.pt∈cs.map Cp.pt:=λc hc=>sv.mpr (tF c hc rfl);refine⟨D.TIz,D.TOz,D.TITO,λc hc=>D.itz _ (m c hc),λc hc=>D.srcz _ (m c hc),λc hc d hd=>D.src _ (m c hc) _ (m d hd),?_⟩;have:=D.nd;rw[sN]at this;exact this
theorem SqK.inj{X:Cx}{pins:List (Addr×Obj)}{σ:L2.St}{H:Hp}{s:Shared}{kd:Kd}{a:Addr}{xs ys:List V}(I:Inv X pins σ H s)(h:SqK kd X.K H a xs)(h':SqK kd X.K H a ys):xs=ys:=by
 cases kd with
 |lst=>exact I.list_inj h h'
 |tup=>exact I.tuple_inj h h'
theorem mC{X:Cx}{pins:List (Addr×Obj)}{σ:L2.St}{H:Hp}{s:Shared}{p:Pt}{xs:List V}{k:Nat}(I:Inv X pins σ H s)(hi:p.itAt s.heap k)(hq:SqK p.kd X.K H p.src xs):∃its:List Value,aW xs its∧(⟨p.kd,p.it,p.src,its.toArray⟩:Cp).at s.heap k∧xs.length=its.length:=by
 obtain⟨kd,it,src⟩:=p;cases kd with
 |lst =>
  obtain⟨its,rv,q,_⟩:=I.list hq;exact tK its rv ⟨hi,q.isList⟩ rv.length
 |tup =>
  obtain⟨its,rv,q,_⟩:=I.tuple hq;exact tK its rv ⟨hi,q⟩ rv.length
theorem gather{X:Cx}{pins:List (Addr×Obj)}{σ:L2.St}{H:Hp}{s:Shared}{k:Nat}(I:Inv X pins σ H s):∀ps:List Pt,(∀p∈ps,p.itAt s.heap k)→(∀p∈ps,∃(xs:List V) (x:V),SqK p.kd X.K H p.src xs∧xs[k]?=some x) →
  ∃(cs:List Cp) (us:List Value) (vals:List V),cs.map Cp.pt=ps∧us.length=ps.length∧aW vals us∧(∀c∈cs,c.at s.heap k)∧(∀(j:Nat) (c:Cp) (u:Value),cs[j]?=some c→us[j]?=some u→c.vs[k]?=some u) ∧
   (∀(j:Nat) (p:Pt) (x:V),ps[j]?=some p→vals[j]?=some x→∀xs,SqK p.kd X.K H p.src xs→xs[k]?=some x)
 |[],_,_=>tU [] [] (tJ [] rfl rfl .nil (λc hc=>by simp at hc) (λj c u hc=>by simp at hc) (λj p x hp=>by simp at hp))
 |p::ps,h1,h2=>by
  obtain⟨cs,us,vals,e1,e2,rv,hat,hus,hvals⟩:=gather I ps (λq hq=>h1 q (by simp[hq])) (λq hq=>h2 q (by simp[hq]));obtain⟨xs,x,hq,hx⟩:=h2 p (by simp);obtain⟨its,rvp,hc,hl⟩:=mC I (h1 p (by simp)) hq;obtain⟨u,hu,ru⟩:=rvp.get hx;refine tU (⟨p.kd,p.it,p.src,its.toArray⟩::cs) (u::us) (tJ (x::vals) (by rw[rQ,e1];rfl) (by rw[rP,rP,e2]) (.cons ru rv) (λc hcm=>?_) (λj c u' hcj huj=>?_) (λj q y hqj hyj=>?_))
  ·rcases rC.1 hcm with z|z
   ·rw[z];exact hc
   ·exact hat c z
  ·cases j with
   |zero =>
    simp at hcj huj;subst hcj huj;simpa using hu
   |succ j=>exact hus j c u' (by simpa using hcj) (by simpa using huj)
  ·cases j with
   |zero =>
    simp at hqj hyj;subst hqj hyj;intro ys hys;rw[SqK.inj I hys hq];exact hx
   |succ j=>exact hvals j q y (by simpa using hqj) (by simpa using hyj)
def kf(K:fG)(ss:List (Kd×Addr)):It :=
 ⟨λi H=>∀p∈ss,∃(xs:List V) (x:V),SqK p.1 K H p.2 xs∧xs[i]?=some x,
  λi H v H'=>∃(T:Addr) (vals:List V),v=.ref T∧H T=none∧H'=upd H T (.tup vals)∧vals.length=ss.length∧∀(j:Nat) (p:Kd×Addr) (x:V),ss[j]?=some p→vals[j]?=some x→∀xs,SqK p.1 K H p.2 xs→xs[i]?=some x,
  λi H=>∃(p:Kd×Addr) (rest:List (Kd×Addr)) (xs:List V),ss=p::rest∧SqK p.1 K H p.2 xs∧xs.length≤i⟩
theorem Pt.obj{p:Pt}{h:Heap}{k:Nat}(q:p.itAt h k):∃o,h.get? p.it=some o∧∀v,o.data≠.cell v:=by
 obtain⟨kd,it,src⟩:=p;cases kd with
 |lst =>
  obtain⟨o,e,_,d⟩:=q;exact tF o e (λv z=>by rw[d]at z;cases z)
 |tup =>
  obtain⟨o,e,_,d⟩:=q;exact tF o e (λv z=>by rw[d]at z;cases z)
theorem Pt.keep{p:Pt}{h h':Heap}{k:Nat}(q:p.itAt h k)(e:∀o,h.get? p.it=some o→h'.get? p.it=some o):p.itAt h' k:=by
 obtain⟨kd,it,src⟩:=p;cases kd with
 |lst =>
  obtain⟨o,e1,r⟩:=q;exact tF o (e o e1) r
 |tup =>
  obtain⟨o,e1,r⟩:=q;exact tF o (e o e1) r
theorem g7{c:Cp}{h:Heap}{k:Nat}(q:c.at h k):c.pt.itAt h k:=by
 obtain⟨kd,it,src,vs⟩:=c;cases kd with
 |lst=>exact q.1
 |tup=>exact q.1
theorem l7{P:Program}{w:World}{K:fG}{elts:List Expr}{kk:Nat}{tpos:Pos}{z TI TO:Addr}{ps:List Pt}(D:lS z TI TO ps)(hne:ps≠[])(hcl:ps.length≤100):Turn P w K (.Tuple elts kk tpos) (kf K (ps.map λp=>(p.kd,p.src))) (z::TI::TO::ps.map (·.it)) z
   (λi h=>IsZip h z TI TO .none∧cV h TI (ps.map λp=>Value.ref p.it).toArray∧(∃old,cV h TO old∧old.size=ps.length)∧∀p∈ps,p.itAt h i) where
 mem:=by simp
 obj:=λi h st b hb=>by
  obtain⟨hz,hI,⟨old,hO,_⟩,hp⟩:=st;rcases rC.1 hb with e|hb
  ·rw[e];exact tF _ hz (λv q=>nomatch q)
  ·rcases rC.1 hb with e|hb
   ·rw[e];exact tF _ hI (λv q=>nomatch q)
   ·rcases rC.1 hb with e|hb
    ·rw[e];exact tF _ hO (λv q=>nomatch q)
    ·obtain⟨p,hpm,e⟩:=sv.1 hb;rw[←e];exact Pt.obj (hp p hpm)
 keep:=λi h h' st k=>by
  obtain⟨hz,hI,⟨old,hO,ho⟩,hp⟩:=st;exact ud (k z (by simp) _ hz) (k TI (by simp) _ hI) (tF old (k TO (by simp) _ hO) ho) (λp hpm=>Pt.keep (hp p hpm) λo e=>k _ (by simp;exact .inr (.inr (.inr (tF p hpm rfl)))) o e)
 item:=by
  intro X hP hw hK hc i pins s σ H E I hf st hg;subst hP hw hK;obtain⟨hz,hI,⟨old,hO,ho⟩,hp⟩:=st;obtain⟨cs,us,vals,e1,e2,rv,hat,hus,hvals⟩:=gather I ps hp (λp hpm=>hg (p.kd,p.src) (sv.mpr (tF p hpm rfl)));have hcs:cs.length=ps.length:=by rw[←e1,rR]
  have eI:(ps.map λp=>Value.ref p.it)=cs.map λc=>Value.ref c.it:=by
   rw[←e1,sN];rfl
  rw[eI]at hI;have itmem:∀c∈cs,c.it∈z::TI::TO::ps.map (·.it):=λc hcm=>by
   have:c.it∈ps.map (·.it):=sv.mpr (tF c.pt (by rw[←e1];exact sv.mpr (tF c hcm rfl)) rfl);simp[this]
  have hzl:z<s.heap.objs.size:=rg hz;refine pk (D.cp e1) (by intro y;rw[y]at hcs;cases ps with|nil=>exact hne rfl|cons _ _=>simp at hcs) hz hI hO (by rw[ho,hcs]) (by omega) hat (by rw[e2,hcs]) hus λh' z1 O1 c1 T1 sz1 k1=>?_;refine tF _ rfl (wpAny_letOwnedTupleGo_zip (s:={s with heap:=h'}) z1 λh2 z2 s2=>?_);have hT2:h2.get? s.heap.objs.size=some {cls:=.type "tuple",data:=.seq us.toArray}:=(s2.2 _ (rH hzl)).trans T1;have hvl:vals.length=us.length:=rv.length;have new:bI X.prog X.w (upd H s.heap.objs.size (.tup vals)) h2 s.heap.objs.size (.tup vals) :=
   (tX (rq (show vals.length≤100 by omega) (by decide)) us rv (ux _ hT2 rfl _ rfl))
  have I1:Inv X pins σ (upd H s.heap.objs.size (.tup vals)) {s with heap:=h2} :=
   I.turnedNew (t':=s.toks) (ch:=z::TI::TO::ps.map (·.it)) (λb o hb q=>(s2.2 b (λy=>hb (by simp[y]))).trans (k1 b o (λy=>hb (by simp[y])) (λy=>hb (by simp[y])) (λc hcm y=>hb (by rw[y];exact itmem c hcm)) q)) hf (rL _) new
  refine tG (.ref s.heap.objs.size) _ I1 rfl (tG _ vals rfl (I.hok.fresh (rL _)) rfl (by rw[rR];omega) (λj p x hpj hxj xs hxs=>?_)) (ud z2 ?_ (tF us.toArray ?_ (by simp[e2])) (λp hpm=>?_)) (λb hb=>?_)
  ·rw[r6]at hpj;cases hq:ps[j]? with
   |none=>rw[hq]at hpj;cases hpj
   |some q =>
    rw[hq]at hpj;injection hpj with hpj;subst hpj;exact hvals j q x hq hxj xs hxs
  ·rw[eI];exact(s2.2 _ D.TIz).trans (k1 _ _ D.TIz D.TITO (λc hcm y=>(D.itz c.pt (by rw[←e1];exact sv.mpr (tF c hcm rfl))).2.1 y.symm) hI)
  ·exact(s2.2 _ D.TOz).trans O1
  ·rw[←e1]at hpm;obtain⟨c,hcm,rfl⟩:=sv.1 hpm;have hz':=(D.itz c.pt (by rw[←e1];exact sv.mpr (tF c hcm rfl))).1;exact Pt.keep (g7 (c1 c hcm)) λo e=>(s2.2 _ hz').trans e
  ·have hlt:b<s.heap.objs.size:=by
    obtain⟨o,e,_⟩:∃o,s.heap.get? b=some o∧True:=by
     rcases rC.1 hb with e|hb
     ·rw[e];exact tF _ hz trivial
     ·rcases rC.1 hb with e|hb
      ·rw[e];exact tF _ hI trivial
      ·rcases rC.1 hb with e|hb
       ·rw[e];exact tF _ hO trivial
       ·obtain⟨p,hpm,e⟩:=sv.1 hb;obtain⟨o,eo,_⟩:=Pt.obj (hp p hpm);rw[←e];exact tF o eo trivial
    exact rg e
   rw[af (rm hlt)];exact(hf b hb).1
 done:=by
  intro X hP hw hK hc i pins s σ H E I hf st hg;subst hP hw hK;obtain⟨hz,hI,⟨old,hO,ho⟩,hp⟩:=st;obtain⟨p,rest,xs,e0,hq,hx⟩:=hg;cases ps with
  |nil=>exact absurd rfl hne
  |cons p0 ps =>
   rw[rQ]at e0;injection e0 with e0 e0';subst e0;obtain⟨its,rvp,hcp,hl⟩:=mC I (hp p0 (by simp)) hq;have hend:its.toArray[i]?=none:=by simp;omega
   let cs:List Cp:=ps.map λp=>⟨p.kd,p.it,p.src,#[]⟩
   have e1:((⟨p0.kd,p0.it,p0.src,its.toArray⟩:Cp)::cs).map Cp.pt=p0::ps:=by
    rw[rQ,sN];congr 1;have:(Cp.pt ∘ λp:Pt=>(⟨p.kd,p.it,p.src,#[]⟩:Cp))=id:=rfl;rw[this,List.map_id]
   have eI:((p0::ps).map λp=>Value.ref p.it)=((⟨p0.kd,p0.it,p0.src,its.toArray⟩:Cp)::cs).map λc=>Value.ref c.it:=by
    rw[←e1,sN];rfl
   rw[eI]at hI;refine kb (I.ok.hd hc) (D.cp e1) hz hI hcp hend λh' k1=>⟨rfl,I.turnedL (t':=s.toks) (ch:=z::TI::TO::(p0::ps).map (·.it)) (λb o hb q=>k1 b o (λy=>hb (by simp[y])) (λy=>hb (by simp[y])) q) hf⟩
 self:=λA i s Q E st h=>wpAny_pyIter_zip st.1 h
theorem SqK.src{X:Cx}{pins:List (Addr×Obj)}{σ:L2.St}{H:Hp}{s:Shared}{kd:Kd}{a:Addr}{xs:List V}(I:Inv X pins σ H s)(h:SqK kd X.K H a xs):∃its:List Value,cU kd s.heap a its.toArray∧a<s.heap.objs.size:=by
 cases kd with
 |lst =>
  obtain⟨its,_,q,_⟩:=I.list h;exact tF its q.isList q.lt
 |tup =>
  obtain⟨its,_,q,_⟩:=I.tuple h;exact tF its q q.lt
def iZip2(K:fG)(k1 k2:Kd)(ta:TA):TI:=λσ H R=>ta σ H λvs H1=>∃a b xs ys,vs=[.ref a,.ref b]∧SqK k1 K H1 a xs∧SqK k2 K H1 b ys∧R (kf K [(k1,a),(k2,b)]) H1
def iZip3(K:fG)(k1 k2 k3:Kd)(ta:TA):TI:=λσ H R=>ta σ H λvs H1=>∃a b c xs ys ws,vs=[.ref a,.ref b,.ref c]∧SqK k1 K H1 a xs∧SqK k2 K H1 b ys∧SqK k3 K H1 c ws∧R (kf K [(k1,a),(k2,b),(k3,c)]) H1
theorem ltne{a n:Addr}(h:a<n)(k:Nat):a≠n+k:=rm (Nat.lt_add_right k h)
theorem nM{X:Cx}(k1 k2:Kd){e e2:Expr}{ta:TA}{p pos tpos:Pos}{elts:List Expr}{kk:Nat}(hg:Gl X "zip")(hm:X.mg "zip" = none)(ha:PA X [e,e2] ta)(hs:starEach [e,e2] X.env=(false,eval e X.env)::starEach [e2] X.env:=by rfl)(hpl:(backTo pos (starEach [e2] X.env)).any (·.1)=false:=by rfl):PI X (.Tuple elts kk tpos) (.Call (.Name "zip" p) [e,e2] [] pos) (iZip2 X.K k1 k2 ta):=by
 intro pins s σ H R I h;refine Call_ (eD I hg hm jK (PyProof.Rows.callWith_type1 (thn (ha pos pins s σ H _ I h) λus s1 ⟨vs,H1,I1,r1,q1⟩=>?_) hs hpl));obtain⟨a,b,xs,ys,ex,hqx,hqy,q⟩:=q1;subst ex;cases r1 with
 |cons r rr =>
  cases rr with
  |cons r' rr =>
   cases rr;cases r;cases r';obtain⟨i1,p1,l1⟩:=hqx.src I1;obtain⟨i2,p2,l2⟩:=hqy.src I1;refine zip2_made p1 p2 λh' hz hI hO c1 c2 hk=>wpAny_pyIter_zip hz ?_;have I2:Inv X pins σ H1 {s1 with heap:=h'}:=I1.kept (t':=s1.toks) hk;have D:lS (s1.heap.objs.size+4) (s1.heap.objs.size+2) (s1.heap.objs.size+3) [⟨k1,s1.heap.objs.size,a⟩,⟨k2,s1.heap.objs.size+1,b⟩]:=by
    have la:a<s1.heap.objs.size:=l1;have lb:b<s1.heap.objs.size:=l2;generalize s1.heap.objs.size=n at la lb;constructor
    ·show ¬(n+2=n+4);omega
    ·show ¬(n+3=n+4);omega
    ·show ¬(n+2=n+3);omega
    ·intro c hc;simp at hc;rcases hc with rfl|rfl<;>(refine(tS ?_ ?_ ?_)<;>(intro y;simp at y;try omega))
    ·intro c hc;simp at hc;rcases hc with rfl|rfl<;>(refine⟨?_,?_⟩<;>first|exact ltne la _|exact ltne lb _)
    ·intro c hc d hd;simp at hc hd;rcases hc with rfl|rfl<;>rcases hd with rfl|rfl<;>first|exact rm la|exact rm lb|exact ltne la _|exact ltne lb _
    ·simp
   refine tY (s1.heap.objs.size+4) _ _ _ (tJ H1 rfl I2 (l7 D (by simp) (by simp)) (ud hz hI (tF _ hO rfl) ?_) ?_ q)
   ·intro p hp;simp at hp;rcases hp with rfl|rfl
    ·exact g7 c1
    ·exact g7 c2
   ·intro c hc;have hle:s1.heap.objs.size≤c:=by
     simp at hc;rcases hc with y|y|y|y|y<;>rw[y]<;>first|exact rL _|exact sy _ _
    exact I1.fpOk hle (I1.hok.fresh hle)
theorem pi_zip3{X:Cx}(k1 k2 k3:Kd){e e2 e3:Expr}{ta:TA}{p pos tpos:Pos}{elts:List Expr}{kk:Nat}(hg:Gl X "zip")(hm:X.mg "zip" = none)(ha:PA X [e,e2,e3] ta)(hs:starEach [e,e2,e3] X.env=(false,eval e X.env)::starEach [e2,e3] X.env:=by rfl)(hpl:(backTo pos (starEach [e2,e3] X.env)).any (·.1)=false:=by rfl):PI X (.Tuple elts kk tpos) (.Call (.Name "zip" p) [e,e2,e3] [] pos) (iZip3 X.K k1 k2 k3 ta):=by
 intro pins s σ H R I h;refine Call_ (eD I hg hm jK (PyProof.Rows.callWith_type1 (thn (ha pos pins s σ H _ I h) λus s1 ⟨vs,H1,I1,r1,q1⟩=>?_) hs hpl));obtain⟨a,b,c,xs,ys,ws,ex,hqx,hqy,hqw,q⟩:=q1;subst ex;cases r1 with
 |cons r rr =>
  cases rr with
  |cons r' rr =>
   cases rr with
   |cons r'' rr =>
    cases rr;cases r;cases r';cases r'';obtain⟨i1,p1,l1⟩:=hqx.src I1;obtain⟨i2,p2,l2⟩:=hqy.src I1;obtain⟨i3,p3,l3⟩:=hqw.src I1;refine zip3_made p1 p2 p3 λh' hz hI hO c1 c2 c3 hk=>wpAny_pyIter_zip hz ?_;have I2:Inv X pins σ H1 {s1 with heap:=h'}:=I1.kept (t':=s1.toks) hk;have D:lS (s1.heap.objs.size+5) (s1.heap.objs.size+3) (s1.heap.objs.size+4) [⟨k1,s1.heap.objs.size,a⟩,⟨k2,s1.heap.objs.size+1,b⟩,⟨k3,s1.heap.objs.size+2,c⟩]:=by
     have la:a<s1.heap.objs.size:=l1;have lb:b<s1.heap.objs.size:=l2;have lc:c<s1.heap.objs.size:=l3;generalize s1.heap.objs.size=n at la lb lc;constructor
     ·show ¬(n+3=n+5);omega
     ·show ¬(n+4=n+5);omega
     ·show ¬(n+3=n+4);omega
     ·intro c hc;simp at hc;rcases hc with rfl|rfl|rfl<;>(refine(tS ?_ ?_ ?_)<;>(intro y;simp at y;try omega))
     ·intro c hc;simp at hc;rcases hc with rfl|rfl|rfl<;>(refine⟨?_,?_⟩<;>first|exact ltne la _|exact ltne lb _|exact ltne lc _)
     ·intro c hc d hd;simp at hc hd;rcases hc with rfl|rfl|rfl<;>rcases hd with rfl|rfl|rfl<;>first|exact rm la|exact rm lb|exact rm lc|exact ltne la _|exact ltne lb _|exact ltne lc _
     ·simp
    refine tY (s1.heap.objs.size+5) _ _ _ (tJ H1 rfl I2 (l7 D (by simp) (by simp)) (ud hz hI (tF _ hO rfl) ?_) ?_ q)
    ·intro p hp;simp at hp;rcases hp with rfl|rfl|rfl
     ·exact g7 c1
     ·exact g7 c2
     ·exact g7 c3
    ·intro c hc;have hle:s1.heap.objs.size≤c:=by
      simp at hc;rcases hc with y|y|y|y|y|y<;>rw[y]<;>first|exact rL _|exact sy _ _
     exact I1.fpOk hle (I1.hok.fresh hle)
theorem lc_z2{K:fG}{k1 k2:Kd}{a1 a2:Addr}{x1s x2s:List V}{g:TG}{tt:TT}{te:TE}{vs:List Nat}{σ:L2.St}{H1:Hp}{D:Addr}{Qd:Hp→Prop}(e2:x1s.length=x2s.length)(Pv:Nat→Hp→Prop)(h0:Pv 0 (upd H1 D (.lst [])))(hl:∀i H,i≤x1s.length→Pv i H→SqK k1 K H a1 x1s∧SqK k2 K H a2 x2s)(hs:∀i y1 y2 T H,x1s[i]?=some y1→x2s[i]?=some y2→H T=none→Pv i H→g (.ref T) (bJ σ vs) (upd H T (.tup [y1,y2])) λσ2 H2=>bJ σ2 vs=bJ σ vs∧tt σ2 H2 λb H3 =>
   if b=true then te σ2 H3 λy H4=>∃acc,H4 D=some (.lst acc)∧acc.length<sizeLine∧Pv (i+1) (upd H4 D (.lst (acc++[y]))) else Pv (i+1) H3)(hd:∀H,Pv x1s.length H→Qd H):∃W:Nat→Nat→Hp→Prop,(∃m,W 0 m (upd H1 D (.lst [])))∧∀i m H,W i m H →
   ((kf K [(k1,a1),(k2,a2)]).stop i H∧Qd H)∨((kf K [(k1,a1),(k2,a2)]).go i H∧∃Nx:Hp→Prop,(∀H',Nx H'→∃m',m'<m∧W (i+1) m' H')∧∀x H',(kf K [(k1,a1),(k2,a2)]).yld i H x H'→g x (bJ σ vs) H' λσ2 H2=>bJ σ2 vs=bJ σ vs∧tt σ2 H2 λb H3 =>
    if b=true then te σ2 H3 λy H4=>∃acc,H4 D=some (.lst acc)∧acc.length<sizeLine∧Nx (upd H4 D (.lst (acc++[y]))) else Nx H3):=by
 refine tF (λi m H=>m=x1s.length-i∧i≤x1s.length∧Pv i H) (tK x1s.length (by simp) (rO _) h0) ?_;rintro i m H ⟨rfl,hi,p⟩;obtain⟨q1,q2⟩:=hl i H hi p;by_cases hlt:i<x1s.length
 ·refine .inr (tX (λpr hp=>?_) (Pv (i+1)) (λH' p'=>ua (x1s.length-(i+1)) (by omega) rfl hlt p') (λx H' y=>?_))
  ·simp at hp;rcases hp with rfl|rfl
   ·exact tO x1s (x1s[i]) q1 (by simp[hlt])
   ·exact tO x2s (x2s[i]) q2 (by simp[←e2,hlt])
  ·obtain⟨T,vals,rfl,hT,rfl,hlen,hv⟩:=y
   match vals,hlen with
   |[y1,y2],_ =>
    exact hs i y1 y2 T H (hv 0 (k1,a1) y1 rfl rfl x1s q1) (hv 1 (k2,a2) y2 rfl rfl x2s q2) hT p
 ·have e:i=x1s.length:=by omega
  subst e;exact .inl ⟨(tM (k1,a1) _ x1s rfl q1 (rL _)),hd H p⟩
theorem for_z2{K:fG}{k1 k2:Kd}{a1 a2:Addr}{x1s x2s:List V}{g:TG}{tb:TS}{D:hG}{σ:L2.St}{H:Hp}(e2:x1s.length=x2s.length)(Pv:Nat→L2.St→Hp→Prop)(h0:Pv 0 σ H)(hl:∀i σ H,i≤x1s.length→Pv i σ H→SqK k1 K H a1 x1s∧SqK k2 K H a2 x2s)(hs:∀i y1 y2 T σ H,x1s[i]?=some y1→x2s[i]?=some y2→H T=none→Pv i σ H→g (.ref T) σ (upd H T (.tup [y1,y2])) λσ2 H2=>tb {D with nx:=Pv (i+1),ct:=Pv (i+1),bk:=D.nx} σ2 H2)(hd:∀σ H,Pv x1s.length σ H→D.nx σ H):∃W:Nat→Nat→L2.St→Hp→Prop,(∃m,W 0 m σ H)∧∀i m σ H,W i m σ H →
   ((kf K [(k1,a1),(k2,a2)]).stop i H∧D.nx σ H)∨((kf K [(k1,a1),(k2,a2)]).go i H∧∃N:L2.St→Hp→Prop,(∀σ' H',N σ' H'→∃m',m'<m∧W (i+1) m' σ' H')∧∀x H',(kf K [(k1,a1),(k2,a2)]).yld i H x H'→g x σ H' λσ2 H2=>tb {D with nx:=N,ct:=N,bk:=D.nx} σ2 H2):=by
 refine tF (λi m σ H=>m=x1s.length-i∧i≤x1s.length∧Pv i σ H) (tK x1s.length (by simp) (rO _) h0) ?_;rintro i m σ H ⟨rfl,hi,p⟩;obtain⟨q1,q2⟩:=hl i σ H hi p;by_cases hlt:i<x1s.length
 ·refine .inr (tX (λpr hp=>?_) (Pv (i+1)) (λσ' H' p'=>ua (x1s.length-(i+1)) (by omega) rfl hlt p') (λx H' y=>?_))
  ·simp at hp;rcases hp with rfl|rfl
   ·exact tO x1s (x1s[i]) q1 (by simp[hlt])
   ·exact tO x2s (x2s[i]) q2 (by simp[←e2,hlt])
  ·obtain⟨T,vals,rfl,hT,rfl,hlen,hv⟩:=y
   match vals,hlen with
   |[y1,y2],_ =>
    exact hs i y1 y2 T σ H (hv 0 (k1,a1) y1 rfl rfl x1s q1) (hv 1 (k2,a2) y2 rfl rfl x2s q2) hT p
 ·have e:i=x1s.length:=by omega
  subst e;exact .inl ⟨(tM (k1,a1) _ x1s rfl q1 (rL _)),hd σ H p⟩
theorem for_z3{K:fG}{k1 k2 k3:Kd}{a1 a2 a3:Addr}{x1s x2s x3s:List V}{g:TG}{tb:TS}{D:hG}{σ:L2.St}{H:Hp}(e2:x1s.length=x2s.length)(e3:x1s.length=x3s.length)(Pv:Nat→L2.St→Hp→Prop)(h0:Pv 0 σ H)(hl:∀i σ H,i≤x1s.length→Pv i σ H→SqK k1 K H a1 x1s∧SqK k2 K H a2 x2s∧SqK k3 K H a3 x3s)(hs:∀i y1 y2 y3 T σ H,x1s[i]?=some y1→x2s[i]?=some y2→x3s[i]?=some y3→H T=none→Pv i σ H→g (.ref T) σ (upd H T (.tup [y1,y2,y3])) λσ2 H2=>tb {D with nx:=Pv (i+1),ct:=Pv (i+1),bk:=D.nx} σ2 H2)(hd:∀σ H,Pv x1s.length σ H→D.nx σ H):∃W:Nat→Nat→L2.St→Hp→Prop,(∃m,W 0 m σ H)∧∀i m σ H,W i m σ H →
   ((kf K [(k1,a1),(k2,a2),(k3,a3)]).stop i H∧D.nx σ H)∨((kf K [(k1,a1),(k2,a2),(k3,a3)]).go i H∧∃N:L2.St→Hp→Prop,(∀σ' H',N σ' H'→∃m',m'<m∧W (i+1) m' σ' H')∧∀x H',(kf K [(k1,a1),(k2,a2),(k3,a3)]).yld i H x H'→g x σ H' λσ2 H2=>tb {D with nx:=N,ct:=N,bk:=D.nx} σ2 H2):=by
 refine tF (λi m σ H=>m=x1s.length-i∧i≤x1s.length∧Pv i σ H) (tK x1s.length (by simp) (rO _) h0) ?_;rintro i m σ H ⟨rfl,hi,p⟩;obtain⟨q1,q2,q3⟩:=hl i σ H hi p;by_cases hlt:i<x1s.length
 ·refine .inr (tX (λpr hp=>?_) (Pv (i+1)) (λσ' H' p'=>ua (x1s.length-(i+1)) (by omega) rfl hlt p') (λx H' y=>?_))
  ·simp at hp;rcases hp with rfl|rfl|rfl
   ·exact tO x1s (x1s[i]) q1 (by simp[hlt])
   ·exact tO x2s (x2s[i]) q2 (by simp[←e2,hlt])
   ·exact tO x3s (x3s[i]) q3 (by simp[←e3,hlt])
  ·obtain⟨T,vals,rfl,hT,rfl,hlen,hv⟩:=y
   match vals,hlen with
   |[y1,y2,y3],_ =>
    exact hs i y1 y2 y3 T σ H (hv 0 (k1,a1) y1 rfl rfl x1s q1) (hv 1 (k2,a2) y2 rfl rfl x2s q2) (hv 2 (k3,a3) y3 rfl rfl x3s q3) hT p
 ·have e:i=x1s.length:=by omega
  subst e;exact .inl ⟨(tM (k1,a1) _ x1s rfl q1 (rL _)),hd σ H p⟩
end My
end
section
namespace Lr
def am:Nat→(Nat→Rat)→Rat
 |0,_=>0
 |n+1,f=>am n f+f n
theorem aK{f g:Nat→Rat}:∀{n:Nat},(∀i,i<n→f i=g i)→am n f=am n g
 |0,_=>rfl
 |n+1,h=>by
  unfold am;rw[aK (n:=n) (λi hi=>h i (by omega)),h n (by omega)]
theorem gL(f g:Nat→Rat):∀n,am n (λi=>f i+g i)=am n f+am n g
 |0=>by unfold am;grind
 |n+1=>by unfold am;rw[gL f g n];grind
theorem cw(f g:Nat→Rat):∀n,am n (λi=>f i-g i)=am n f-am n g
 |0=>by unfold am;grind
 |n+1=>by unfold am;rw[cw f g n];grind
theorem bN(c:Rat)(f:Nat→Rat):∀n,am n (λi=>c*f i)=c*am n f
 |0=>by unfold am;grind
 |n+1=>by unfold am;rw[bN c f n];grind
theorem cY:∀n,am n (λ_=>0)=0
 |0=>rfl
 |n+1=>by unfold am;rw[cY n];grind
theorem iW{f g:Nat→Rat}:∀{n:Nat},(∀i,i<n→f i≤g i)→am n f≤am n g
 |0,_=>by unfold am;grind
 |n+1,h=>by
  unfold am;have:=iW (n:=n) (λi hi=>h i (by omega));have:=h n (by omega);grind
theorem kI(f:Nat→Nat→Rat)(m:Nat):∀n,am n (λi=>am m (f i))=am m (λj=>am n (λi=>f i j))
 |0=>(cY m).symm
 |n+1=>by
  have e:=gL (λj=>am n (λi=>f i j)) (f n) m;rw[←kI f m n]at e;exact e.symm
theorem dP(f:Nat→Rat):∀n,am (n+1) f=f 0+am n (λi=>f (i+1))
 |0=>by unfold am am;grind
 |n+1=>by
  rw[am,dP f n,am];grind
theorem bA{f:Nat→Rat}{k:Nat}:∀{n:Nat},k<n→(∀i,i<n→i≠k→f i=0)→am n f=f k
 |0,h,_=>by omega
 |n+1,h,hz=>by
  unfold am;by_cases e:k=n
  ·subst e;rw[aK (g:=λ_=>0) (λi hi=>hz i (by omega) (by omega)),cY];grind
  ·rw[bA (n:=n) (by omega) (λi hi hk=>hz i (by omega) hk),hz n (by omega) (by omega)];grind
def lap(v:Nat→Rat):(List Nat→Rat)→List Nat→Rat
 |_,[]=>0
 |f,c::cs=>v c*f cs-lap v (λt=>f (c::t)) cs
theorem gY{v w:Nat→Rat}:∀(cs:List Nat) (f:List Nat→Rat),(∀c,c∈cs→v c=w c)→lap v f cs=lap w f cs
 |[],_,_=>rfl
 |c::cs,f,h=>by
  rw[lap,lap,h c (by simp),gY cs _ (λc' hc=>h c' (by simp[hc]))]
theorem ot(u v:Nat→Rat)(t:Rat):∀(cs:List Nat) (f:List Nat→Rat),
  lap (λc=>u c-t*v c) f cs=lap u f cs-t*lap v f cs
 |[],_=>by unfold lap;grind
 |c::cs,f=>by
  rw[lap,lap,lap,ot u v t cs];grind
theorem gX(v:Nat→Rat)(t:Rat):∀(cs:List Nat) (f g:List Nat→Rat),
  lap v (λs=>t*f s-g s) cs=t*lap v f cs-lap v g cs
 |[],_,_=>by unfold lap;grind
 |c::cs,f,g=>by
  rw[lap,lap,lap,gX v t cs];grind
theorem gv(u v:Nat→Rat):∀(cs:List Nat) (f:List Nat→Rat),
  lap u (lap v f) cs+lap v (lap u f) cs=0
 |[],_=>by unfold lap;grind
 |c::cs,f=>by
  have e1:(λt=>lap v f (c::t))=λt=>v c*f t-lap v (λs=>f (c::s)) t:=by
   funext t;rw[lap]
  have e2:(λt=>lap u f (c::t))=λt=>u c*f t-lap u (λs=>f (c::s)) t:=by
   funext t;rw[lap]
  rw[lap,lap,e1,e2,gX,gX];have:=gv u v cs (λs=>f (c::s));grind
theorem lap_self(u:Nat→Rat)(cs:List Nat)(f:List Nat→Rat):lap u (lap u f) cs=0:=by
 have:=gv u u cs f;grind
def minor:List (Nat→Rat)→List Nat→Rat
 |[]=>λ_=>1
 |r::rows=>lap r (minor rows)
theorem jD(v:Nat→Rat):∀(cs:List Nat),lap v (λ_=>0) cs=0
 |[]=>rfl
 |c::cs=>by
  rw[lap,jD v cs];grind
theorem gW{r:Nat→Rat}:∀(rows:List (Nat→Rat)),r∈rows→∀cs,lap r (minor rows) cs=0
 |[],h,_=>by simp at h
 |q::rows,h,cs=>by
  rw[minor];by_cases e:r=q
  ·subst e;exact lap_self r cs _
  ·have hm:r∈rows:=by
    rcases rC.1 h with h|h
    ·exact absurd h e
    ·exact h
   have z:lap r (minor rows)=λ_=>0:=by
    funext s;exact gW rows hm s
   have:=gv r q cs (minor rows);rw[z,jD]at this;grind
theorem p8{v:Nat→Rat}{j:Nat}:∀(cs:List Nat) (f:List Nat→Rat),(∀c,c∈cs→v c=0) →
  lap v f (cs++[j])=(-1)^cs.length*(v j*f cs)
 |[],f,_=>by
  rw[List.nil_append,lap,lap];simp;grind
 |c::cs,f,h=>by
  rw[List.cons_append,lap,h c (by simp),p8 cs _ (λc' hc=>h c' (by simp[hc]))];rw[rP,Rat.pow_succ];grind
def bq(x:Rat):Prop:=∃z:Int,x=(z:Rat)
theorem bq.sub{x y:Rat}(hx:bq x)(hy:bq y):bq (x-y):=by
 obtain⟨a,rfl⟩:=hx;obtain⟨b,rfl⟩:=hy;exact⟨a-b,by rw[Rat.intCast_sub]⟩
theorem bq.mul{x y:Rat}(hx:bq x)(hy:bq y):bq (x*y):=by
 obtain⟨a,rfl⟩:=hx;obtain⟨b,rfl⟩:=hy;exact⟨a*b,by rw[Rat.intCast_mul]⟩
theorem bq.zero:bq 0:=⟨0,rfl⟩
theorem bq.one:bq 1:=⟨1,rfl⟩
theorem bq.neg{x:Rat}(hx:bq x):bq (-x):=by
 have:=bq.sub bq.zero hx;have e:(0:Rat)-x = -x:=by grind
 rwa [e]at this
theorem bq.lap{v:Nat→Rat}(hv:∀c,bq (v c)):∀(cs:List Nat) (f:List Nat→Rat),(∀s,bq (f s))→bq (lap v f cs)
 |[],_,_=>bq.zero
 |c::cs,f,h=>by
  rw[Lr.lap];exact((hv c).mul (h cs)).sub (bq.lap hv cs _ (λs=>h (c::s)))
theorem bq.minor:∀(rows:List (Nat→Rat)),(∀r,r∈rows→∀c,bq (r c))→∀cs,bq (minor rows cs)
 |[],_,_=>bq.one
 |r::rows,h,cs=>by
  rw[Lr.minor];exact bq.lap (h r (by simp)) cs _ (λs=>bq.minor rows (λq hq=>h q (by simp[hq])) s)
def G(A:Nat→Nat→Rat):Nat→Nat→Nat→Rat
 |0=>A
 |k+1=>λi j=>G A k i j-G A k i k/G A k k k*G A k k j
def pr(A:Nat→Nat→Rat):Nat→Rat
 |0=>1
 |k+1=>pr A k*G A k k k
def eM(A:Nat→Nat→Rat):Nat→List (Nat→Rat)
 |0=>[]
 |k+1=>A k::eM A k
theorem lm(A:Nat→Nat→Rat):∀{k l:Nat},l<k→A l∈eM A k
 |0,_,h=>by omega
 |k+1,l,h=>by
  rw[eM];by_cases e:l=k
  ·subst e;simp
  ·exact rB _ (lm A (by omega))
theorem ji(A:Nat→Nat→Rat):∀{k:Nat} {r:Nat→Rat},r∈eM A k→∃l,l<k∧r=A l
 |0,_,h=>by simp[eM]at h
 |k+1,r,h=>by
  rw[eM]at h;rcases rC.1 h with h|h
  ·exact tF k (by omega) h
  ·obtain⟨l,hl,e⟩:=ji A h;exact tF l (by omega) e
theorem lap_G(A:Nat→Nat→Rat)(k:Nat)(cs:List Nat):∀l,l≤k→∀i,
  lap (G A l i) (minor (eM A k)) cs=lap (A i) (minor (eM A k)) cs
 |0,_,_=>rfl
 |l+1,h,i=>by
  have e:G A (l+1) i=λj=>G A l i j-(G A l i l/G A l l l)*G A l l j:=rfl;rw[e,ot,lap_G A k cs l (by omega) i,lap_G A k cs l (by omega) l,gW _ (lm A (show l<k by omega))];grind
def Piv(A:Nat→Nat→Rat)(k:Nat):Prop:=∀l,l<k→G A l l l≠0
theorem G_low{A:Nat→Nat→Rat}:∀{k:Nat},Piv A k→∀i j,k≤i→j<k→G A k i j=0
 |0,_,_,_,_,h=>by omega
 |k+1,hp,i,j,hi,hj=>by
  have hk:=hp k (by omega);show G A k i j-G A k i k/G A k k k*G A k k j=0;by_cases e:j=k
  ·subst e;grind
  ·have hp':Piv A k:=λl hl=>hp l (by omega);rw[G_low hp' i j (by omega) (by omega),G_low hp' k j (by omega) (by omega)];grind
theorem oi{A:Nat→Nat→Rat}{k:Nat}(hp:Piv A k){i:Nat}(j:Nat)(hi:k≤i):minor (A i::eM A k) (rn k++[j])=(-1)^k*(G A k i j*minor (eM A k) (rn k)):=by
 rw[minor,←lap_G A k _ k (rL k) i,p8 _ _ (λc hc=>G_low hp i c hi (rp.1 hc)),sO]
theorem gj(k:Nat):((-1:Rat)^k=1)∨((-1:Rat)^k = -1):=by
 induction k with
 |zero=>left;rfl
 |succ k ih =>
  rw[Rat.pow_succ];grind
theorem gp{A:Nat→Nat→Rat}:∀{k:Nat},Piv A k →
  minor (eM A k) (rn k)=pr A k∨minor (eM A k) (rn k) = -pr A k
 |0,_=>by left;rfl
 |k+1,hp=>by
  have hp':Piv A k:=λl hl=>hp l (by omega);rw[eM,sP,oi hp' k (rL k),pr];have:=gp hp';have:=gj k;grind
theorem kY{A:Nat→Nat→Rat}(hA:∀i j,bq (A i j)){k:Nat}(hp:Piv A k){i:Nat}(j:Nat)(hi:k≤i):bq (pr A k*G A k i j):=by
 have h:bq (minor (A i::eM A k) (rn k++[j])):=by
  refine bq.minor _ (λr hr c=>?_) _;rcases rC.1 hr with hr|hr
  ·rw[hr];exact hA i c
  ·obtain⟨l,_,e⟩:=ji A hr;rw[e];exact hA l c
 rw[oi hp j hi]at h;have h1:=gj k;have h2:=gp hp;have e:pr A k*G A k i j=(-1)^k*(G A k i j*minor (eM A k) (rn k))∨pr A k*G A k i j = -((-1)^k*(G A k i j*minor (eM A k) (rn k))):=by
  grind
 rcases e with e|e
 ·rw[e];exact h
 ·rw[e];exact h.neg
theorem pr_ne{A:Nat→Nat→Rat}:∀{k:Nat},Piv A k→pr A k≠0
 |0,_=>by unfold pr;grind
 |k+1,hp=>by
  have h1:=pr_ne (k:=k) (λl hl=>hp l (by omega));have h2:=hp k (by omega);unfold pr;grind
theorem pr_int{A:Nat→Nat→Rat}(hA:∀i j,bq (A i j)):∀{k:Nat},Piv A k→bq (pr A k)
 |0,_=>bq.one
 |k+1,hp=>by
  rw[pr];exact kY hA (λl hl=>hp l (by omega)) k (rL k)
theorem iM(A:Nat→Nat→Rat):∀k i j,G (λa b=>A b a) k i j=G A k j i
 |0,_,_=>rfl
 |k+1,i,j=>by
  show G (λa b=>A b a) k i j-G (λa b=>A b a) k i k/G (λa b=>A b a) k k k*G (λa b=>A b a) k k j=G A k j i-G A k j k/G A k k k*G A k k i;rw[iM A k i j,iM A k i k,iM A k k k,iM A k k j];grind
def Bp(A:Nat→Nat→Int):Nat→(Nat→Nat→Int)×Int
 |0=>(A,1)
 |k+1=>(λi j=>if i≤k then (Bp A k).1 i j else ((Bp A k).1 k k*(Bp A k).1 i j-(Bp A k).1 i k*(Bp A k).1 k j)/(Bp A k).2,(Bp A k).1 k k)
def up(A:Nat→Nat→Int):Nat→Nat→Rat:=λi j=>(A i j:Rat)
theorem ng(A:Nat→Nat→Int)(i j:Nat):bq (up A i j):=⟨A i j,rfl⟩
theorem dW{a b:Int}(h:(a:Rat)=(b:Rat)):a=b:=Rat.intCast_inj.1 h
theorem Bp_eq(A:Nat→Nat→Int):∀{k:Nat},Piv (up A) k →
  ((Bp A k).2:Rat)=pr (up A) k∧∀i j,((Bp A k).1 i j:Rat)=pr (up A) (min i k)*G (up A) (min i k) i j
 |0,_=>by
  refine⟨rfl,λi j=>?_⟩;rw[Nat.min_zero];show((A i j:Int):Rat)=1*(A i j:Rat);grind
 |k+1,hp=>by
  have hp':Piv (up A) k:=λl hl=>hp l (by omega);obtain⟨h1,h2⟩:=Bp_eq A hp';have hkk:=h2 k k;rw[Nat.min_self]at hkk;refine⟨hkk,λi j=>?_⟩;by_cases hi:i≤k
  ·have e:(Bp A (k+1)).1 i j=(Bp A k).1 i j:=by
    show(if i≤k then _ else _)=_;rw[if_pos hi]
   rw[e,h2 i j,show min i (k+1)=min i k by omega]
  ·have e:(Bp A (k+1)).1 i j=((Bp A k).1 k k*(Bp A k).1 i j-(Bp A k).1 i k*(Bp A k).1 k j)/(Bp A k).2:=by
    show(if i≤k then _ else _)=_;rw[if_neg hi]
   rw[show min i (k+1)=k+1 by omega];obtain⟨z,hz⟩:=kY (ng A) hp (i:=i) j (by omega);have hne:(Bp A k).2≠0:=by
    intro h0;rw[h0]at h1;exact pr_ne hp' h1.symm
   have e2:(Bp A k).1 k k*(Bp A k).1 i j-(Bp A k).1 i k*(Bp A k).1 k j=(Bp A k).2*z:=by
    apply dW;rw[Rat.intCast_sub,Rat.intCast_mul,Rat.intCast_mul,Rat.intCast_mul,←hz,h1,hkk,h2 i j,h2 i k,h2 k j,Nat.min_self,show min i k=k by omega];have:=hp k (by omega);show _=pr (up A) k*(pr (up A) k*G (up A) k k k*(G (up A) k i j-G (up A) k i k/G (up A) k k k*G (up A) k k j));grind
   rw[e,e2,Int.mul_ediv_cancel_left _ hne,hz]
def res(n:Nat)(x:Nat→Rat)(v:Nat→Rat):Rat:=am n (λj=>v j*x j)-v n
theorem res_lin(n:Nat)(x u v:Nat→Rat)(t:Rat):res n x (λc=>u c-t*v c)=res n x u-t*res n x v:=by
 unfold res;have e:am n (λj=>(u j-t*v j)*x j)=am n (λj=>u j*x j)-t*am n (λj=>v j*x j):=by
  rw[←bN,←cw];exact aK (λi _=>by grind)
 rw[e];grind
theorem kS{A:Nat→Nat→Rat}{n:Nat}{x:Nat→Rat}(h:∀i,i<n→res n x (A i)=0):∀k,k≤n→∀i,i<n→res n x (G A k i)=0
 |0,_,i,hi=>h i hi
 |k+1,hk,i,hi=>by
  show res n x (λj=>G A k i j-G A k i k/G A k k k*G A k k j)=0;rw[res_lin,kS h k (by omega) i hi,kS h k (by omega) k (by omega)];grind
theorem res_up{A:Nat→Nat→Rat}{n:Nat}{x:Nat→Rat}(h:∀k,k<n→res n x (G A k k)=0):∀d k,k+d=n→∀i,k≤i→i<n→res n x (G A k i)=0
 |0,k,hk,i,h1,h2=>by omega
 |d+1,k,hk,i,h1,h2=>by
  by_cases e:i=k
  ·subst e;exact h i h2
  ·have:=res_up h d (k+1) (by omega) i (by omega) h2;have e:res n x (λj=>G A k i j-G A k i k/G A k k k*G A k k j)=0:=this;rw[res_lin,h k (by omega)]at e;grind
theorem gN{A:Nat→Nat→Rat}{n:Nat}{x:Nat→Rat}:(∀i,i<n→res n x (A i)=0)↔(∀k,k<n→res n x (G A k k)=0) :=
 ⟨λh k hk=>kS h k (by omega) k hk,λh i hi=>res_up h n 0 (by omega) i (by omega) hi⟩
def tail(n k:Nat)(v x:Nat→Rat):Rat:=am (n-(k+1)) (λj=>v (k+1+j)*x (k+1+j))
theorem jR(f:Nat→Rat)(a:Nat):∀b,am (a+b) f=am a f+am b (λj=>f (a+j))
 |0=>by
  show am a f=am a f+0;grind
 |b+1=>by
  show am (a+b) f+f (a+b)=am a f+(am b (λj=>f (a+j))+f (a+b));rw[jR f a b];grind
theorem i5{A:Nat→Nat→Rat}{n k:Nat}(hk:k<n)(hp:Piv A k)(x:Nat→Rat):res n x (G A k k)=G A k k k*x k+tail n k (G A k k) x-G A k k n:=by
 unfold res tail;have e:am n (λj=>G A k k j*x j)=am (k+1+(n-(k+1))) (λj=>G A k k j*x j):=by
  rw[show k+1+(n-(k+1))=n by omega]
 rw[e,jR,am];rw[aK (n:=k) (g:=λ_=>0) (λi hi=>by rw[G_low hp k i (rL k) hi];grind),cY];grind
theorem ii{n k:Nat}{v x y:Nat→Rat}(h:∀j,k<j→j<n→x j=y j):tail n k v x=tail n k v y :=
 aK (λi hi=>by rw[h (k+1+i) (by omega) (by omega)])
theorem qD{A:Nat→Nat→Rat}{n:Nat}(hp:Piv A n){x y:Nat→Rat}(hx:∀i,i<n→res n x (A i)=0)(hy:∀i,i<n→res n y (A i)=0):∀k,k<n→x k=y k:=by
 have gx:=gN.1 hx;have gy:=gN.1 hy;have main:∀d k,k+d=n→∀j,k≤j→j<n→x j=y j:=by
  intro d;induction d with
  |zero=>intro k hk j h1 h2;omega
  |succ d ih =>
   intro k hk j h1 h2;have ihk:=ih (k+1) (by omega);by_cases e:j=k
   ·subst e;have hp':Piv A j:=λl hl=>hp l (by omega);have a:=gx j h2;have b:=gy j h2;rw[i5 h2 hp']at a b;rw[ii (y:=y) (λi hi hn=>ihk i (by omega) hn)]at a;have:=hp j h2;grind
   ·exact ihk j (by omega) h2
 intro k hk;exact main n 0 (by omega) k (by omega) hk
theorem lO(A:Nat→Nat→Rat):∀k i j,G (λa b=>-A a b) k i j = -G A k i j
 |0,_,_=>rfl
 |k+1,i,j=>by
  show G (λa b=>-A a b) k i j-G (λa b=>-A a b) k i k/G (λa b=>-A a b) k k k*G (λa b=>-A a b) k k j = -(G A k i j-G A k i k/G A k k k*G A k k j);rw[lO A k i j,lO A k i k,lO A k k k,lO A k k j];grind
def col(n:Nat)(w:Nat→Rat)(B:Nat→Nat→Rat)(k i:Nat):Rat:=am n (λj=>if j<k then 0 else w j*B j i)
structure Mm(n:Nat)(w:Nat→Rat)(A:Nat→Nat→Rat)(k:Nat):Prop where
 off:∀i j,k≤i→i<n→k≤j→j<n→i≠j→G A k i j≤0
 pos:∀i,k≤i→i<n→0<col n w (G A k) k i
theorem jG{n:Nat}{w:Nat→Rat}{B:Nat→Nat→Rat}{k:Nat}(i:Nat)(hk:k<n):col n w B k i=w k*B k i+col n w B (k+1) i:=by
 unfold col;have e:am n (λj=>if j<k then 0 else w j*B j i)=am n (λj=>(if j=k then w j*B j i else 0)+(if j<k+1 then 0 else w j*B j i)):=by
  refine aK (λj _=>?_);by_cases h1:j<k
  ·rw[if_pos h1,if_neg (by omega),if_pos (by omega)];grind
  ·by_cases h2:j=k
   ·rw[if_neg h1,if_pos h2,if_pos (by omega)];grind
   ·rw[if_neg h1,if_neg h2,if_neg (by omega)];grind
 rw[e,gL,bA hk (λi _ hne=>if_neg hne),if_pos rfl]
theorem col_le{n:Nat}{w:Nat→Rat}{B:Nat→Nat→Rat}{k i:Nat}(h:∀j,k≤j→j<n→w j*B j i≤0):col n w B k i≤0:=by
 have:col n w B k i≤am n (λ_=>0):=by
  refine iW (λj hj=>?_);by_cases h1:j<k
  ·rw[if_pos h1];grind
  ·rw[if_neg h1];exact h j (by omega) hj
 rw[cY]at this;exact this
theorem gk{a b:Rat}(ha:0≤a)(hb:b≤0):a*b≤0:=by
 have:=Rat.mul_nonneg ha (show 0≤-b by grind);grind
theorem kZ{a b:Rat}(ha:0<a)(h:0<a*b):0<b:=by
 by_cases hb:0<b
 ·exact hb
 ·have:=gk (a:=a) (b:=b) (by grind) (by grind);grind
theorem eF{a b:Rat}(ha:0≤a)(hb:0<b):0≤a/b:=by
 have:=Rat.mul_nonneg ha (show 0≤b⁻¹ from Rat.le_of_lt (Rat.inv_pos.2 hb));grind
theorem Mm.piv{n:Nat}{w:Nat→Rat}{A:Nat→Nat→Rat}{k:Nat}(h:Mm n w A k)(hw:∀j,j<n→0<w j)(hk:k<n):0<G A k k k:=by
 have h1:=h.pos k (rL k) hk;rw[jG k hk]at h1;have h2:col n w (G A k) (k+1) k≤0:=by
  refine col_le (λj hj hn=>?_);exact gk (Rat.le_of_lt (hw j hn)) (h.off j k (by omega) hn (rL k) hk (by omega))
 exact kZ (hw k hk) (by grind)
theorem Mm.step{n:Nat}{w:Nat→Rat}{A:Nat→Nat→Rat}{k:Nat}(h:Mm n w A k)(hw:∀j,j<n→0<w j)(hk:k<n):Mm n w A (k+1):=by
 have hp:=h.piv hw hk;refine⟨λi j h1 h2 h3 h4 hne=>?_,λi h1 h2=>?_⟩
 ·show G A k i j-G A k i k/G A k k k*G A k k j≤0;have a:=h.off i j (by omega) h2 (by omega) h4 hne;have b:=h.off i k (by omega) h2 (rL k) hk (by omega);have c:=h.off k j (rL k) hk (by omega) h4 (by omega);have d:=eF (a:=-G A k i k) (b:=G A k k k) (by grind) hp;have e:=Rat.mul_nonneg d (show 0≤-G A k k j by grind);have e2:G A k i k/G A k k k*G A k k j = -G A k i k/G A k k k * -G A k k j:=by grind
  grind
 ·have c1:=h.pos i (by omega) h2;have c2:=h.pos k (rL k) hk;have e1:=jG (w:=w) (B:=G A k) i hk;have e2:=jG (w:=w) (B:=G A k) k hk;have e:col n w (G A (k+1)) (k+1) i=col n w (G A k) (k+1) i-(G A k k i/G A k k k)*col n w (G A k) (k+1) k:=by
   unfold col;rw[←bN,←cw];refine aK (λj _=>?_);by_cases hj:j<k+1
   ·rw[if_pos hj,if_pos hj,if_pos hj];grind
   ·rw[if_neg hj,if_neg hj,if_neg hj];show w j*(G A k j i-G A k j k/G A k k k*G A k k i)=_;grind
  have hoff:=h.off k i (rL k) hk (by omega) h2 (by omega);have d:=eF (a:=-G A k k i) (b:=G A k k k) (by grind) hp;have dm:=Rat.mul_nonneg d (Rat.le_of_lt c2);have hne:G A k k k≠0:=by grind
  rw[e];have key:col n w (G A k) (k+1) i-(G A k k i/G A k k k)*col n w (G A k) (k+1) k=col n w (G A k) k i+(-G A k k i/G A k k k)*col n w (G A k) k k:=by
   rw[e1,e2];grind
  rw[key];grind
theorem Mm.all{n:Nat}{w:Nat→Rat}{A:Nat→Nat→Rat}(h:Mm n w A 0)(hw:∀j,j<n→0<w j):∀k,k≤n→Mm n w A k
 |0,_=>h
 |k+1,hk=>(Mm.all h hw k (by omega)).step hw (by omega)
theorem Mm.pivots{n:Nat}{w:Nat→Rat}{A:Nat→Nat→Rat}(h:Mm n w A 0)(hw:∀j,j<n→0<w j):∀k,k<n→0<G A k k k :=
 λk hk=>(h.all hw k (by omega)).piv hw hk
theorem Mm.column{n:Nat}{w:Nat→Rat}{A:Nat→Nat→Rat}(h:Mm n w A 0)(hw:∀j,j<n→0<w j){c:Nat}(s:Rat)(hc:∀i,i<n→0≤s*A i c):∀k,k≤n→∀i,k≤i→i<n→0≤s*G A k i c
 |0,_,i,_,hi=>hc i hi
 |k+1,hk,i,h1,h2=>by
  have m:=h.all hw k (by omega);have hp:=m.piv hw (by omega);have a:=Mm.column h hw s hc k (by omega) i (by omega) h2;have b:=Mm.column h hw s hc k (by omega) k (rL k) (by omega);have o:=m.off i k (by omega) h2 (rL k) (by omega) (by omega);have d:=eF (a:=-G A k i k) (b:=G A k k k) (by grind) hp;have e:=Rat.mul_nonneg d b;show 0≤s*(G A k i c-G A k i k/G A k k k*G A k k c);grind
theorem nJ{A:Nat→Nat→Rat}:∀{k:Nat},(∀l,l<k→0<G A l l l)→0<pr A k
 |0,_=>by unfold pr;grind
 |k+1,h=>by
  unfold pr;exact Rat.mul_pos (nJ (λl hl=>h l (by omega))) (h k (by omega))
theorem Mm.nonneg{n:Nat}{w:Nat→Rat}{A:Nat→Nat→Rat}(h:Mm n w A 0)(hw:∀j,j<n→0<w j)(hc:∀i,i<n→0≤A i n){x:Nat→Rat}(hx:∀i,i<n→res n x (A i)=0):∀k,k<n→0≤x k:=by
 have gx:=gN.1 hx;have main:∀d k,k+d=n→∀j,k≤j→j<n→0≤x j:=by
  intro d;induction d with
  |zero=>intro k hk j h1 h2;omega
  |succ d ih =>
   intro k hk j h1 h2;have ihk:=ih (k+1) (by omega);by_cases e:j=k
   ·subst e;have hp:=h.pivots hw;have a:=gx j h2;rw[i5 h2 (λl hl=>by have:=hp l (by omega);grind)]at a;have m:=h.all hw j (by omega);have r:=Mm.column h hw 1 (c:=n) (λi hi=>by have:=hc i hi;grind) j (by omega) j (rL j) h2;have t:tail n j (G A j j) x≤0:=by
     have t1:tail n j (G A j j) x≤am (n-(j+1)) (λ_=>0):=by
      refine iW (λi hi=>?_);have:=gk (ihk (j+1+i) (by omega) (by omega)) (m.off j (j+1+i) (rL j) h2 (by omega) (by omega) (by omega));grind
     rw[cY]at t1;exact t1
    have hpj:=hp j h2;have e2:G A j j j*x j=G A j j n-tail n j (G A j j) x:=by grind
    have e3:x j=(G A j j n-tail n j (G A j j) x)/G A j j j:=by grind
    rw[e3];exact eF (by grind) hpj
   ·exact ihk j (by omega) h2
 intro k hk;exact main n 0 (by omega) k (by omega) hk
theorem oo(x:Nat→Rat)(u:Nat→Nat→Rat)(f:List Nat→Rat)(cs:List Nat):∀n,
  lap (λc=>am n (λq=>u q c*x q)) f cs=am n (λq=>lap (u q) f cs*x q)
 |0=>by
  show lap (λ_=>0) f cs=0;have:∀(cs:List Nat) (f:List Nat→Rat),lap (λ_=>0) f cs=0:=by
   intro cs;induction cs with
   |nil=>intro f;rfl
   |cons c cs ih=>intro f;rw[lap,ih];grind
  exact this cs f
 |n+1=>by
  show lap (λc=>am n (λq=>u q c*x q)+u n c*x n) f cs=am n (λq=>lap (u q) f cs*x q)+lap (u n) f cs*x n;have e:=ot (λc=>am n (λq=>u q c*x q)) (u n) (-x n) cs f;rw[gY (w:=λc=>am n (λq=>u q c*x q) - -x n*u n c) cs f (λc _=>by grind),e,oo x u f cs n];grind
theorem gq(r:Nat→Rat)(l2:List (Nat→Rat)):∀l1:List (Nat→Rat),
  (∀cs,minor (l1++r::l2) cs=minor (r::(l1++l2)) cs)∨(∀cs,minor (l1++r::l2) cs = -minor (r::(l1++l2)) cs)
 |[]=>Or.inl (λ_=>rfl)
 |q::l1=>by
  have neg:∀(v:Nat→Rat) (f:List Nat→Rat) cs,lap v (λs=>-f s) cs = -lap v f cs:=by
   intro v f cs;have:=gX v (-1) cs f (λ_=>0);rw[jD]at this;have e:(λs=>-f s)=λs=>-1*f s-0:=by funext s;grind
   rw[e,this];grind
  rcases gq r l2 l1 with h|h
  ·right;intro cs;show lap q (minor (l1++r::l2)) cs = -lap r (lap q (minor (l1++l2))) cs;rw[show minor (l1++r::l2)=lap r (minor (l1++l2)) from funext h];have:=gv q r cs (minor (l1++l2));grind
  ·left;intro cs;show lap q (minor (l1++r::l2)) cs=lap r (lap q (minor (l1++l2))) cs;rw[show minor (l1++r::l2)=λs=>-lap r (minor (l1++l2)) s from funext h,neg];have:=gv q r cs (minor (l1++l2));grind
theorem iI(A:Nat→Nat→Rat){p:Nat}:∀{n:Nat},p<n→∃l1 l2,eM A n=l1++A p::l2∧(∀q,q<n→q≠p→A q∈l1++l2)∧(∀r,r∈l1++l2→∃q,q<n∧r=A q)
 |0,h=>by omega
 |n+1,h=>by
  by_cases e:p=n
  ·subst e;refine tH [] (eM A p) rfl (λq hq hne=>lm A (show q<p by omega)) (λr hr=>?_);obtain⟨l,hl,e⟩:=ji A hr;exact tF l (by omega) e
  ·obtain⟨l1,l2,e1,e2,e3⟩:=iI A (p:=p) (n:=n) (by omega);refine tH (A n::l1) l2 (by rw[eM,e1];rfl) (λq hq hne=>?_) (λr hr=>?_)
   ·by_cases eq:q=n
    ·subst eq;simp
    ·exact rB _ (e2 q (by omega) hne)
   ·rw[List.cons_append]at hr;rcases rC.1 hr with hr|hr
    ·exact tF n (by omega) hr
    ·obtain⟨q,hq,e⟩:=e3 r hr;exact tF q (by omega) e
theorem nI(A:Nat→Nat→Rat):∀k,pr (λa b=>A b a) k=pr A k
 |0=>rfl
 |k+1=>by
  rw[pr,pr,nI A k,iM]
theorem cramer{A:Nat→Nat→Rat}(hA:∀i j,bq (A i j)){n:Nat}(hp:Piv A n){x:Nat→Rat}(hx:∀i,i<n→res n x (A i)=0){p:Nat}(h:p<n):bq (pr A n*x p):=by
 have hpt:Piv (λa b=>A b a) n:=λl hl=>by rw[iM];exact hp l hl
 obtain⟨l1,l2,e1,e2,e3⟩:=iI (λa b=>A b a) h;have hint:bq (minor ((λc=>A c n)::(l1++l2)) (rn n)):=by
  refine bq.minor _ (λr hr c=>?_) _;rcases rC.1 hr with hr|hr
  ·rw[hr];exact hA c n
  ·obtain⟨q,_,e⟩:=e3 r hr;rw[e];exact hA c q
 have hval:minor ((λc=>A c n)::(l1++l2)) (rn n)=x p*minor ((λc=>A c p)::(l1++l2)) (rn n):=by
  rw[minor,minor];rw[gY (w:=λc=>am n (λq=>A c q*x q)) _ _ (λc hc=>by
   have:=hx c (rp.1 hc);unfold res at this;grind)]
  rw[oo x (λq c=>A c q),bA h (λq hq hne=>by
   rw[gW _ (e2 q hq hne)];grind)]
  grind
 have hm:=gp hpt;rw[e1,nI]at hm;have hfront:=gq (λc=>A c p) l2 l1;have e:pr A n*x p=minor ((λc=>A c n)::(l1++l2)) (rn n)∨pr A n*x p = -minor ((λc=>A c n)::(l1++l2)) (rn n):=by
  rw[hval];rcases hfront with hf|hf
  ·have:=hf (rn n);grind
  ·have:=hf (rn n);grind
 rcases e with e|e
 ·rw[e];exact hint
 ·rw[e];exact hint.neg
end Lr
end
section
namespace Lr
open Su111
def val(f:Fr):Rat:=(f.1:Rat)/(f.2:Rat)
def cJ(v:Rat):Fr:=(v.num,v.den)
theorem gs(x:Int){n:Nat}(hn:0<n):low x n=cJ ((x:Rat)/(n:Rat)):=by
 have hz:n≠0:=by omega
 have hg:Nat.gcd x.natAbs n≠0:=by
  intro h;have:=Nat.gcd_pos_of_pos_right x.natAbs hn;omega
 have e:(x:Rat)/(n:Rat)=Rat.normalize x n hz:=by
  rw[Rat.normalize_eq_mkRat,Rat.mkRat_eq_div]
 unfold low cJ;rw[if_neg hg,e,Rat.normalize_eq hz];rfl
theorem dN(v:Rat):val (cJ v)=v:=by
 show(v.num:Rat)/(v.den:Rat)=v;rw[←Rat.mkRat_eq_div];exact Rat.mkRat_self v
theorem dO(v:Rat):0<(cJ v).2:=v.den_pos
theorem bO{n:Nat}(h:0<n):(n:Rat)≠0:=by
 have:=Rat.natCast_pos.2 h;grind
theorem plus_eq{a b:Fr}(ha:0<a.2)(hb:0<b.2):plus a b=cJ (val a+val b):=by
 unfold plus;rw[gs _ (Nat.mul_pos ha hb)];congr 1;unfold val;have h1:=bO ha;have h2:=bO hb;rw[Rat.intCast_add,Rat.intCast_mul,Rat.intCast_mul,Rat.natCast_mul];have e1:((Int.ofNat b.2:Int):Rat)=(b.2:Rat):=rfl;have e2:((Int.ofNat a.2:Int):Rat)=(a.2:Rat):=rfl;rw[e1,e2];grind
theorem kE{a:Fr}(ha:0<a.2)(x:Int){n:Nat}(hn:0<n):times a x n=cJ (val a*(x:Rat)/(n:Rat)):=by
 unfold times;rw[gs _ (Nat.mul_pos ha hn)];congr 1;unfold val;have h1:=bO ha;have h2:=bO hn;rw[Rat.intCast_mul,Rat.natCast_mul];grind
def dC:List Rat→Rat
 |[]=>0
 |x::l=>x+dC l
theorem lu:∀(l:List Fr) (s:Rat),(∀f,f∈l→0<f.2)→l.foldl plus (cJ s)=cJ (s+dC (l.map val))
 |[],s,_=>by
  show cJ s=cJ (s+0);congr 1;grind
 |f::l,s,h=>by
  rw[List.foldl_cons,plus_eq (dO s) (h f (by simp)),dN,lu l _ (λg hg=>h g (by simp[hg]))];rw[rQ,dC];congr 1;grind
theorem l9:cJ 0=(0,1):=rfl
theorem j3(l:List Fr)(h:∀f,f∈l→0<f.2):l.foldl plus (0,1)=cJ (dC (l.map val)):=by
 rw[←l9,lu l 0 h];congr 1;grind
theorem jS:∀(l m:List Rat),dC (l++m)=dC l+dC m
 |[],m=>by
  show dC m=0+dC m;grind
 |x::l,m=>by
  rw[List.cons_append,dC,dC,jS l m];grind
theorem ij(f:Nat→Rat):∀n,dC ((rn n).map f)=am n f
 |0=>rfl
 |n+1=>by
  rw[sP,sQ,jS,ij f n];show am n f+(f n+0)=am n f+f n;grind
def ent(m:Array (Array Int))(i j:Nat):Int:=(m.getD i #[]).getD j 0
def Tri(U:Nat→Nat→Int)(n k:Nat)(x:Nat→Rat):Prop:=∀i,k≤i→i<n→up U i i*x i+tail n i (up U i) x-up U i n=0
def gM(m:Array (Array Int))(l:List Fr)(k:Nat):List Fr :=
  let r:=m.getD k #[];let s:=((rn l.length).map λj=>times (l.getD j (0,1)) (r.getD (k+1+j) 0) 1).foldl plus (0,1);let t:=plus (r.getD m.size 0,1) (-s.1,s.2)
  (let d:=r.getD k 0
   if d<0 then low (-t.1) (t.2*d.natAbs) else low t.1 (t.2*d.natAbs))::l
theorem solve_def(m:Array (Array Int)):solve m=(rn m.size).reverse.foldl (gM m) []:=rfl
theorem cj{α:Type}(f:Nat→α)(d:α){n j:Nat}(h:j<n):((rn n).map f).getD j d=f j:=by
 rw[so,r6,sR h];rfl
theorem np{m:Array (Array Int)}{n k:Nat}(hn:m.size=n)(hk:k<n)(hd:ent m k k≠0)(x:Nat→Rat):gM m ((rn (n-(k+1))).map λj=>cJ (x (k+1+j))) k =
   cJ ((up (ent m) k n-tail n k (up (ent m) k) x)/up (ent m) k k)::((rn (n-(k+1))).map λj=>cJ (x (k+1+j))):=by
 unfold gM;dsimp only;rw[rR,sO];congr 1;have es:((rn (n-(k+1))).map λj=>times (((rn (n-(k+1))).map λj=>cJ (x (k+1+j))).getD j (0,1)) ((m.getD k #[]).getD (k+1+j) 0) 1).foldl plus (0,1)
   = cJ (tail n k (up (ent m) k) x):=by
  have e1:((rn (n-(k+1))).map λj=>times (((rn (n-(k+1))).map λj=>cJ (x (k+1+j))).getD j (0,1)) ((m.getD k #[]).getD (k+1+j) 0) 1)
    = (rn (n-(k+1))).map λj=>cJ (up (ent m) k (k+1+j)*x (k+1+j)):=by
   refine sS (λj hj=>?_);rw[cj _ _ (rp.1 hj),kE (dO _) _ (by omega),dN];congr 1;show x (k+1+j)*((ent m k (k+1+j):Int):Rat)/((1:Nat):Rat)=((ent m k (k+1+j):Int):Rat)*x (k+1+j);have:((1:Nat):Rat)=1:=rfl;rw[this];grind
  rw[e1,j3 _ (λf hf=>by
   obtain⟨j,_,rfl⟩:=sv.1 hf;exact dO _),sN]
  congr 1;unfold tail;rw[←ij];congr 1;refine sS (λj _=>?_);exact dN _
 rw[es,hn];have hs:=dO (tail n k (up (ent m) k) x);have hv:=dN (tail n k (up (ent m) k) x);generalize cJ (tail n k (up (ent m) k) x)=s at hs hv;rw[plus_eq (a:=((m.getD k #[]).getD n 0,1)) (b:=(-s.1,s.2)) (by show 0<1;omega) hs];have e2:val (((m.getD k #[]).getD n 0,1):Fr)+val (-s.1,s.2)=up (ent m) k n-tail n k (up (ent m) k) x:=by
  rw[←hv];show((ent m k n:Int):Rat)/((1:Nat):Rat)+((-s.1:Int):Rat)/(s.2:Rat)=((ent m k n:Int):Rat)-(s.1:Rat)/(s.2:Rat);rw[Rat.intCast_neg,show((1:Nat):Rat)=1 from rfl];have:=bO hs;grind
 rw[e2];generalize up (ent m) k n-tail n k (up (ent m) k) x=v;have ht:=dO v;have hvt:=dN v;generalize cJ v=t at ht hvt;subst hvt;show(if ent m k k<0 then low (-t.1) (t.2*(ent m k k).natAbs) else low t.1 (t.2*(ent m k k).natAbs))=cJ (val t/((ent m k k:Int):Rat));generalize ent m k k=d at hd;have hpos:0<t.2*d.natAbs:=Nat.mul_pos ht (by omega);have h1:=bO ht;have hdr:(d:Rat)≠0:=by
  intro h;exact hd (dW (by rw[h];rfl))
 have hab:((d.natAbs:Nat):Rat)=((d.natAbs:Int):Rat):=rfl;by_cases hneg:d<0
 ·rw[if_pos hneg,gs _ hpos];congr 1;rw[Rat.natCast_mul,Rat.intCast_neg,hab,Int.ofNat_natAbs_of_nonpos (by omega),Rat.intCast_neg];unfold val;grind
 ·rw[if_neg hneg,gs _ hpos];congr 1;rw[Rat.natCast_mul,hab,Int.natAbs_of_nonneg (by omega)];unfold val;grind
theorem solve_eq{m:Array (Array Int)}{n:Nat}(hn:m.size=n)(hd:∀k,k<n→ent m k k≠0):∃x:Nat→Rat,solve m=(rn n).map (λj=>cJ (x j))∧Tri (ent m) n 0 x:=by
 have main:∀k,k≤n→∀x,Tri (ent m) n k x→∃y:Nat→Rat,(rn k).reverse.foldl (gM m) ((rn (n-k)).map λj=>cJ (x (k+j)))=(rn n).map (λj=>cJ (y j))∧Tri (ent m) n 0 y:=by
  intro k;induction k with
  |zero =>
   intro _ x hx;refine tF x ?_ hx;rw[List.range_zero,List.reverse_nil,List.foldl_nil,Nat.sub_zero];exact sS (λj _=>by rw[Nat.zero_add])
  |succ k ih =>
   intro hk x hx;rw[sP,List.reverse_append,List.reverse_singleton,List.singleton_append,List.foldl_cons,np hn (by omega) (hd k (by omega))];have hdk:up (ent m) k k≠0:=λh=>hd k (by omega) (dW (by rw[show((ent m k k:Int):Rat)=up (ent m) k k from rfl,h];rfl));let x':Nat→Rat:=λj=>if j=k then (up (ent m) k n-tail n k (up (ent m) k) x)/up (ent m) k k else x j
   have hgt:∀i,k≤i→tail n i (up (ent m) i) x'=tail n i (up (ent m) i) x:=λi hi=>ii (λj h1 _=>if_neg (by omega));obtain⟨y,h1,h2⟩:=ih (by omega) x' (λi h1 h2=>by
    rw[hgt i h1];by_cases e:i=k
    ·subst e;rw[show x' i=(up (ent m) i n-tail n i (up (ent m) i) x)/up (ent m) i i from if_pos rfl];grind
    ·rw[show x' i=x i from if_neg e];exact hx i (by omega) h2)
   refine tF y ?_ h2;rw[←h1];congr 1;rw[show n-k=(n-(k+1))+1 by omega,List.range_succ_eq_map,rQ,sN];congr 1
   ·congr 1;exact(if_pos rfl).symm
   ·refine sS (λj _=>?_);show cJ (x (k+1+j))=cJ (x' (k+(j+1)));rw[show x' (k+(j+1))=x (k+(j+1)) from if_neg (by omega),show k+(j+1)=k+1+j by omega]
 obtain⟨y,h1,h2⟩:=main n (rL n) (λ_=>0) (λi h1 h2=>by omega);refine tF y ?_ h2;rw[solve_def,hn,←h1,sJ];rfl
structure lL(m:Array (Array Int))(n:Nat):Prop where
 size:m.size=n
 row:∀i,i<n→(m.getD i #[]).size=n+1
theorem oV{m:Array (Array Int)}{k:Nat}(hk:k<m.size)(hd:ent m k k≠0):swapTo m k=m:=by
 unfold swapTo;have hl:k<(rn m.size).length:=by rw[sO];exact hk
 rw[sF hl,List.getElem_range,List.find?_cons_of_pos (by
  show((m.getD k #[]).getD k 0 != 0)=true;exact bne_iff_ne.2 hd)]
 dsimp only;apply Array.ext_getElem?;intro i;have e:(m.getD k #[])=m[k]:=by simp[Array.getD,hk]
 rw[Array.set!_eq_setIfInBounds,Array.set!_eq_setIfInBounds,Array.getElem?_setIfInBounds,Array.getElem?_setIfInBounds,e,Array.size_setIfInBounds];by_cases h:k=i
 ·subst h;rw[if_pos rfl,if_pos hk];exact(Array.getElem?_eq_getElem hk).symm
 ·rw[if_neg h,if_neg h]
theorem cq{α:Type}(f:Nat→α)(d:α){n j:Nat}(h:j<n):((Array.range n).map f).getD j d=f j:=by
 rw[Array.getD_eq_getD_getElem?,Array.getElem?_map,Array.getElem?_range,if_pos h];rfl
theorem jT{m:Array (Array Int)}{k i:Nat}{p:Int}(hi:i<m.size):(stepOne m k p).getD i #[]=if i≤k then m.getD i #[] else (Array.range (m.getD i #[]).size).map λc=>((m.getD k #[]).getD k 0*(m.getD i #[]).getD c 0-(m.getD i #[]).getD k 0*(m.getD k #[]).getD c 0)/p:=by
 unfold stepOne;dsimp only;rw[cq _ _ hi]
theorem lT{m:Array (Array Int)}{n k:Nat}{p:Int}(h:lL m n):lL (stepOne m k p) n:=by
 refine⟨?_,λi hi=>?_⟩
 ·unfold stepOne;simp[h.size]
 ·rw[jT (by rw[h.size];exact hi)];by_cases e:i≤k
  ·rw[if_pos e];exact h.row i hi
  ·rw[if_neg e,Array.size_map,Array.size_range];exact h.row i hi
theorem oY{m:Array (Array Int)}{n k:Nat}{p:Int}(h:lL m n){i j:Nat}(hi:i<n)(hj:j<n+1):ent (stepOne m k p) i j=if i≤k then ent m i j else (ent m k k*ent m i j-ent m i k*ent m k j)/p:=by
 unfold ent;rw[jT (by rw[h.size];exact hi)];by_cases e:i≤k
 ·rw[if_pos e,if_pos e]
 ·rw[if_neg e,if_neg e,cq _ _ (by rw[h.row i hi];exact hj)]
theorem jQ{A:Nat→Nat→Int}{n:Nat}(hp:Piv (up A) n):∀(f k:Nat) (m:Array (Array Int)) (p:Int),k+f<n→lL m n →
  (∀i j,i<n→j<n+1→ent m i j=(Bp A k).1 i j)→p=(Bp A k).2 →
  lL (triangle f k p m) n∧∀i j,i<n→j<n+1→ent (triangle f k p m) i j=(Bp A (k+f)).1 i j
 |0,k,m,p,_,hs,he,_=>⟨hs,he⟩
 |f+1,k,m,p,hkf,hs,he,hpr=>by
  have hpk:Piv (up A) k:=λl hl=>hp l (by omega);have hb:=(Bp_eq A hpk).2 k k;rw[Nat.min_self]at hb;have hd:ent m k k≠0:=by
   rw[he k k (by omega) (by omega)];intro h0;rw[h0]at hb;have h1:=pr_ne hpk;have h2:=hp k (by omega);have h3:((0:Int):Rat)=0:=rfl;rw[h3]at hb;grind
  have hsw:=oV (m:=m) (k:=k) (by rw[hs.size];omega) hd;unfold triangle;dsimp only;rw[hsw];have:=jQ hp f (k+1) (stepOne m k p) ((m.getD k #[]).getD k 0) (by omega) (lT hs) (λi j hi hj=>by
   rw[oY hs hi hj,he i j hi hj,he k k (by omega) (by omega),he i k hi (by omega),he k j (by omega) hj,hpr];rfl) (he k k (by omega) (by omega))
  rw[show k+(f+1)=k+1+f by omega];exact this
theorem solved{A:Nat→Nat→Int}{n:Nat}(hn:0<n)(hp:Piv (up A) n){m:Array (Array Int)}(hs:lL m n)(he:∀i j,i<n→j<n+1→ent m i j=A i j):∃x:Nat→Rat,solve (triangle (m.size-1) 0 1 m)=(rn n).map (λj=>cJ (x j))∧∀i,i<n→res n x (up A i)=0:=by
 obtain⟨s1,s2⟩:=jQ hp (n-1) 0 m 1 (by omega) hs he rfl;rw[Nat.zero_add]at s2;have hB:=(Bp_eq A (k:=n-1) (λl hl=>hp l (by omega))).2;have hent:∀k j,k<n→j<n+1→up (ent (triangle (n-1) 0 1 m)) k j=pr (up A) k*G (up A) k k j:=by
  intro k j hk hj;show((ent (triangle (n-1) 0 1 m) k j:Int):Rat)=_;rw[s2 k j hk hj,hB k j,show min k (n-1)=k by omega]
 have hne:∀k,k<n→pr (up A) k≠0:=λk hk=>pr_ne (λl hl=>hp l (by omega));obtain⟨x,h1,h2⟩:=solve_eq s1.size (λk hk h0=>by
  have e:=hent k k hk (by omega);have z:up (ent (triangle (n-1) 0 1 m)) k k=0:=by
   show((ent (triangle (n-1) 0 1 m) k k:Int):Rat)=0;rw[h0];rfl
  rw[z]at e;have a:=hne k hk;have b:=hp k hk;grind)
 refine tF x (by rw[hs.size];exact h1) ?_;refine gN.2 (λk hk=>?_);have t:=h2 k (rO k) hk;rw[i5 hk (λl hl=>hp l (by omega))];have et:tail n k (up (ent (triangle (n-1) 0 1 m)) k) x=pr (up A) k*tail n k (G (up A) k k) x:=by
  unfold tail;rw[←bN];refine aK (λj hj=>?_);rw[hent k _ hk (by omega)];grind
 rw[et,hent k k hk (by omega),hent k n hk (by omega)]at t;have a:=hne k hk;have e:pr (up A) k*(G (up A) k k k*x k+tail n k (G (up A) k k) x-G (up A) k k n)=0:=by grind
 grind
def cu:List Nat→List Nat→Prop
 |[],[]=>True
 |r::l,k::s=>k≤r∧cu l s
 |_,_=>False
def vol:List Nat→Nat
 |[]=>1
 |r::l=>(r+1)*vol l
def idx:List Nat→List Nat→Nat
 |_::l,k::s=>k*vol l+idx l s
 |_,_=>0
theorem bK:∀l,0<vol l
 |[]=>by unfold vol;omega
 |r::l=>Nat.mul_pos (by omega) (bK l)
theorem cu.len:∀{l s:List Nat},cu l s→s.length=l.length
 |[],[],_=>rfl
 |_::_,_::_,h=>by rw[rP,rP,cu.len h.2]
 |[],_::_,h=>h.elim
 |_::_,[],h=>h.elim
theorem eE:∀{l s:List Nat},cu l s→idx l s<vol l
 |[],[],_=>by unfold idx vol;omega
 |r::l,k::s,h=>by
  have h1:=eE h.2;have h2:k*vol l≤r*vol l:=sU _ h.1;show k*vol l+idx l s<(r+1)*vol l;rw[sV];omega
 |[],_::_,h=>h.elim
 |_::_,[],h=>h.elim
theorem gA{α:Type}(g:Nat→List α)(c:Nat)(hg:∀k,(g k).length=c):∀n,((rn n).flatMap g).length=n*c
 |0=>by simp
 |n+1=>by
  rw[sP,List.flatMap_append,r9,gA g c hg n];simp[hg,sV]
theorem gB{α:Type}(g:Nat→List α)(c:Nat)(hg:∀k,(g k).length=c):∀{n k i:Nat},k<n→i<c→((rn n).flatMap g)[k*c+i]?=(g k)[i]?
 |0,_,_,h,_=>by omega
 |n+1,k,i,h,hi=>by
  have hl:=gA g c hg n;rw[sP,List.flatMap_append];by_cases e:k=n
  ·subst e;rw[rY (by omega),hl];simp
  ·have:k*c+i<n*c:=by
    have h1:(k+1)*c≤n*c:=sU _ (by omega);rw[sV]at h1;omega
   rw[rZ (by omega)];exact gB g c hg (by omega) hi
theorem bu:∀l,(states l).length=vol l
 |[]=>rfl
 |r::l=>by
  unfold states;rw[gA _ (vol l) (λk=>by rw[rR,bu l])];rfl
theorem il:∀{l s:List Nat},cu l s→(states l)[idx l s]?=some s
 |[],[],_=>rfl
 |r::l,k::s,h=>by
  unfold states idx;rw[gB (λk=>(states l).map λs=>k::s) (vol l) (λk=>by rw[rR,bu l]) (by have:=h.1;omega) (eE h.2),r6,il h.2];rfl
 |[],_::_,h=>h.elim
 |_::_,[],h=>h.elim
theorem ik:∀{l s:List Nat},s∈states l→cu l s
 |[],s,h=>by
  have:s=[]:=by simpa [states] using h
  subst this;exact True.intro
 |r::l,s,h=>by
  unfold states at h;obtain⟨k,hk,h2⟩:=List.mem_flatMap.1 h;obtain⟨t,ht,rfl⟩:=sv.1 h2;exact⟨by have:=rp.1 hk;omega,ik ht⟩
def St(l:List Nat)(i:Nat):List Nat:=(states l).getD i []
theorem du{l:List Nat}{i:Nat}(h:i<vol l):(states l)[i]?=some (St l i):=by
 unfold St;rw[so,sG (by rw[bu];exact h)];rfl
theorem cX{l:List Nat}{i:Nat}(h:i<vol l):cu l (St l i) :=
 ik (r8 (du h))
theorem lJ{l s:List Nat}(h:cu l s):St l (idx l s)=s:=by
 have:=du (eE h);rw[il h]at this;exact(Option.some.inj this).symm
theorem bo:∀{l:List Nat} {i:Nat},i<vol l→idx l (St l i)=i
 |[],i,h=>by
  have:i=0:=by unfold vol at h;omega
  subst this;rfl
 |r::l,i,h=>by
  have hv:=bK l;have h1:i%vol l<vol l:=Nat.mod_lt _ hv;have h2:i/vol l<r+1:=by
   unfold vol at h;exact Nat.div_lt_of_lt_mul (by rw[Nat.mul_comm];exact h)
  have e:St (r::l) i=(i/vol l)::St l (i%vol l):=by
   have a:=du h;have b:=gB (λk=>(states l).map λs=>k::s) (vol l) (λk=>by rw[rR,bu l]) h2 h1;rw[Nat.mul_comm,Nat.div_add_mod]at b;have c:(states (r::l))[i]?=((states l).map λs=>(i/vol l)::s)[i%vol l]?:=b;rw[a,r6,du h1]at c;exact Option.some.inj c
  rw[e];show i/vol l*vol l+idx l (St l (i%vol l))=i;rw[bo h1,Nat.mul_comm,Nat.div_add_mod]
theorem ox:∀{l s t:List Nat} {i:Nat},cu l s→cu l t→i<l.length→(∀j,j<i→s.getD j 0=t.getD j 0)→s.getD i 0<t.getD i 0→idx l s<idx l t
 |[],_,_,_,_,_,h,_,_=>by simp at h
 |_::_,[],_,_,h,_,_,_,_=>h.elim
 |_::_,_::_,[],_,_,h,_,_,_=>h.elim
 |r::l,k::s,q::t,0,hs,ht,_,_,h=>by
  have h':k<q:=by simpa using h
  have h1:=eE hs.2;have h2:(k+1)*vol l≤q*vol l:=sU _ h';rw[sV]at h2;show k*vol l+idx l s<q*vol l+idx l t;omega
 |r::l,k::s,q::t,i+1,hs,ht,hi,hj,h=>by
  have e:k=q:=by simpa using hj 0 (by omega)
  subst e;have:=ox (i:=i) hs.2 ht.2 (by simpa using hi) (λj h1=>by simpa using hj (j+1) (by omega)) (by simpa using h);show k*vol l+idx l s<k*vol l+idx l t;omega
theorem gH:∀{l s:List Nat},cu l s↔s.length=l.length∧∀i,i<l.length→s.getD i 0≤l.getD i 0
 |[],[]=>by simp[cu]
 |[],_::_=>by simp[cu]
 |_::_,[]=>by simp[cu]
 |r::l,k::s=>by
  unfold cu;rw[gH (l:=l) (s:=s)];constructor
  ·rintro ⟨h1,h2,h3⟩;refine⟨by simp[h2],λi hi=>?_⟩;cases i with
   |zero=>simpa using h1
   |succ i=>simpa using h3 i (by simpa using hi)
  ·rintro ⟨h1,h2⟩;refine tS (by simpa using h2 0 (by simp)) (by simpa using h1) (λi hi=>?_);simpa using h2 (i+1) (by simpa using hi)
structure a0(a:Abs):Prop where
 len:a.chances.length=a.rooms.length+1
 chance:∀p,p∈a.chances→1≤p∧p≤9
 room:∀r,r∈a.rooms→1≤r
def can(a:Abs)(s u:List Nat)(i:Nat)(b:Bool):Bool:=u.getD i 0==1&&((i==0||decide (0<s.getD (i-1) 0))&&(i+1==a.m||decide (s.getD i 0<a.room i)||b))
theorem jp(a:Abs)(s u:List Nat):∀(k:Nat) (l:List Bool),k≤a.m→l.length=a.m-k→(∀i,k≤i→i<a.m→l.getD (i-k) false=can a s u i (l.getD (i+1-k) false)) →
  ((rn k).reverse.foldl (λl i=>can a s u i (l.headD false)::l) l).length=a.m ∧
  ∀i,i<a.m→((rn k).reverse.foldl (λl i=>can a s u i (l.headD false)::l) l).getD i false=can a s u i (((rn k).reverse.foldl (λl i=>can a s u i (l.headD false)::l) l).getD (i+1) false)
 |0,l,_,hl,hi=>⟨by simpa using hl,λi h=>by simpa using hi i (rO i) h⟩
 |k+1,l,hk,hl,hi=>by
  rw[sP,List.reverse_append,List.reverse_singleton,List.singleton_append,List.foldl_cons];refine jp a s u k _ (by omega) (by rw[rP];omega) (λi h1 h2=>?_);have hh:l.headD false=l.getD 0 false:=by cases l<;>rfl
  by_cases e:i=k
  ·subst e;rw[sJ,show i+1-i=0+1 by omega,hh];rfl
  ·have:=hi i (by omega) h2;rw[show i-k=(i-(k+1))+1 by omega,show i+1-k=(i+1-(k+1))+1 by omega];exact this
theorem gJ(a:Abs)(s u:List Nat):(a.works s u).length=a.m :=
 (jp a s u a.m [] (rL _) (by simp) (λi h1 h2=>by omega)).1
theorem ez(a:Abs)(s u:List Nat){i:Nat}(h:i<a.m):(a.works s u).getD i false=can a s u i ((a.works s u).getD (i+1) false) :=
 (jp a s u a.m [] (rL _) (by simp) (λi h1 h2=>by omega)).2 i h
theorem jc(a:Abs)(s u:List Nat):(a.next s u).length=a.rooms.length:=by
 unfold Abs.next
 simp
theorem gU(a:Abs)(s u:List Nat){i:Nat}(h:i<a.rooms.length):(a.next s u).getD i 0 =
  s.getD i 0+(if (a.works s u).getD i false then 1 else 0)-(if (a.works s u).getD (i+1) false then 1 else 0):=by
 unfold Abs.next
 exact cj _ _ h
theorem oJ{a:Abs}{s u:List Nat}{i:Nat}(h:i+1<a.m)(hw:(a.works s u).getD (i+1) false=true):0<s.getD i 0:=by
 rw[ez a s u h]at hw;unfold can at hw;simp at hw;exact hw.2.1
theorem oI{a:Abs}{s u:List Nat}{i:Nat}(h:i+1<a.m)(hw:(a.works s u).getD i false=true):s.getD i 0<a.room i∨(a.works s u).getD (i+1) false=true:=by
 rw[ez a s u (by omega)]at hw;unfold can at hw;simp at hw;rcases hw.2.2 with(h1|h1)|h1
 ·omega
 ·exact Or.inl (by simpa using h1)
 ·exact Or.inr (by simpa using h1)
theorem cx{a:Abs}(hv:a0 a){s:List Nat}(hs:cu a.rooms s)(u:List Nat):cu a.rooms (a.next s u):=by
 obtain⟨h1,h2⟩:=gH.1 hs;refine gH.2 ⟨jc a s u,λi hi=>?_⟩;have hm:i+1<a.m:=by
  have:=hv.len;show i+1<a.chances.length;omega
 have b:=h2 i hi;have pl:=oI (s:=s) (u:=u) hm;rw[gU a s u hi];have hr:a.room i=a.rooms.getD i 0:=rfl;by_cases w1:(a.works s u).getD i false=true
 ·rcases pl w1 with p|p
  ·rw[if_pos w1];split<;>omega
  ·rw[if_pos w1,if_pos p];omega
 ·rw[if_neg w1];split<;>omega
theorem iT(n:Nat):ups (n+1)=(ups n).map (λl=>0::l)++(ups n).map (λl=>1::l):=by
 show [0,1].flatMap (λx=>(ups n).map λl=>x::l)=_;simp
theorem dg:∀{n:Nat} {u:List Nat},u∈ups n→u.length=n
 |0,u,h=>by
  have:u=[]:=by simpa [ups] using h
  subst this;rfl
 |n+1,u,h=>by
  rw[iT]at h;rcases rD.1 h with h|h
  ·obtain⟨v,hv,rfl⟩:=sv.1 h;rw[rP,dg hv]
  ·obtain⟨v,hv,rfl⟩:=sv.1 h;rw[rP,dg hv]
theorem ups_of:∀(n:Nat) (f:Nat→Bool),(rn n).map (λi=>if f i then 1 else 0)∈ups n
 |0,f=>by simp[ups]
 |n+1,f=>by
  have h:=ups_of n (λi=>f (i+1));rw[List.range_succ_eq_map,rQ,sN,iT];refine rD.2 ?_;by_cases e:f 0=true
  ·right;rw[e];exact sv.2 (tF _ h rfl)
  ·left;have e':f 0=false:=by simpa using e
   rw[e'];exact sv.2 (tF _ h rfl)
def wt:List Nat→List Nat→Nat
 |p::ps,x::u=>(if x=1 then p else 10-p)*wt ps u
 |_,_=>1
theorem wt_fold:∀(ps u:List Nat) (c:Nat),u.length=ps.length →
  ((rn ps.length).map λi=>if u.getD i 0=1 then ps.getD i 0 else 10-ps.getD i 0).foldl (λx y=>x*y) c=c*wt ps u
 |[],[],c,_=>by simp[wt]
 |[],_::_,_,h=>by simp at h
 |_::_,[],_,h=>by simp at h
 |p::ps,x::u,c,h=>by
  rw[rP,List.range_succ_eq_map,rQ,List.foldl_cons,sN];have:=wt_fold ps u (c*(if x=1 then p else 10-p)) (by simpa using h);show(List.map (λi=>if u.getD i 0=1 then ps.getD i 0 else 10-ps.getD i 0) (rn ps.length)).foldl (λx y=>x*y) (c*(if x=1 then p else 10-p))=c*((if x=1 then p else 10-p)*wt ps u);rw[this,Nat.mul_assoc]
theorem d8(a:Abs){u:List Nat}(h:u.length=a.m):a.weight u=wt a.chances u:=by
 have:=wt_fold a.chances u 1 h;rw[Nat.one_mul]at this;exact this
theorem wt_pos:∀{ps u:List Nat},(∀p,p∈ps→1≤p∧p≤9)→0<wt ps u
 |[],_,_=>by unfold wt;omega
 |_::_,[],_=>by unfold wt;omega
 |p::ps,x::u,h=>by
  have h1:=h p (by simp);have h2:=wt_pos (ps:=ps) (u:=u) (λq hq=>h q (by simp[hq]));unfold wt;refine Nat.mul_pos ?_ h2;split<;>omega
theorem ic:∀{ps:List Nat},(∀p,p∈ps→1≤p∧p≤9)→((ups ps.length).map (wt ps)).sum=10^ps.length
 |[],_=>by simp[ups,wt]
 |p::ps,h=>by
  have h1:=h p (by simp);have h2:=ic (ps:=ps) (λq hq=>h q (by simp[hq]));have hm:∀(c:Nat) (l:List (List Nat)),(l.map λu=>c*wt ps u).sum=c*(l.map (wt ps)).sum:=by
   intro c l;induction l with
   |nil=>simp
   |cons x l ih=>simp[ih,Nat.mul_add]
  rw[rP,iT,sQ,List.sum_append,sN,sN];have e0:(wt (p::ps) ∘ λl=>0::l)=λu=>(10-p)*wt ps u:=by funext u;simp[wt]
  have e1:(wt (p::ps) ∘ λl=>1::l)=λu=>p*wt ps u:=by funext u;simp[wt]
  rw[e0,e1,hm,hm,h2,←sV,Nat.pow_succ,show 10-p+p=10 by omega,Nat.mul_comm]
def P(a:Abs)(i j:Nat):Nat:=((ups a.m).map λu=>if a.next (St a.rooms i) u=St a.rooms j then a.weight u else 0).sum
theorem ly{α:Type}(g:List Nat→α×Nat)[BEq α][LawfulBEq α][DecidableEq α](t:α):∀l:List (List Nat),
  (((l.map g).filter λx=>x.1==t).map λx=>x.2).sum=(l.map λu=>if (g u).1=t then (g u).2 else 0).sum
 |[]=>rfl
 |u::l=>by
  have ih:=ly g t l;rw[rQ,rQ,sW];by_cases e:(g u).1=t
  ·rw[List.filter_cons_of_pos (by simp[e]),rQ,sW,ih,if_pos e]
  ·rw[List.filter_cons_of_neg (by simp[e]),ih,if_neg e,Nat.zero_add]
theorem row_at(a:Abs){i j:Nat}(hj:j<vol a.rooms):(a.row (St a.rooms i)).getD j 0=P a i j:=by
 unfold Abs.row P;dsimp only;rw[so,r6];show(Option.map _ (states a.rooms)[j]?).getD 0=_;rw[du hj];exact ly (λu=>(a.next (St a.rooms i) u,a.weight u)) (St a.rooms j) (ups a.m)
theorem dh{α:Type}{f g:α→Rat}:∀{l:List α},(∀x,x∈l→f x=g x)→dC (l.map f)=dC (l.map g)
 |[],_=>rfl
 |x::l,h=>by
  rw[rQ,rQ,dC,dC,h x (by simp),dh (λy hy=>h y (by simp[hy]))]
theorem kJ{α:Type}(f:Nat→α→Rat)(n:Nat):∀l:List α,am n (λj=>dC (l.map (f j)))=dC (l.map λu=>am n (λj=>f j u))
 |[]=>cY n
 |x::l=>by
  have:=gL (λj=>f j x) (λj=>dC (l.map (f j))) n;rw[kJ f n l]at this;exact this
theorem lE{α:Type}(f:α→Nat):∀l:List α,(((l.map f).sum:Nat):Rat)=dC (l.map λx=>(f x:Rat))
 |[]=>rfl
 |x::l=>by
  rw[rQ,sW,Rat.natCast_add,lE f l];rfl
theorem P_cast{a:Abs}(hv:a0 a){i j:Nat}(hi:i<vol a.rooms)(hj:j<vol a.rooms):((P a i j:Nat):Rat)=dC ((ups a.m).map λu=>if idx a.rooms (a.next (St a.rooms i) u)=j then (a.weight u:Rat) else 0):=by
 unfold P;rw[lE];refine dh (λu _=>?_);have hf:=cx hv (cX hi) u;by_cases e:a.next (St a.rooms i) u=St a.rooms j
 ·rw[if_pos e,e,bo hj,if_pos rfl]
 ·rw[if_neg e,if_neg (λh=>e (by rw[←h,lJ hf]))];rfl
theorem P_move{a:Abs}(hv:a0 a){i:Nat}(hi:i<vol a.rooms)(y:Nat→Rat):am (vol a.rooms) (λj=>(P a i j:Rat)*y j)=dC ((ups a.m).map λu=>(a.weight u:Rat)*y (idx a.rooms (a.next (St a.rooms i) u))):=by
 have e:am (vol a.rooms) (λj=>(P a i j:Rat)*y j)=am (vol a.rooms) (λj=>dC ((ups a.m).map λu=>if idx a.rooms (a.next (St a.rooms i) u)=j then (a.weight u:Rat)*y j else 0)):=by
  refine aK (λj hj=>?_);rw[P_cast hv hi hj];have:∀l:List (List Nat),dC (l.map λu=>if idx a.rooms (a.next (St a.rooms i) u)=j then (a.weight u:Rat) else 0)*y j=dC (l.map λu=>if idx a.rooms (a.next (St a.rooms i) u)=j then (a.weight u:Rat)*y j else 0):=by
   intro l;induction l with
   |nil=>show(0:Rat)*y j=0;grind
   |cons u l ih =>
    rw[rQ,rQ,dC,dC,←ih];split<;>grind
  exact this _
 rw[e,kJ];refine dh (λu _=>?_);rw[bA (eE (cx hv (cX hi) u)) (λj _ hne=>if_neg (λh=>hne h.symm)),if_pos rfl]
theorem P_sum{a:Abs}(hv:a0 a){i:Nat}(hi:i<vol a.rooms):am (vol a.rooms) (λj=>(P a i j:Rat))=((10^a.m:Nat):Rat):=by
 have h:=P_move hv hi (λ_=>1);have e:am (vol a.rooms) (λj=>(P a i j:Rat))=am (vol a.rooms) (λj=>(P a i j:Rat)*1):=aK (λj _=>by grind);rw[e,h,show(10^a.m:Nat)=((ups a.m).map (wt a.chances)).sum from(ic hv.chance).symm,lE];refine dh (λu hu=>?_);rw[d8 a (dg hu)];grind
theorem P_pos{a:Abs}(hv:a0 a){i:Nat}(hi:i<vol a.rooms){u:List Nat}(hu:u∈ups a.m):1≤P a i (idx a.rooms (a.next (St a.rooms i) u)):=by
 have hf:=cx hv (cX hi) u;unfold P;rw[lJ hf];have hw:1≤a.weight u:=by
  rw[d8 a (dg hu)];exact wt_pos hv.chance
 have:∀l:List (List Nat),u∈l→1≤(l.map λv=>if a.next (St a.rooms i) v=a.next (St a.rooms i) u then a.weight v else 0).sum:=by
  intro l hl;induction l with
  |nil=>simp at hl
  |cons v l ih =>
   rw[rQ,sW];rcases rC.1 hl with h|h
   ·rw[←h,if_pos rfl];omega
   ·have:=ih h;omega
 exact this _ hu
theorem p9:∀{l s:List Nat},s.length=l.length→(∀i,i<l.length→s.getD i 0=l.getD i 0)→idx l s+1=vol l
 |[],[],_,_=>rfl
 |[],_::_,h,_=>by simp at h
 |_::_,[],h,_=>by simp at h
 |r::l,k::s,h,he=>by
  have e:k=r:=by simpa using he 0 (by simp)
  subst e;have:=p9 (l:=l) (s:=s) (by simpa using h) (λi hi=>by simpa using he (i+1) (by simpa using hi));show k*vol l+idx l s+1=(k+1)*vol l;rw[sV];omega
theorem mH:∀{l s:List Nat},(∀i,i<l.length→s.getD i 0=0)→idx l s=0
 |[],[],_=>rfl
 |[],_::_,_=>rfl
 |_::_,[],_=>rfl
 |r::l,k::s,he=>by
  have e:k=0:=by simpa using he 0 (by simp)
  subst e;have:=mH (l:=l) (s:=s) (λi hi=>by simpa using he (i+1) (by simpa using hi));show 0*vol l+idx l s=0;omega
theorem mP(p:Nat→Prop)[DecidablePred p]:∀n,(∀j,j<n→p j)∨∃i,i<n∧¬p i∧∀j,j<i→p j
 |0=>Or.inl (λj h=>by omega)
 |n+1=>by
  rcases mP p n with h|⟨i,h1,h2,h3⟩
  ·by_cases hp:p n
   ·left;intro j hj;by_cases e:j=n
    ·rw[e];exact hp
    ·exact h j (by omega)
   ·exact Or.inr (tK n (by omega) hp h)
  ·exact Or.inr (tK i (by omega) h2 h3)
theorem p7(p:Nat→Prop)[DecidablePred p]:∀n,(∀j,j<n→p j)∨∃i,i<n∧¬p i∧∀j,i<j→j<n→p j
 |0=>Or.inl (λj h=>by omega)
 |n+1=>by
  by_cases hp:p n
  ·rcases p7 p n with h|⟨i,h1,h2,h3⟩
   ·left;intro j hj;by_cases e:j=n
    ·rw[e];exact hp
    ·exact h j (by omega)
   ·refine Or.inr (tK i (by omega) h2 (λj h4 h5=>?_));by_cases e:j=n
    ·rw[e];exact hp
    ·exact h3 j h4 (by omega)
  ·exact Or.inr (tK n (by omega) hp (λj h1 h2=>by omega))
theorem kQ{a:Abs}(hv:a0 a){i:Nat}(h:i<a.rooms.length):1≤a.rooms.getD i 0:=by
 have e:a.rooms.getD i 0=a.rooms[i]:=by
  rw[so,sG h];rfl
 rw[e];exact hv.room _ (List.getElem_mem h)
def upTo(m:Nat)(f:Nat→Bool):List Nat:=(rn m).map (λi=>if f i then 1 else 0)
theorem kh{m:Nat}{f:Nat→Bool}{i:Nat}(h:i<m):(upTo m f).getD i 0=if f i then 1 else 0:=cj _ _ h
theorem getD_len{α:Type}{l:List α}{d:α}{i:Nat}(h:l.length≤i):l.getD i d=d:=by
 rw[so,su h];rfl
theorem kC{a:Abs}{s:List Nat}{f:Nat→Bool}{i:Nat}(h:f i=false):(a.works s (upTo a.m f)).getD i false=false:=by
 by_cases hi:i<a.m
 ·rw[ez a s _ hi];unfold can;rw[kh hi,h];rfl
 ·exact getD_len (by rw[gJ];omega)
theorem way_up{a:Abs}(hv:a0 a){s:List Nat}(hs:cu a.rooms s)(h:idx a.rooms s+1<vol a.rooms):∃u,u∈ups a.m∧idx a.rooms s<idx a.rooms (a.next s u):=by
 obtain⟨hl,hle⟩:=gH.1 hs;have hm:a.m=a.rooms.length+1:=hv.len;rcases mP (λi=>s.getD i 0=a.rooms.getD i 0) a.rooms.length with hf|⟨i,h1,h2,h3⟩
 ·have:=p9 hl hf;omega
 ·refine tF (upTo a.m (λj=>decide (j≤i))) (ups_of _ _) ?_;have hw:∀d j,j+d=i→(a.works s (upTo a.m (λj=>decide (j≤i)))).getD j false=true:=by
   intro d;induction d with
   |zero =>
    intro j hj;have hji:j=i:=by omega
    subst hji;rw[ez a s _ (by omega)];unfold can;rw[kh (by omega)];have hb:=hle j h1;have e2:decide (s.getD j 0<a.room j)=true:=decide_eq_true (by show s.getD j 0<a.rooms.getD j 0;omega);rw[e2];by_cases e0:j=0
    ·subst e0;simp
    ·have e3:=h3 (j-1) (by omega);have e4:=kQ hv (i:=j-1) (by omega);have e5:decide (0<s.getD (j-1) 0)=true:=decide_eq_true (by omega);rw[e5];simp
   |succ d ih =>
    intro j hj;have hn:=ih (j+1) (by omega);rw[ez a s _ (by omega),hn];unfold can;rw[kh (by omega)];have e1:decide (j≤i)=true:=decide_eq_true (by omega);rw[e1];by_cases e0:j=0
    ·subst e0;simp
    ·have e3:=h3 (j-1) (by omega);have e4:=kQ hv (i:=j-1) (by omega);have e5:decide (0<s.getD (j-1) 0)=true:=decide_eq_true (by omega);rw[e5];simp
  have hno:(a.works s (upTo a.m (λj=>decide (j≤i)))).getD (i+1) false=false:=kC (decide_eq_false (by omega));refine ox hs (cx hv hs _) h1 (λj hj=>?_) ?_
  ·rw[gU a s _ (by omega),hw (i-j) j (by omega),hw (i-(j+1)) (j+1) (by omega)];simp
  ·rw[gU a s _ h1,hw 0 i (by omega),hno];simp
theorem way_down{a:Abs}(hv:a0 a){s:List Nat}(hs:cu a.rooms s)(h:0<idx a.rooms s):∃u,u∈ups a.m∧idx a.rooms (a.next s u)<idx a.rooms s:=by
 obtain⟨hl,hle⟩:=gH.1 hs;have hm:a.m=a.rooms.length+1:=hv.len;rcases p7 (λi=>s.getD i 0=0) a.rooms.length with hf|⟨i,h1,h2,h3⟩
 ·have:=mH hf;omega
 ·refine tF (upTo a.m (λj=>decide (j=i+1))) (ups_of _ _) ?_;have hyes:(a.works s (upTo a.m (λj=>decide (j=i+1)))).getD (i+1) false=true:=by
   rw[ez a s _ (by omega)];unfold can;rw[kh (by omega)];have e1:decide (0<s.getD (i+1-1) 0)=true:=decide_eq_true (by rw[sX];omega);rw[e1];by_cases e:i+1+1=a.m
   ·simp[e]
   ·have z:=h3 (i+1) (by omega) (by omega);have r:=kQ hv (i:=i+1) (by omega);have e2:decide (s.getD (i+1) 0<a.room (i+1))=true:=decide_eq_true (by show s.getD (i+1) 0<a.rooms.getD (i+1) 0;omega);rw[e2];simp
  have hno:∀j,j≠i+1→(a.works s (upTo a.m (λj=>decide (j=i+1)))).getD j false=false:=λj hj=>kC (decide_eq_false hj);refine ox (i:=i) (cx hv hs _) hs h1 (λj hj=>?_) ?_
  ·rw[gU a s _ (by omega),hno j (by omega),hno (j+1) (by omega)];simp
  ·rw[gU a s _ h1,hyes,hno i (by omega),if_neg (by simp),if_pos rfl];omega
theorem fh{t:Rat}(h:0<t):∀n:Nat,0<t^n
 |0=>by rw[Rat.pow_zero];grind
 |n+1=>by rw[Rat.pow_succ];exact Rat.mul_pos (fh h n) h
theorem gR{t:Rat}(h:1≤t)(m:Nat):∀d:Nat,t^m≤t^(m+d)
 |0=>by rw[Nat.add_zero];grind
 |d+1=>by
  have h1:=gR h m d;have h2:=fh (show 0<t by grind) (m+d);rw[show m+(d+1)=(m+d)+1 by omega,Rat.pow_succ];have:=Rat.mul_nonneg (Rat.le_of_lt h2) (show 0≤t-1 by grind);grind
theorem drift{n:Nat}{p:Nat→Rat}{D:Rat}(hp:∀j,j<n→0≤p j)(hs:am n p=D)(hD:0≤D){r:Nat→Nat}{N i j0:Nat}(hr:r j0<r i)(hN:r i≤N)(hj0:j0<n)(h1:1≤p j0):0<am n (λj=>p j*((D+2)^(N-r j)-(D+2)^(N-r i))):=by
 have ht:(0:Rat)<D+2:=by grind
 have hq:=fh ht (N-r i);have e:am n (λj=>p j*((D+2)^(N-r j)-(D+2)^(N-r i)))=am n (λj=>p j*(D+2)^(N-r j))-(D+2)^(N-r i)*D:=by
  rw[←hs,←bN,←cw];exact aK (λj _=>by grind)
 have h2:am n (λj=>if j=j0 then (D+2)*(D+2)^(N-r i) else 0)≤am n (λj=>p j*(D+2)^(N-r j)):=by
  refine iW (λj hj=>?_);have hq':=fh ht (N-r j);by_cases ej:j=j0
  ·rw[if_pos ej];subst ej;have m:=gR (t:=D+2) (by grind) (N-r i+1) (N-r j-(N-r i+1));rw[show N-r i+1+(N-r j-(N-r i+1))=N-r j by omega,Rat.pow_succ]at m;have:=Rat.mul_nonneg (show 0≤p j-1 by grind) (Rat.le_of_lt hq');grind
  ·rw[if_neg ej];exact Rat.mul_nonneg (hp j hj) (Rat.le_of_lt hq')
 rw[bA hj0 (λj _ hne=>if_neg hne),if_pos rfl]at h2;rw[e];grind
def As(a:Abs)(j i:Nat):Int:=if j+1=vol a.rooms then 1 else if i=vol a.rooms then 0 else (P a i j:Int)-(if i=j then (10^a.m:Nat) else (0:Nat):Int)
theorem oj(a:Abs):lL a.matrix (vol a.rooms):=by
 have hn:a.states.length=vol a.rooms:=bu a.rooms;refine⟨?_,λi hi=>?_⟩
 ·unfold Abs.matrix;simp[hn]
 ·unfold Abs.matrix;dsimp only;rw[hn,cq _ _ hi,Array.size_map,Array.size_range]
theorem qT(a:Abs){i j:Nat}(hj:j<vol a.rooms)(hi:i<vol a.rooms+1):ent a.matrix j i=As a j i:=by
 have hn:a.states.length=vol a.rooms:=bu a.rooms;unfold ent Abs.matrix As;dsimp only;rw[hn,cq _ _ hj,cq _ _ hi];by_cases h1:j+1=vol a.rooms
 ·rw[if_pos h1,if_pos h1]
 ·rw[if_neg h1,if_neg h1];by_cases h2:i=vol a.rooms
  ·rw[if_pos h2,if_pos h2]
  ·rw[if_neg h2,if_neg h2];have hi':i<vol a.rooms:=by omega
   have e:(((a.states.map λs=>(a.row s).toArray).toArray).getD i #[]).getD j 0=P a i j:=by
    rw[←row_at a (i:=i) hj];have e1:((a.states.map λs=>(a.row s).toArray).toArray).getD i #[]=(a.row (St a.rooms i)).toArray:=by
     rw[Array.getD_eq_getD_getElem?,List.getElem?_toArray,r6];show(Option.map _ (states a.rooms)[i]?).getD #[]=_;rw[du hi'];rfl
    rw[e1,Array.getD_eq_getD_getElem?,List.getElem?_toArray,so]
   rw[e];by_cases h3:i=j
   ·rw[if_pos h3,if_pos h3];rfl
   ·rw[if_neg h3,if_neg h3];rfl
def Dq(a:Abs):Rat:=((10^a.m:Nat):Rat)
theorem bS(a:Abs):0≤Dq a:=Rat.natCast_nonneg
theorem up_As{a:Abs}{j i:Nat}(hj:j+1<vol a.rooms)(hi:i<vol a.rooms):up (As a) j i=(P a i j:Rat)-if i=j then Dq a else 0:=by
 unfold up As;rw[if_neg (by omega),if_neg (by omega),Rat.intCast_sub];by_cases h:i=j
 ·rw[if_pos h,if_pos h];rfl
 ·rw[if_neg h,if_neg h];rfl
theorem ig{a:Abs}{j i:Nat}(hj:j+1=vol a.rooms):up (As a) j i=1:=by
 unfold up As;rw[if_pos hj];rfl
theorem oR{a:Abs}{j:Nat}(hj:j+1<vol a.rooms):up (As a) j (vol a.rooms)=0:=by
 unfold up As;rw[if_neg (by omega),if_pos rfl];rfl
def wS(a:Abs)(j:Nat):Rat:=(Dq a+2)^vol a.rooms-(Dq a+2)^(vol a.rooms-(vol a.rooms-1-j))
theorem wS_pos{a:Abs}{j:Nat}(hj:j<vol a.rooms-1):0<wS a j:=by
 unfold wS;have ht:(0:Rat)<Dq a+2:=by have:=bS a;grind
 have h1:(1:Rat)≤Dq a+2:=by have:=bS a;grind
 have m:=gR h1 (vol a.rooms-(vol a.rooms-1-j)+1) (vol a.rooms-(vol a.rooms-(vol a.rooms-1-j)+1));rw[show vol a.rooms-(vol a.rooms-1-j)+1+(vol a.rooms-(vol a.rooms-(vol a.rooms-1-j)+1))=vol a.rooms by omega,Rat.pow_succ]at m;have hq:=fh ht (vol a.rooms-(vol a.rooms-1-j));have hD:=bS a;have:=Rat.mul_nonneg (Rat.le_of_lt hq) hD;grind
theorem eG(a:Abs)(i j:Nat):(0:Rat)≤(P a i j:Rat):=Rat.natCast_nonneg
theorem gh{n:Nat}(h:1≤n):(1:Rat)≤(n:Rat):=by
 have h1:=Rat.natCast_le_natCast.2 h;exact h1
theorem spec_Mm{a:Abs}(hv:a0 a):Mm (vol a.rooms-1) (wS a) (λj i=>-up (As a) j i) 0:=by
 refine⟨λj i _ hj _ hi hne=>?_,λi _ hi=>?_⟩
 ·show -up (As a) j i≤0;rw[up_As (by omega) (by omega),if_neg (λh=>hne h.symm)];have:=eG a i j;grind
 ·obtain⟨u,hu,hup⟩:=way_up hv (cX (l:=a.rooms) (i:=i) (by omega)) (by rw[bo (by omega)];omega);have hpos:=P_pos hv (i:=i) (by omega) hu;rw[bo (by omega)]at hup;have hlt:=eE (cx hv (cX (l:=a.rooms) (i:=i) (by omega)) u);generalize idx a.rooms (a.next (St a.rooms i) u)=j0 at hup hpos hlt;have d:=drift (n:=vol a.rooms) (p:=λj=>(P a i j:Rat)) (D:=Dq a) (λj _=>eG a i j) (P_sum hv (by omega)) (bS a)
   (r:=λj=>vol a.rooms-1-j) (N:=vol a.rooms) (i:=i) (j0:=j0) (by omega) (by omega) hlt (gh hpos)
  have e:col (vol a.rooms-1) (wS a) (G (λj i=>-up (As a) j i) 0) 0 i=am (vol a.rooms) (λj=>(P a i j:Rat)*((Dq a+2)^(vol a.rooms-(vol a.rooms-1-j))-(Dq a+2)^(vol a.rooms-(vol a.rooms-1-i)))):=by
   have e1:am (vol a.rooms) (λj=>(P a i j:Rat)*((Dq a+2)^(vol a.rooms-(vol a.rooms-1-j))-(Dq a+2)^(vol a.rooms-(vol a.rooms-1-i))))=wS a i*Dq a-am (vol a.rooms) (λj=>(P a i j:Rat)*wS a j):=by
    have hsum:=P_sum hv (i:=i) (by omega);show _=wS a i*((10^a.m:Nat):Rat)-_;rw[←hsum,←bN,←cw];refine aK (λj _=>?_);unfold wS;grind
   have e2:am (vol a.rooms) (λj=>(P a i j:Rat)*wS a j)=am (vol a.rooms-1) (λj=>(P a i j:Rat)*wS a j):=by
    rw[show vol a.rooms=(vol a.rooms-1)+1 by omega,am];have z:wS a (vol a.rooms-1)=0:=by
     unfold wS;rw[sJ,Nat.sub_zero];grind
    rw[show vol a.rooms-1+1-1=vol a.rooms-1 by omega,z];grind
   have e3:wS a i*Dq a=am (vol a.rooms-1) (λj=>if j=i then wS a j*Dq a else 0):=by
    rw[bA hi (λj _ hne=>if_neg hne),if_pos rfl]
   rw[e1,e2,e3,←cw];unfold col;refine aK (λj hj=>?_);rw[if_neg (by omega)];show wS a j * -up (As a) j i=_;rw[up_As (by omega) (by omega)];by_cases h:j=i
   ·rw[if_pos h,if_pos h.symm];grind
   ·rw[if_neg h,if_neg (λh2=>h h2.symm)];grind
  rw[e];exact d
theorem oZ{a:Abs}(hv:a0 a):Piv (up (As a)) (vol a.rooms):=by
 have hn:=bK a.rooms;have mm:=spec_Mm hv;have hw:∀j,j<vol a.rooms-1→0<wS a j:=λj hj=>wS_pos hj;have hneg:∀k,k<vol a.rooms-1→G (up (As a)) k k k<0:=λk hk=>by
  have:=mm.pivots hw k hk;rw[lO]at this;grind
 have hoff:∀k,k<vol a.rooms-1→∀j,k<j→j<vol a.rooms→0≤G (up (As a)) k k j:=by
  intro k hk j h1 h2;by_cases e:j=vol a.rooms-1
  ·have:=mm.column hw (c:=j) (-1) (λi hi=>by
    show 0≤-1 * -up (As a) i j;rw[up_As (by omega) h2,if_neg (by omega)];have:=eG a j i;grind) k (by omega) k (rL k) hk
   rw[lO]at this;grind
  ·have:=(mm.all hw k (by omega)).off k j (rL k) hk (by omega) (by omega) (by omega);rw[lO]at this;grind
 have hlast:∀k,k≤vol a.rooms-1→∀j,k≤j→j<vol a.rooms→1≤G (up (As a)) k (vol a.rooms-1) j:=by
  intro k;induction k with
  |zero =>
   intro _ j _ _;show 1≤up (As a) (vol a.rooms-1) j;rw[ig (by omega)];grind
  |succ k ih =>
   intro hk j h1 h2;have a1:=ih (by omega) j (by omega) h2;have a2:=ih (by omega) k (rL k) (by omega);have a3:=hneg k (by omega);have a4:=hoff k (by omega) j (by omega) h2;show 1≤G (up (As a)) k (vol a.rooms-1) j-G (up (As a)) k (vol a.rooms-1) k/G (up (As a)) k k k*G (up (As a)) k k j;have d:=eF (a:=G (up (As a)) k (vol a.rooms-1) k) (b:=-G (up (As a)) k k k) (by grind) (by grind);have e:=Rat.mul_nonneg d a4;have e2:G (up (As a)) k (vol a.rooms-1) k/G (up (As a)) k k k*G (up (As a)) k k j = -(G (up (As a)) k (vol a.rooms-1) k / -G (up (As a)) k k k*G (up (As a)) k k j):=by grind
   grind
 intro k hk;by_cases e:k=vol a.rooms-1
 ·have:=hlast k (by omega) k (rL k) hk;rw[←e]at this;grind
 ·have:=hneg k (by omega);grind
theorem lW{a:Abs}(hv:a0 a){y:Nat→Rat}(h:∀j,1≤j→j<vol a.rooms→am (vol a.rooms) (λi=>y i*(P a i j:Rat))=Dq a*y j):∀j,j<vol a.rooms→am (vol a.rooms) (λi=>y i*(P a i j:Rat))=Dq a*y j:=by
 have hn:=bK a.rooms;have tot:am (vol a.rooms) (λj=>am (vol a.rooms) (λi=>y i*(P a i j:Rat)))=am (vol a.rooms) (λj=>Dq a*y j):=by
  rw[kI (λj i=>y i*(P a i j:Rat))];refine aK (λi hi=>?_);rw[bN,P_sum hv hi];show y i*Dq a=_;grind
 obtain⟨n,hn'⟩:∃n,vol a.rooms=n+1:=⟨vol a.rooms-1,by omega⟩
 rw[hn']at tot h ⊢;rw[dP,dP (λj=>Dq a*y j)]at tot;rw[aK (n:=n) (g:=λj=>Dq a*y (j+1)) (λj hj=>h (j+1) (by omega) (by omega))]at tot;intro j hj;by_cases e:j=0
 ·subst e;grind
 ·exact h j (by omega) hj
theorem spec_res{a:Abs}{y:Nat→Rat}:(∀i,i<vol a.rooms→res (vol a.rooms) y (up (As a) i)=0) ↔
  (∀j,j+1<vol a.rooms→am (vol a.rooms) (λi=>y i*(P a i j:Rat))=Dq a*y j)∧am (vol a.rooms) y=1:=by
 have hn:=bK a.rooms;have e1:∀j,j+1<vol a.rooms→res (vol a.rooms) y (up (As a) j)=am (vol a.rooms) (λi=>y i*(P a i j:Rat))-Dq a*y j:=by
  intro j hj;unfold res;rw[oR hj];have s:Dq a*y j=am (vol a.rooms) (λi=>if i=j then Dq a*y i else 0):=by
   rw[bA (k:=j) (by omega) (λi _ hne=>if_neg hne),if_pos rfl]
  rw[s,←cw];rw[aK (g:=λi=>y i*(P a i j:Rat)-if i=j then Dq a*y i else 0) (λi hi=>by
   rw[up_As hj hi];by_cases h:i=j
   ·rw[if_pos h,if_pos h];grind
   ·rw[if_neg h,if_neg h];grind)]
  grind
 have e2:∀j,j+1=vol a.rooms→res (vol a.rooms) y (up (As a) j)=am (vol a.rooms) y-1:=by
  intro j hj;unfold res;rw[ig hj];rw[aK (g:=y) (λi _=>by rw[ig hj];grind)]
 constructor
 ·intro h;refine⟨λj hj=>?_,?_⟩
  ·have:=h j (by omega);rw[e1 j hj]at this;grind
  ·have:=h (vol a.rooms-1) (by omega);rw[e2 _ (by omega)]at this;grind
 ·rintro ⟨h1,h2⟩ i hi;by_cases e:i+1=vol a.rooms
  ·rw[e2 i e,h2];grind
  ·rw[e1 i (by omega),h1 i (by omega)];grind
theorem long_spec{a:Abs}(hv:a0 a):∃x:Nat→Rat,a.long=(rn (vol a.rooms)).map (λj=>cJ (x j)) ∧
  ∀y:Nat→Rat,(∀j,1≤j→j<vol a.rooms→am (vol a.rooms) (λi=>y i*(P a i j:Rat))=Dq a*y j)→am (vol a.rooms) y=1→∀i,i<vol a.rooms→x i=y i:=by
 obtain⟨x,h1,h2⟩:=solved (bK a.rooms) (oZ hv) (oj a) (λj i hj hi=>qT a hj hi);refine tF x h1 (λy hy hs=>?_);refine qD (oZ hv) h2 (spec_res.2 ⟨λj hj=>?_,hs⟩);exact lW hv hy j (by omega)
def bL:Nat→(Nat→Int)→Int
 |0,_=>0
 |n+1,f=>bL n f+f n
theorem d9(f:Nat→Int):∀n,((bL n f:Int):Rat)=am n (λi=>(f i:Rat))
 |0=>rfl
 |n+1=>by
  show((bL n f+f n:Int):Rat)=_;rw[Rat.intCast_add,d9 f n];rfl
theorem dB{f g:Nat→Int}:∀{n:Nat},(∀i,i<n→f i=g i)→bL n f=bL n g
 |0,_=>rfl
 |n+1,h=>by
  unfold bL;rw[dB (n:=n) (λi hi=>h i (by omega)),h n (by omega)]
theorem js(f:Nat→Int):∀n,((rn n).map f).sum=bL n f
 |0=>rfl
 |n+1=>by
  rw[sP,sQ,List.sum_append,js f n];simp[bL]
structure Bal(a:Abs)(S:Nat→Int)(T:Nat):Prop where
 pos:0<T
 tot:bL (vol a.rooms) S=(T:Int)
 bal:∀j,1≤j→j<vol a.rooms→bL (vol a.rooms) (λi=>S i*(P a i j:Int))=(10^a.m:Nat)*S j
theorem p5{a:Abs}(hv:a0 a){S:Nat→Int}{T:Nat}(h:Bal a S T):a.long=(rn (vol a.rooms)).map λi=>cJ ((S i:Rat)/(T:Rat)):=by
 obtain⟨x,h1,h2⟩:=long_spec hv;have hT:=bO h.pos;have tot:am (vol a.rooms) (λi=>(S i:Rat))=(T:Rat):=by
  rw[←d9,h.tot];exact Rat.intCast_natCast T
 have hx:=h2 (λi=>(S i:Rat)/(T:Rat)) (λj h3 h4=>by
  have b:=congrArg (λz:Int=>(z:Rat)) (h.bal j h3 h4);rw[d9,Rat.intCast_mul]at b;have e1:am (vol a.rooms) (λi=>(S i:Rat)/(T:Rat)*(P a i j:Rat))=1/(T:Rat)*am (vol a.rooms) (λi=>((S i*(P a i j:Int):Int):Rat)):=by
   rw[←bN];refine aK (λi _=>?_);rw[Rat.intCast_mul,Rat.intCast_natCast];grind
  rw[e1,b,Rat.intCast_natCast];show 1/(T:Rat)*(Dq a*(S j:Rat))=_;grind) (by
  have e1:am (vol a.rooms) (λi=>(S i:Rat)/(T:Rat))=1/(T:Rat)*am (vol a.rooms) (λi=>(S i:Rat)):=by
   rw[←bN];exact aK (λi _=>by grind)
  rw[e1,tot];grind)
 rw[h1];refine sS (λi hi=>?_);rw[hx i (rp.1 hi)]
theorem ni(l:List Nat):states l=(rn (vol l)).map (St l):=by
 apply sY;intro i;rw[r6];by_cases h:i<vol l
 ·rw[du h,sR h];rfl
 ·rw[su (by rw[bu];omega),su (by rw[sO];omega)];rfl
theorem zip_map{α β:Type}(f:Nat→α)(g:Nat→β)(l:List Nat):(l.map f).zip (l.map g)=l.map λi=>(f i,g i):=by
 induction l with
 |nil=>rfl
 |cons x l ih=>rw[rQ,rQ,rQ,List.zip_cons_cons,ih]
theorem im{a:Abs}(hv:a0 a){S:Nat→Int}{T:Nat}(h:Bal a S T)(F:List Nat×Fr→Fr)(c:Nat→Int){d:Nat}(hd:0<d)(hF:∀i,i<vol a.rooms→F (St a.rooms i,cJ ((S i:Rat)/(T:Rat)))=cJ ((S i:Rat)/(T:Rat)*(c i:Rat)/(d:Rat))):((a.states.zip a.long).map F).foldl plus (0,1)=low (bL (vol a.rooms) λi=>S i*c i) (T*d):=by
 have e:(a.states.zip a.long).map F=(rn (vol a.rooms)).map λi=>cJ ((S i:Rat)/(T:Rat)*(c i:Rat)/(d:Rat)):=by
  show((states a.rooms).zip a.long).map F=_;rw[p5 hv h,ni,zip_map,sN];exact sS (λi hi=>hF i (rp.1 hi))
 rw[e,j3 _ (λf hf=>by
  obtain⟨j,_,rfl⟩:=sv.1 hf;exact dO _),sN,gs _ (Nat.mul_pos h.pos hd)]
 congr 1;have e2:(val ∘ λi=>cJ ((S i:Rat)/(T:Rat)*(c i:Rat)/(d:Rat)))=λi=>(S i:Rat)/(T:Rat)*(c i:Rat)/(d:Rat):=by
  funext i;exact dN _
 rw[e2,ij,d9,Rat.natCast_mul];have hT:=bO h.pos;have hD:=bO hd;have e3:am (vol a.rooms) (λi=>(S i:Rat)/(T:Rat)*(c i:Rat)/(d:Rat))=1/((T:Rat)*(d:Rat))*am (vol a.rooms) (λi=>((S i*c i:Int):Rat)):=by
  rw[←bN];refine aK (λi _=>?_);rw[Rat.intCast_mul];grind
 rw[e3];grind
def hap(a:Abs)(f:List Nat→List Nat→Bool)(i:Nat):Nat:=(((ups a.m).filter λu=>f (St a.rooms i) u).map a.weight).sum
theorem fz(m:Nat):0<10^m:=Nat.pow_pos (by omega)
theorem often_bal{a:Abs}(hv:a0 a){S:Nat→Int}{T:Nat}(h:Bal a S T)(f:List Nat→List Nat→Bool):a.often f=low (bL (vol a.rooms) λi=>S i*(hap a f i:Int)) (T*10^a.m):=by
 unfold Abs.often;refine im hv h _ (λi=>(hap a f i:Int)) (fz a.m) (λi _=>?_);dsimp only;rw[kE (dO _) _ (fz a.m),dN];rfl
theorem mean_bal{a:Abs}(hv:a0 a){S:Nat→Int}{T:Nat}(h:Bal a S T)(r:Nat):a.mean r=low (bL (vol a.rooms) λi=>S i*((St a.rooms i).getD r 0:Int)) (T*1):=by
 unfold Abs.mean;refine im hv h _ (λi=>((St a.rooms i).getD r 0:Int)) (by omega) (λi _=>?_);dsimp only;rw[kE (dO _) _ (by omega),dN];rfl
theorem some_bal{a:Abs}(hv:a0 a){S:Nat→Int}{T:Nat}(h:Bal a S T)(p:List Nat→Prop)[DecidablePred p]:((a.states.zip a.long).map λx=>if p x.1 then x.2 else (0,1)).foldl plus (0,1)=low (bL (vol a.rooms) λi=>S i*(if p (St a.rooms i) then 1 else 0)) (T*1):=by
 refine im hv h _ (λi=>if p (St a.rooms i) then 1 else 0) (by omega) (λi _=>?_);dsimp only;have e1:((1:Nat):Rat)=1:=rfl;by_cases hp:p (St a.rooms i)
 ·rw[if_pos hp,if_pos hp,e1];congr 1;have:((1:Int):Rat)=1:=rfl;rw[this];grind
 ·rw[if_neg hp,if_neg hp,e1,←l9];congr 1;have:((0:Int):Rat)=0:=rfl;rw[this];grind
theorem idxOf_eq{l s:List Nat}(h:cu l s):(states l).idxOf s=idx l s:=by
 have hm:s∈states l:=r8 (il h);have hlt:(states l).idxOf s<(states l).length:=List.idxOf_lt_length_of_mem hm;have hg:(states l)[(states l).idxOf s]?=some s:=by
  rw[sG hlt];exact congrArg some (List.getElem_idxOf hlt)
 have h1:St l ((states l).idxOf s)=s:=by
  have:=du (l:=l) (i:=(states l).idxOf s) (by rw[←bu];exact hlt);rw[hg]at this;exact(Option.some.inj this).symm
 have h2:=bo (l:=l) (i:=(states l).idxOf s) (by rw[←bu];exact hlt);rw[h1]at h2;exact h2.symm
theorem share_bal{a:Abs}(hv:a0 a){S:Nat→Int}{T:Nat}(h:Bal a S T){s:List Nat}(hs:cu a.rooms s):a.long.getD (a.states.idxOf s) (0,1)=low (S (idx a.rooms s)) T:=by
 show a.long.getD ((states a.rooms).idxOf s) (0,1)=_;rw[idxOf_eq hs,p5 hv h,cj _ _ (eE hs),gs _ h.pos]
end Lr
end
section
namespace Lr
def Ab(x b:Rat):Prop:=-b≤x∧x≤b
theorem Ab.mul{x y b c:Rat}(h:Ab x b)(k:Ab y c):Ab (x*y) (b*c):=by
 have e1:=Rat.mul_nonneg (show 0≤b-x by have:=h.2;grind) (show 0≤c-y by have:=k.2;grind);have e2:=Rat.mul_nonneg (show 0≤b+x by have:=h.1;grind) (show 0≤c+y by have:=k.1;grind);have e3:=Rat.mul_nonneg (show 0≤b-x by have:=h.2;grind) (show 0≤c+y by have:=k.1;grind);have e4:=Rat.mul_nonneg (show 0≤b+x by have:=h.1;grind) (show 0≤c-y by have:=k.2;grind);constructor<;>grind
theorem Ab.sub{x y b c:Rat}(h:Ab x b)(k:Ab y c):Ab (x-y) (b+c):=by
 have h1:=h.1;have h2:=h.2;have k1:=k.1;have k2:=k.2;constructor<;>grind
theorem Ab.neg{x b:Rat}(h:Ab x b):Ab (-x) b:=by
 have h1:=h.1;have h2:=h.2;constructor<;>grind
theorem Ab.mono{x b c:Rat}(h:Ab x b)(k:b≤c):Ab x c:=by
 have h1:=h.1;have h2:=h.2;constructor<;>grind
theorem Ab.lap{v:Nat→Rat}{M F:Rat}(hM:0≤M)(hF:0≤F)(hv:∀c,Ab (v c) M):∀(cs:List Nat) (f:List Nat→Rat),(∀s,s.length+1=cs.length→Ab (f s) F)→Ab (lap v f cs) ((cs.length:Rat)*(M*F))
 |[],f,_=>by
  show Ab 0 _;have:(0:Rat)≤(([]:List Nat).length:Rat)*(M*F):=Rat.mul_nonneg Rat.natCast_nonneg (Rat.mul_nonneg hM hF);constructor<;>grind
 |c::cs,f,h=>by
  rw[Lr.lap];have e1:=(hv c).mul (h cs (by simp));have e2:=Ab.lap hM hF hv cs (λt=>f (c::t)) (λs hs=>h (c::s) (by simp[hs]));refine(e1.sub e2).mono ?_;rw[rP,Rat.natCast_add];have:((1:Nat):Rat)=1:=rfl;rw[this];grind
theorem Ab.minor{M L:Rat}(hM:0≤M)(hL:0≤L):∀(rows:List (Nat→Rat)),(∀r,r∈rows→∀c,Ab (r c) M)→∀cs:List Nat,(cs.length:Rat)≤L→Ab (minor rows cs) ((L*M)^rows.length)
 |[],_,_,_=>by
  show Ab 1 _;rw[sx,Rat.pow_zero];constructor<;>grind
 |r::rows,h,cs,hcs=>by
  rw[Lr.minor,rP,Rat.pow_succ];have hLM:=Rat.mul_nonneg hL hM;have hp:0≤(L*M)^rows.length:=Rat.pow_nonneg hLM;have:=Ab.lap hM hp (h r (by simp)) cs (Lr.minor rows) (λs hs=>Ab.minor hM hL rows (λq hq=>h q (by simp[hq])) s (by
   have:(s.length:Rat)≤(cs.length:Rat):=Rat.natCast_le_natCast.2 (by omega);grind))
  refine this.mono ?_;have:=Rat.mul_nonneg (show 0≤L-(cs.length:Rat) by grind) (Rat.mul_nonneg hM hp);grind
theorem gC(A:Nat→Nat→Rat):∀k,(eM A k).length=k
 |0=>rfl
 |k+1=>by rw[eM,rP,gC A k]
theorem Ab.of_sign{x y b:Rat}(h:Ab y b)(e:x=y∨x = -y):Ab x b:=by
 rcases e with e|e
 ·rw[e];exact h
 ·rw[e];exact h.neg
theorem pr_G_ab{A:Nat→Nat→Rat}{M:Rat}(hM:0≤M)(hA:∀i j,Ab (A i j) M){k:Nat}(hp:Piv A k){i:Nat}(j:Nat)(hi:k≤i){L:Nat}(hk:k<L):Ab (pr A k*G A k i j) (((L:Rat)*M)^(k+1)):=by
 have h:=Ab.minor (L:=(L:Rat)) hM Rat.natCast_nonneg (A i::eM A k) (λr hr c=>by
  rcases rC.1 hr with hr|hr
  ·rw[hr];exact hA i c
  ·obtain⟨l,_,e⟩:=ji A hr;rw[e];exact hA l c) (rn k++[j]) (Rat.natCast_le_natCast.2 (by rw[r9,sO];exact hk))
 rw[rP,gC,oi hp j hi]at h;refine h.of_sign ?_;have h1:=gj k;have h2:=gp hp;grind
theorem cramer_ab{A:Nat→Nat→Rat}{M:Rat}(hM:0≤M)(hA:∀i j,Ab (A i j) M){n:Nat}(hp:Piv A n){x:Nat→Rat}(hx:∀i,i<n→res n x (A i)=0){p:Nat}(h:p<n):Ab (pr A n*x p) (((n:Rat)*M)^n):=by
 have hpt:Piv (λa b=>A b a) n:=λl hl=>by rw[iM];exact hp l hl
 obtain⟨l1,l2,e1,e2,e3⟩:=iI (λa b=>A b a) h;have hlen:(l1++l2).length+1=n:=by
  have:=congrArg List.length e1;rw[gC,r9,rP]at this;rw[r9];omega
 have hint:Ab (minor ((λc=>A c n)::(l1++l2)) (rn n)) (((n:Rat)*M)^((λc=>A c n)::(l1++l2)).length):=by
  refine Ab.minor hM Rat.natCast_nonneg _ (λr hr c=>?_) _ (by rw[sO];grind);rcases rC.1 hr with hr|hr
  ·rw[hr];exact hA c n
  ·obtain⟨q,_,e⟩:=e3 r hr;rw[e];exact hA c q
 rw[rP,hlen]at hint;have hval:minor ((λc=>A c n)::(l1++l2)) (rn n)=x p*minor ((λc=>A c p)::(l1++l2)) (rn n):=by
  rw[minor,minor];rw[gY (w:=λc=>am n (λq=>A c q*x q)) _ _ (λc hc=>by
   have:=hx c (rp.1 hc);unfold res at this;grind)]
  rw[oo x (λq c=>A c q),bA h (λq hq hne=>by
   rw[gW _ (e2 q hq hne)];grind)]
  grind
 have hm:=gp hpt;rw[e1,nI]at hm;have hfront:=gq (λc=>A c p) l2 l1;refine hint.of_sign ?_;rw[hval];rcases hfront with hf|hf
 ·have:=hf (rn n);grind
 ·have:=hf (rn n);grind
end Lr
end
section
namespace Lr
open Su111
def Ap(a:Abs)(i j:Nat):Int:=if j+1=vol a.rooms then (P a 0 (i+1):Int) else (if i=j then (10^a.m:Nat) else (0:Nat):Int)-(P a (j+1) (i+1):Int)
theorem up_Ap{a:Abs}{i j:Nat}(hj:j+1<vol a.rooms):up (Ap a) i j=(if i=j then Dq a else 0)-(P a (j+1) (i+1):Rat):=by
 unfold up Ap;rw[if_neg (by omega),Rat.intCast_sub];by_cases h:i=j
 ·rw[if_pos h,if_pos h];rfl
 ·rw[if_neg h,if_neg h];rfl
theorem jP{a:Abs}{i j:Nat}(hj:j+1=vol a.rooms):up (Ap a) i j=(P a 0 (i+1):Rat):=by
 unfold up Ap;rw[if_pos hj];rfl
def wP(a:Abs)(j:Nat):Rat:=(Dq a+2)^vol a.rooms-(Dq a+2)^(vol a.rooms-j)
theorem wP_pos{a:Abs}{j:Nat}(h0:0<j)(hj:j≤vol a.rooms):0<wP a j:=by
 unfold wP;have ht:(0:Rat)<Dq a+2:=by have:=bS a;grind
 have h1:(1:Rat)≤Dq a+2:=by have:=bS a;grind
 have m:=gR h1 (vol a.rooms-j+1) (j-1);rw[show vol a.rooms-j+1+(j-1)=vol a.rooms by omega,Rat.pow_succ]at m;have hq:=fh ht (vol a.rooms-j);have hD:=bS a;have:=Rat.mul_nonneg (Rat.le_of_lt hq) hD;grind
theorem prog_Mm{a:Abs}(hv:a0 a):Mm (vol a.rooms-1) (λj=>wP a (j+1)) (up (Ap a)) 0:=by
 have hn:=bK a.rooms;refine⟨λi j _ hi _ hj hne=>?_,λj _ hj=>?_⟩
 ·show up (Ap a) i j≤0;rw[up_Ap (by omega),if_neg hne];have:=eG a (j+1) (i+1);grind
 ·obtain⟨u,hu,hdn⟩:=way_down hv (cX (l:=a.rooms) (i:=j+1) (by omega)) (by rw[bo (by omega)];omega);have hpos:=P_pos hv (i:=j+1) (by omega) hu;rw[bo (by omega)]at hdn;have hlt:=eE (cx hv (cX (l:=a.rooms) (i:=j+1) (by omega)) u);generalize idx a.rooms (a.next (St a.rooms (j+1)) u)=j0 at hdn hpos hlt;have d:=drift (n:=vol a.rooms) (p:=λt=>(P a (j+1) t:Rat)) (D:=Dq a) (λt _=>eG a (j+1) t) (P_sum hv (by omega)) (bS a)
   (r:=λt=>t) (N:=vol a.rooms) (i:=j+1) (j0:=j0) hdn (by omega) hlt (gh hpos)
  have e:col (vol a.rooms-1) (λj=>wP a (j+1)) (G (up (Ap a)) 0) 0 j=am (vol a.rooms) (λt=>(P a (j+1) t:Rat)*((Dq a+2)^(vol a.rooms-t)-(Dq a+2)^(vol a.rooms-(j+1)))):=by
   have e1:am (vol a.rooms) (λt=>(P a (j+1) t:Rat)*((Dq a+2)^(vol a.rooms-t)-(Dq a+2)^(vol a.rooms-(j+1))))=wP a (j+1)*Dq a-am (vol a.rooms) (λt=>(P a (j+1) t:Rat)*wP a t):=by
    have hsum:=P_sum hv (i:=j+1) (by omega);show _=wP a (j+1)*((10^a.m:Nat):Rat)-_;rw[←hsum,←bN,←cw];refine aK (λt _=>?_);unfold wP;grind
   have z:wP a 0=0:=by
    unfold wP;rw[Nat.sub_zero];grind
   have e2:am (vol a.rooms) (λt=>(P a (j+1) t:Rat)*wP a t)=am (vol a.rooms-1) (λi=>(P a (j+1) (i+1):Rat)*wP a (i+1)):=by
    obtain⟨n,hn'⟩:∃n,vol a.rooms=n+1:=⟨vol a.rooms-1,by omega⟩
    rw[hn',dP,sX,z];grind
   have e3:wP a (j+1)*Dq a=am (vol a.rooms-1) (λi=>if i=j then wP a (i+1)*Dq a else 0):=by
    rw[bA hj (λi _ hne=>if_neg hne),if_pos rfl]
   rw[e1,e2,e3,←cw];unfold col;refine aK (λi hi=>?_);rw[if_neg (by omega)];show wP a (i+1)*up (Ap a) i j=_;rw[up_Ap (by omega)];by_cases h:i=j
   ·rw[if_pos h,if_pos h];grind
   ·rw[if_neg h,if_neg h];grind
  rw[e];exact d
theorem prog_w{a:Abs}:∀j,j<vol a.rooms-1→0<wP a (j+1):=λj hj=>wP_pos (by omega) (by omega)
theorem dQ{a:Abs}(hv:a0 a):∀k,k<vol a.rooms-1→0<G (up (Ap a)) k k k:=(prog_Mm hv).pivots prog_w
theorem i7{a:Abs}(hv:a0 a):Piv (up (Ap a)) (vol a.rooms-1):=λk hk=>by
 have:=dQ hv k hk;grind
theorem rb{A:Nat→Nat→Rat}{n:Nat}(hp:Piv A n):∃x:Nat→Rat,∀i,i<n→res n x (A i)=0:=by
 have main:∀d k,k+d=n→∃x:Nat→Rat,∀i,k≤i→i<n→G A i i i*x i+tail n i (G A i i) x-G A i i n=0:=by
  intro d;induction d with
  |zero=>exact λk hk=>⟨λ_=>0,λi h1 h2=>by omega⟩
  |succ d ih =>
   intro k hk;obtain⟨x,hx⟩:=ih (k+1) (by omega);have hpk:=hp k (by omega);let y:Nat→Rat:=λj=>if j=k then (G A k k n-tail n k (G A k k) x)/G A k k k else x j
   have hgt:∀i,k≤i→tail n i (G A i i) y=tail n i (G A i i) x:=λi hi=>ii (λj h1 _=>if_neg (by omega));refine⟨y,λi h1 h2=>?_⟩;rw[hgt i h1];by_cases e:i=k
   ·subst e;rw[show y i=(G A i i n-tail n i (G A i i) x)/G A i i i from if_pos rfl];grind
   ·rw[show y i=x i from if_neg e];exact hx i (by omega) h2
 obtain⟨x,hx⟩:=main n 0 (by omega);exact⟨x,gN.2 (λk hk=>by
  rw[i5 hk (λl hl=>hp l (by omega))];exact hx k (by omega) hk)⟩
theorem P_le{a:Abs}(hv:a0 a)(i j:Nat):P a i j≤10^a.m:=by
 rw[show(10^a.m:Nat)=((ups a.m).map (wt a.chances)).sum from(ic hv.chance).symm];unfold P;have:∀l:List (List Nat),(∀u,u∈l→u.length=a.m)→(l.map λu=>if a.next (St a.rooms i) u=St a.rooms j then a.weight u else 0).sum≤(l.map (wt a.chances)).sum:=by
  intro l hl;induction l with
  |nil=>exact rL _
  |cons u l ih =>
   have h1:=ih (λv hv=>hl v (by simp[hv]));have h2:=d8 a (hl u (by simp));rw[rQ,rQ,sW,sW];split<;>omega
 exact this _ (λu hu=>dg hu)
theorem Ap_ab{a:Abs}(hv:a0 a)(i j:Nat):Ab (up (Ap a) i j) (Dq a):=by
 have h1:∀i j,(P a i j:Rat)≤Dq a:=λi j=>Rat.natCast_le_natCast.2 (P_le hv i j);have h2:=eG a;have hD:=bS a;unfold up Ap;by_cases h:j+1=vol a.rooms
 ·rw[if_pos h,Rat.intCast_natCast];have b1:=h1 0 (i+1);have b2:=h2 0 (i+1);constructor<;>grind
 ·rw[if_neg h,Rat.intCast_sub,Rat.intCast_natCast];have b1:=h1 (j+1) (i+1);have b2:=h2 (j+1) (i+1);by_cases e:i=j
  ·rw[if_pos e];show Ab (Dq a-_) _;constructor<;>grind
  ·rw[if_neg e];have z:(((0:Nat):Int):Rat)=0:=rfl;rw[z];constructor<;>grind
def big(a:Abs):Nat:=(vol a.rooms*10^a.m)^vol a.rooms
theorem jY(b:Nat):∀k:Nat,((b^k:Nat):Rat)=(b:Rat)^k
 |0=>by rw[Nat.pow_zero,Rat.pow_zero];rfl
 |k+1=>by rw[Nat.pow_succ,Rat.pow_succ,Rat.natCast_mul,jY b k]
theorem big_ab{a:Abs}{x:Rat}{L k:Nat}(hL:L≤vol a.rooms)(hk:k≤vol a.rooms)(h:Ab x (((L:Rat)*Dq a)^k)):Ab x (big a:Rat):=by
 refine h.mono ?_;have e:((L:Rat)*Dq a)^k=(((L*10^a.m)^k:Nat):Rat):=by
  rw[jY,Rat.natCast_mul];rfl
 rw[e];refine Rat.natCast_le_natCast.2 ?_;have h1:L*10^a.m≤vol a.rooms*10^a.m:=sU _ hL;have h2:1≤vol a.rooms*10^a.m:=Nat.mul_pos (bK a.rooms) (fz a.m);exact rq (Nat.pow_le_pow_left h1 k) (sZ h2 hk)
theorem Ab.int{z:Int}{b:Nat}(h:Ab (z:Rat) (b:Rat)):z.natAbs≤b:=by
 have h1:(((-(b:Int)):Int):Rat)≤(z:Rat):=by
  rw[Rat.intCast_neg,Rat.intCast_natCast];exact h.1
 have h2:(z:Rat)≤(((b:Int)):Rat):=by
  rw[Rat.intCast_natCast];exact h.2
 have g1:=Rat.intCast_le_intCast.1 h1;have g2:=Rat.intCast_le_intCast.1 h2;omega
structure lP(a:Abs)(d:Int)(Z:Nat→Int):Prop where
 below:(d:Rat)=pr (up (Ap a)) (vol a.rooms-1)
 pos:0<d
 nonneg:∀q,q<vol a.rooms-1→0≤Z q
 back:∀p,p<vol a.rooms-1→∀U:Nat→Int,(∀j,j<vol a.rooms→(U j:Rat)=pr (up (Ap a)) p*G (up (Ap a)) p p j) →
  d*U (vol a.rooms-1)-bL (vol a.rooms-1-(p+1)) (λj=>U (p+1+j)*Z (p+1+j))=U p*Z p
 leD:d.natAbs≤big a
 leZ:∀q,q<vol a.rooms-1→(Z q).natAbs≤big a
 bal:Bal a (λi=>if i=0 then d else Z (i-1)) (d+bL (vol a.rooms-1) Z).toNat
theorem kG(f:Nat→Int):∀n,bL (n+1) f=f 0+bL n (λi=>f (i+1))
 |0=>by simp[bL]
 |n+1=>by
  rw[bL,kG f n,bL];omega
theorem eO{f:Nat→Int}:∀{n:Nat},(∀i,i<n→0≤f i)→0≤bL n f
 |0,_=>by unfold bL;omega
 |n+1,h=>by
  unfold bL;have:=eO (n:=n) (λi hi=>h i (by omega));have:=h n (by omega);omega
theorem found{a:Abs}(hv:a0 a):∃d Z,lP a d Z:=by
 have hn:=bK a.rooms;have hp:=i7 hv;obtain⟨x,hx⟩:=rb hp;obtain⟨d,hd⟩:=pr_int (ng (Ap a)) hp;have hprpos:0<pr (up (Ap a)) (vol a.rooms-1):=nJ (dQ hv);have hex:∀q,∃z:Int,q<vol a.rooms-1→pr (up (Ap a)) (vol a.rooms-1)*x q=(z:Rat):=λq=>by
  by_cases hq:q<vol a.rooms-1
  ·obtain⟨z,hz⟩:=cramer (ng (Ap a)) hp hx hq;exact⟨z,λ_=>hz⟩
  ·exact⟨0,λh=>absurd h hq⟩
 obtain⟨Z,hZ⟩:=Classical.axiomOfChoice hex;have hxn:=(prog_Mm hv).nonneg prog_w (λi hi=>by
  rw[jP (by omega)];exact eG a 0 (i+1)) hx
 have hdpos:0<d:=by
  rw[hd]at hprpos;exact Rat.intCast_pos.1 hprpos
 have hZn:∀q,q<vol a.rooms-1→0≤Z q:=λq hq=>by
  have h1:=hZ q hq;have h2:=Rat.mul_nonneg (Rat.le_of_lt hprpos) (hxn q hq);rw[h1]at h2;exact Rat.intCast_nonneg.1 h2
 have hleD:d.natAbs≤big a:=by
  refine Ab.int ?_;rw[←hd];by_cases e:vol a.rooms-1=0
  ·rw[e];show Ab 1 _;have:(1:Rat)≤(big a:Rat):=gh (Nat.pow_pos (Nat.mul_pos (bK a.rooms) (fz a.m)));constructor<;>grind
  ·have h:=pr_G_ab (bS a) (Ap_ab hv) (k:=vol a.rooms-1-1) (λl hl=>hp l (by omega)) (i:=vol a.rooms-1-1) (vol a.rooms-1-1) (rL _) (L:=vol a.rooms) (by omega);have h2:=big_ab (rL _) (by omega) h;rw[show pr (up (Ap a)) (vol a.rooms-1)=pr (up (Ap a)) (vol a.rooms-1-1+1) by rw[show vol a.rooms-1-1+1=vol a.rooms-1 by omega]];exact h2
 have hleZ:∀q,q<vol a.rooms-1→(Z q).natAbs≤big a:=λq hq=>by
  refine Ab.int ?_;rw[←hZ q hq];exact big_ab (by omega) (by omega) (cramer_ab (bS a) (Ap_ab hv) hp hx hq)
 refine tU d Z ⟨hd.symm,hdpos,hZn,λp hq U hU=>?_,hleD,hleZ,?_⟩
 ·apply dW;have t:=(gN.1 hx) p hq;rw[i5 hq (λl hl=>hp l (by omega))]at t;rw[Rat.intCast_sub,Rat.intCast_mul,Rat.intCast_mul,d9,←hd,hU _ (by omega),hU p (by omega),←hZ p hq];have e:am (vol a.rooms-1-(p+1)) (λj=>((U (p+1+j)*Z (p+1+j):Int):Rat))=pr (up (Ap a)) p*pr (up (Ap a)) (vol a.rooms-1)*tail (vol a.rooms-1) p (G (up (Ap a)) p p) x:=by
   unfold tail;rw[←bN];refine aK (λj hj=>?_);rw[Rat.intCast_mul,hU _ (by omega),←hZ _ (by omega)];grind
  rw[e];have t2:G (up (Ap a)) p p (vol a.rooms-1)=G (up (Ap a)) p p p*x p+tail (vol a.rooms-1) p (G (up (Ap a)) p p) x:=by grind
  rw[t2];grind
 ·have hsum:0≤bL (vol a.rooms-1) Z:=eO hZn;obtain⟨n,hn'⟩:∃n,vol a.rooms=n+1:=⟨vol a.rooms-1,by omega⟩
  have hsz:vol a.rooms-1=n:=by omega
  refine⟨by omega,?_,λj h1 h2=>?_⟩
  ·rw[hn',kG,if_pos rfl,sX,dB (n:=n) (g:=Z) (λi _=>by rw[if_neg (by omega),sX])];rw[hsz]at hsum;omega
  ·obtain⟨i,rfl⟩:∃i,j=i+1:=⟨j-1,by omega⟩
   rw[if_neg (by omega),sX];have r:=hx i (by omega);unfold res at r;rw[jP (by omega),hsz]at r;have es:am n (λj=>up (Ap a) i j*x j)=Dq a*x i-am n (λj=>(P a (j+1) (i+1):Rat)*x j):=by
    have s:Dq a*x i=am n (λj=>if j=i then Dq a*x j else 0):=by
     rw[bA (k:=i) (by omega) (λj _ hne=>if_neg hne),if_pos rfl]
    rw[s,←cw];refine aK (λj hj=>?_);rw[up_Ap (by omega)];by_cases h:i=j
    ·rw[if_pos h,if_pos h.symm];grind
    ·rw[if_neg h,if_neg (λh2=>h h2.symm)];grind
   rw[es]at r;apply dW;rw[d9,Rat.intCast_mul,Rat.intCast_natCast,hn',dP,if_pos rfl];have el:am n (λt=>(((if t+1=0 then d else Z (t+1-1))*(P a (t+1) (i+1):Int):Int):Rat))=pr (up (Ap a)) (vol a.rooms-1)*am n (λj=>(P a (j+1) (i+1):Rat)*x j):=by
    rw[←bN];refine aK (λt ht=>?_);rw[if_neg (by omega),sX,Rat.intCast_mul,Rat.intCast_natCast,←hZ t (by omega)];grind
   rw[el,Rat.intCast_mul,Rat.intCast_natCast,←hd,←hZ i (by omega)];show _=Dq a*_;grind
theorem prog_rows{a:Abs}(hv:a0 a){k:Nat}(hk:k<vol a.rooms-1){i:Nat}(hi:k≤i)(j:Nat):∃z:Int,(z:Rat)=pr (up (Ap a)) k*G (up (Ap a)) k i j∧z.natAbs≤big a:=by
 have hp:Piv (up (Ap a)) k:=λl hl=>i7 hv l (by omega);obtain⟨z,hz⟩:=kY (ng (Ap a)) hp j hi;refine tF z hz.symm (Ab.int ?_);rw[←hz];exact big_ab (rL _) (by omega) (pr_G_ab (bS a) (Ap_ab hv) hp j hi (L:=vol a.rooms) (by omega))
theorem big_lt{a:Abs}(h:vol a.rooms≤27)(hm:a.m≤4):big a<2^500:=by
 have h1:vol a.rooms*10^a.m≤27*10^4:=Nat.mul_le_mul h (sZ (by omega) hm);have h2:big a≤(27*10^4)^27:=rq (Nat.pow_le_pow_left h1 _) (sZ (by omega) h);exact sA h2 (by decide +kernel)
end Lr
end
section
namespace My
open PySem PySem.Spec PyProof.Rows L2
def top(i:Nat):Stmt:=PySem.Challenge.pw_linerooms_s01_answers.main.body.getD i (.Pass ⟨0,0,0,0⟩)
theorem bT{b:Bool}{A B:Prop}(hb:b=true)(h:A):if b=true then A else B:=by rw[if_pos hb];exact h
theorem bF{b:Bool}{A B:Prop}(hb:b=false)(h:B):if b=true then A else B:=by rw[hb,if_neg rG];exact h
def Sml(n:Nat)(i:Int):Prop:=i.natAbs<2^n
theorem Sml.bits{n:Nat}{i:Int}(h:Sml n i):Builtin.Int.intBits i≤n:=by
 unfold Builtin.Int.intBits;split
 ·exact rO _
 ·rename_i h0;have hp:i.natAbs≠0:=by
   intro e;have:i=0:=by omega
   subst this;simp at h0
  have:=(Nat.log2_lt hp).mpr h;omega
theorem Sml.log{n:Nat}{i:Int}(h:Sml n i)(hn:n≤9000):i.natAbs.log2<9000:=by
 by_cases h0:i.natAbs=0
 ·rw[h0];decide
 ·have:=(Nat.log2_lt h0).mpr h;omega
def CMulB(i j:Int):Prop:=∃m n,Sml m i∧Sml n j∧m+n≤134217728
def CDivB(_ j:Int):Prop:=0<j∧∃n,Sml n j∧n≤9000
section
variable {X:Cx}
theorem dk:OpR X (binaryOp .Mult) (rI CMulB λi j=>.int (i*j)):=opI λi j _ _ _ _ _ hc q=>by
 obtain⟨m,n,h1,h2,h3⟩:=hc;exact mul_int q (PyProof.Rows.mulOk_of_bits h1.bits h2.bits h3)
theorem jb:OpR X (binaryOp .FloorDiv) (rI CDivB λi j=>.int (i/j)):=opI λi j _ _ _ _ _ hc q=>by
 obtain⟨h1,n,h2,h3⟩:=hc;exact floordiv_int (by omega) (by rw[Int.fdiv_eq_ediv_of_nonneg i (by omega)];exact q) (.inl (PyProof.noPylong_of_log2 (h2.log h3)))
end
def iV(l:List Int):List V:=l.map V.int
def nV(l:List Nat):List V:=l.map λ(n:Nat)=>V.int (n:Int)
theorem iV_get{l:List Int}{i:Nat}{y:V}(h:(iV l)[i]?=some y):∃z,l[i]?=some z∧y=V.int z:=by
 unfold iV at h;rw[r6]at h;cases e:l[i]? with
 |none=>rw[e]at h;cases h
 |some z=>rw[e]at h;exact tF z rfl ((Option.some.inj h).symm)
theorem jA{l:List Nat}{i:Nat}{y:V}(h:(nV l)[i]?=some y):∃z,l[i]?=some z∧y=V.int (z:Int):=by
 unfold nV at h;rw[r6]at h;cases e:l[i]? with
 |none=>rw[e]at h;cases h
 |some z=>rw[e]at h;exact tF z rfl ((Option.some.inj h).symm)
theorem cP{l:List Nat}{i:Nat}(h:i<l.length):(nV l)[i]?=some (V.int (l.getD i 0:Nat)):=by
 unfold nV;rw[r6,so,sG h];rfl
theorem j2{l:List Int}{i:Nat}(h:i<l.length):(iV l)[i]?=some (V.int (l.getD i 0)):=by
 unfold iV;rw[r6,so,sG h];rfl
theorem bG(l:List Int):(iV l).length=l.length:=rR ..
theorem aD(l:List Nat):(nV l).length=l.length:=rR ..
theorem fJ{n j:Nat}(h:j<n):ixN n (j:Int)=some j:=by
 unfold ixN;rw[if_pos (by omega),if_pos (by omega)];rfl
structure aN(K:fG)(mg:Str→Option Value)(x:Str)(st:Stmt)(ps:List Str) where
 f:Addr
 fd:FuncData
 F:Fun K x x st f fd
 b:ck K fd ps []
 mgf:mg x=some (.ref f)
def Sq(K:fG)(H:Hp)(a:Addr)(xs:List V):Prop:=SqL K H a xs∨SqT K H a xs
theorem Sq.ix{K:fG}{H:Hp}{a:Addr}{xs:List V}{i:Int}{v:V}{Q:VK}(h:Sq K H a xs)(hi:atI xs i=some v)(q:Q v H):rIx K (.ref a) (.int i) H Q:=by
 rcases h with h|h
 ·exact .inl (tU a xs (tG i v rfl rfl h hi q))
 ·exact .inr (.inl (tU a xs (tG i v rfl rfl h hi q)))
abbrev sHas:Stmt:=top 7
abbrev sWho:Stmt:=top 8
abbrev gb:Stmt:=top 9
section
variable {P:Program} {w:World} {K:fG} {mg:Str→Option Value} {base:Heap}
def hasP(i:Nat)(s:List Nat):Bool:=i==0||decide (0<s.getD (i-1) 0)
def spHas(K:fG):Sp:=λvs H Q _=>∃(i:Nat) (p:Addr) (s:List Nat),vs=[.int i,.ref p]∧Sq K H p (nV s)∧(i=0∨i-1<s.length)∧Q (.bl (hasP i s)) H
theorem scHas:ap ["machine","filling"] ["machine","filling"] (ag sHas):=⟨rfl,rfl,rfl,by decide +kernel,rfl,by decide +kernel,by decide +kernel⟩
theorem ok_has{f:Addr}{fd:FuncData}(F:Fun K "has_piece" "has_piece" sHas f fd):aZ P w K mg base CX0 1 f fd ["machine","filling"] (spHas K):=by
 refine F.ok scHas (λvs H Q E h=>?_) (λcdv A outer s H vs Q E hr h=>?_)
 ·obtain⟨i,p,s,rfl,_⟩:=h;rfl
 ·obtain⟨i,p,l,rfl,hS,hi,k⟩:=h;refine tF _ (ah (aj (pe_or (b8 bH (pv 0) al (aO _)) (nP (b8 k5 (aU gw (pv 1) (aT dZ (pv 0) al) (λ_ _=>rfl)) al (aO _)))))) ?_;refine tL _ rfl rfl _ rfl ?_;by_cases h0:i=0
  ·subst h0;exact bT (by decide) k
  ·have hl:i-1<l.length:=by omega
   refine bF (decide_eq_false (by intro e;injection e with e;omega)) ?_;refine tF _ rfl (tW _ rfl _ _ rfl rfl (hS.ix (i:=(i:Int)-1) (v:=V.int (l.getD (i-1) 0:Nat)) ?_ ?_))
   ·have e:(i:Int)-1=((i-1:Nat):Int):=by omega
    rw[e];exact aR (cP hl)
   ·refine tH _ _ rfl rfl ?_;have e:hasP i l=decide ((0:Int)<((l.getD (i-1) 0:Nat):Int)):=by
     unfold hasP;rw[beq_eq_false_iff_ne.mpr h0,Bool.false_or];exact decide_eq_decide.mpr (by omega)
    rw[e]at k;exact k
def wk(a:Su111.Abs)(s u:List Nat):List Nat:=(a.works s u).map λb=>if b then 1 else 0
def cz(a:Su111.Abs)(s u:List Nat)(k:Nat):List Nat:=(rn a.m).map λj=>if j<k then 0 else if (a.works s u).getD j false then 1 else 0
theorem cE(a:Su111.Abs)(s u:List Nat)(k:Nat):(cz a s u k).length=a.m:=by unfold cz;simp
theorem c9{a:Su111.Abs}{s u:List Nat}{k j:Nat}(h:j<a.m):(cz a s u k).getD j 0=if j<k then 0 else if (a.works s u).getD j false then 1 else 0:=Lr.cj _ _ h
theorem lz{l m:List Nat}(h:l.length=m.length)(e:∀i,i<l.length→l.getD i 0=m.getD i 0):l=m:=by
 apply List.ext_getElem h;intro i h1 h2;have:=e i h1;rw[so,so,sG h1,sG h2]at this;exact this
theorem jN(a:Su111.Abs)(s u:List Nat):cz a s u 0=wk a s u:=by
 refine lz (by rw[cE];unfold wk;rw[rR,Lr.gJ]) (λi hi=>?_);rw[cE]at hi;rw[c9 hi,if_neg (by omega)];unfold wk;have hi':i<(a.works s u).length:=by rw[Lr.gJ];exact hi
 rw[so,so,r6,sG hi'];rfl
theorem qp(a:Su111.Abs)(s u:List Nat):cz a s u a.m=rW a.m 0:=by
 refine lz (by rw[cE,sf]) (λi hi=>?_);rw[cE]at hi;rw[c9 hi,if_pos hi,so,List.getElem?_replicate,if_pos hi];rfl
theorem getD_set(l:List Nat)(i j v:Nat)(h:j<l.length):(l.set i v).getD j 0=if i=j then v else l.getD j 0:=by
 rw[so,so,List.getElem?_set];by_cases e:i=j
 ·subst e;rw[if_pos rfl,if_pos h,if_pos rfl];rfl
 ·rw[if_neg e,if_neg e]
theorem oK{a:Su111.Abs}{s u:List Nat}{k:Nat}(h:k<a.m):cz a s u k=if (a.works s u).getD k false=true then (cz a s u (k+1)).set k 1 else cz a s u (k+1):=by
 refine lz (by split<;>simp[cE]) (λi hi=>?_);rw[cE]at hi;by_cases e:(a.works s u).getD k false=true
 ·rw[if_pos e,getD_set _ _ _ _ (by rw[cE];exact hi),c9 hi,c9 hi];by_cases ek:k=i
  ·subst ek;rw[if_neg (by omega),if_pos e,if_pos rfl]
  ·rw[if_neg ek];by_cases h1:i<k
   ·rw[if_pos h1,if_pos (show i<k+1 by omega)]
   ·rw[if_neg h1,if_neg (show ¬i<k+1 by omega)]
 ·rw[if_neg e,c9 hi,c9 hi];by_cases ek:k=i
  ·subst ek;rw[if_neg (by omega),if_neg e,if_pos (by omega)]
  ·by_cases h1:i<k
   ·rw[if_pos h1,if_pos (show i<k+1 by omega)]
   ·rw[if_neg h1,if_neg (show ¬i<k+1 by omega)]
theorem nV_set(l:List Nat)(j v:Nat):(nV l).set j (V.int (v:Int))=nV (l.set j v):=by
 unfold nV;rw[List.map_set]
structure HourAt(K:fG)(H:Hp)(a:Su111.Abs)(pu ph ps:Addr)(s u:List Nat):Prop where
 ups:SqL K H pu (nV u)
 holds:Sq K H ph (nV a.rooms)
 fill:Sq K H ps (nV s)
 ul:u.length=a.m
 rl:a.rooms.length+1=a.m
 sl:s.length=a.rooms.length
 ml:a.m≤4
def spWho(K:fG):Sp:=λvs H Q _=>∃(pu ph ps:Addr) (a:Su111.Abs) (s u:List Nat),vs=[.ref pu,.ref ph,.ref ps]∧HourAt K H a pu ph ps s u∧∀p,H p=none→Q (.ref p) (upd H p (.lst (nV (wk a s u))))
theorem sqS{K:fG}{H H':Hp}{a:Addr}{xs:List V}(e:ao H H')(h:Sq K H a xs):Sq K H' a xs:=by
 rcases h with h|h
 ·exact .inl (e.seq h)
 ·refine .inr ?_;rcases h with h|h
  ·refine .inl ?_;rcases h with h|⟨o,h⟩
   ·exact .inl (e _ _ h)
   ·exact .inr ⟨o,e _ _ h⟩
  ·exact .inr h
theorem ay{H:Hp}{p:Addr}{o:HO}(h:H p=none):ao H (upd H p o):=λb u e=>by
 rw[af (ai e h)];exact e
abbrev nWho:List Str:=["ups","holds","filling","last","works","machine","has_place","up"]
theorem mn:ap nWho ["ups","holds","filling"] (ag sWho):=⟨rfl,rfl,rfl,by decide +kernel,rfl,by decide +kernel,by decide +kernel⟩
theorem ok_who{f:Addr}{fd:FuncData}(F:Fun K "who_works" "who_works" sWho f fd)(D:aN K mg "has_piece" sHas ["machine","filling"])(hlen:mg "len" = none)(hrange:mg "range" = none):aZ P w K mg base CX0 2 f fd ["ups","holds","filling"] (spWho K):=by
 refine F.ok mn (λvs H Q E h=>?_) (λcdv A outer s H vs Q E hr h=>?_)
 ·obtain⟨pu,ph,ps,a,s,u,rfl,_⟩:=h;rfl
 ·obtain⟨pu,ph,ps,a,l,u,rfl,hh,k⟩:=h;refine tF _ (ad (aC (i:=3) mn.nd rfl (Or.inl rfl) (aT dZ (aM au (by rfl) hlen PySem.boot_len (aa (pv 0) ae)) al))
   (ad (kW (i:=4) (own:=[("up",7)]) rfl mn.nd rfl rfl rfl (bZ (pv 0)) (show db nWho (ag sWho) _ [("up",7)] from⟨rfl,by decide +kernel,by decide +kernel,by decide +kernel,by decide +kernel⟩) (λ_ _ _ _ _=>aw (i:=7) mn.nd rfl (Or.inl rfl)) (λ_ _ _ _ _=>bY) (λ_ _ _ _ _=>al))
   (ad (cn PassesOwn.never rfl (mB rfl hrange (aa (pv 3) (aa (jX fY al) (aa (jX fY al) ae)))) (aw (i:=5) mn.nd rfl (Or.inl rfl))
    (ad (aC (i:=6) mn.nd rfl (Or.inl rfl) (pe_or (b8 bH (pv 5) (pv 3) (aO _)) (pe_or (b8 op_lt (aU gw (pv 2) (pv 5) (λ_ _=>rfl)) (aU gw (pv 1) (pv 5) (λ_ _=>rfl)) (aO _))
     (nP (b8 bH (aU gw (pv 4) (aT cB (pv 5) al) (λ_ _=>rfl)) al (aO _))))))
    (ah (bh (PW.pt (pw_and (aP bH (aU gw (pv 0) (pv 5) (λ_ _=>rfl)) al (aO _)) (pw_and (di (aJ (ok_has D.F) hr rfl D.mgf D.F.kp D.b .nil az (aa (pv 5) (aa (pv 2) ae)))) (pw_and1 (di (pv 6))))))
     (ah (iw al (iy (pv 4) (pv 5) eA))) aI))))
   (ah (aj (pv 4)))))) ?_
  have hul:(nV u).length=a.m:=by rw[aD,hh.ul]
  have hml:=hh.ml;have hrl:=hh.rl;have hsl:=hh.sl;have hm0:0<a.m:=by omega
  refine tQ _ rfl pu _ (ue rfl (.inl hh.ups) _ _ rfl rfl ?_);refine uq _ rfl pu rfl ⟨_,hh.ups⟩ (λD hD=>d6 (K:=K) (a:=pu) (xs:=nV u) (λi H'=>H'=upd H D (.lst (nV (rW i 0)))) rfl
   (λi H' _ e=>by rw[e];exact(ay hD).seq hh.ups) ?_ ?_)
  ·rintro i x H' hx rfl;refine uk rfl _ ac ?_ ?_
   ·have:=(rE.mp hx).1;rw[hul]at this;rw[aD,sf];exact rh this (rq hml (by decide))
   ·rw[bX,tf];unfold nV;rw[sQ];rfl
  ·rintro H' rfl;rw[hul];have e0:nV (rW a.m 0)=nV (cz a l u a.m):=by rw[qp]
   rw[e0];have hlast:((a.m:Int)-1 - -1).toNat=a.m:=by omega
   have hsame:∀k,ao H (upd H D (.lst (nV (cz a l u k)))):=λk=>ay hD;refine tF _ rfl (ur _ rfl _ rfl _ (tM _ _ _ rfl (RgC.neg (by omega) (by omega) (by decide) (by decide)) ?_));refine lr (n:=((a.m:Int)-1 - -1).toNat) (λi σ H'=>∃v5 v6:Option V,σ=[some (.ref pu),some (.ref ph),some (.ref ps),some (.int ((a.m:Int)-1)),some (.ref D),v5,v6,none]∧H'=upd H D (.lst (nV (cz a l u (a.m-i)))))
    (tO none none rfl (by rw[Nat.sub_zero])) ?_ ?_
   ·rintro i σ H' hi ⟨v5,v6,rfl,rfl⟩;rw[hlast]at hi;obtain⟨j,hj,ej⟩:∃j:Nat,j+1=a.m-i∧(a.m:Int)-1+(i:Int) * -1=(j:Int):=tF (a.m-i-1) (by omega) (by omega)
    rw[ej];have hjm:j<a.m:=by omega
    have S1:=hsame (a.m-i);have hW:Sq K (upd H D (.lst (nV (cz a l u (a.m-i))))) D (nV (cz a l u (a.m-i))):=.inl (SqL.of ac);have hwl:=cE a l u (a.m-i);have place:∀{Qp:VK},Qp (.bl (j+1==a.m||decide (l.getD j 0<a.room j)||(a.works l u).getD (j+1) false)) (upd H D (.lst (nV (cz a l u (a.m-i))))) →
      tOrV (tOp rEq (dc 5) (dc 3)) (tOrV (tOp (rI0 λi j=>V.bl (decide (i<j))) (tOp (rIx K) (dc 2) (dc 5)) (tOp (rIx K) (dc 1) (dc 5))) (tOp rEq (tOp (rIx K) (dc 4) (tOp (rI0 λi j=>V.int (i+j)) (dc 5) (tC (V.int 1)))) (tC (V.int 1))))
       [some (.ref pu),some (.ref ph),some (.ref ps),some (.int ((a.m:Int)-1)),some (.ref D),some (.int (j:Int)),v6,none] (upd H D (.lst (nV (cz a l u (a.m-i))))) Qp:=by
     intro Qp q;refine tF _ rfl (tL _ rfl rfl _ rfl ?_);by_cases h1:j+1=a.m
     ·refine bT (decide_eq_true (by congr 1;omega)) ?_;rw[beq_iff_eq.mpr h1,Bool.true_or,Bool.true_or]at q;exact q
     ·refine bF (decide_eq_false (by intro e;injection e with e;omega)) ?_;rw[beq_eq_false_iff_ne.mpr h1,Bool.false_or]at q;refine t0 _ rfl _ rfl ((sqS S1 hh.fill).ix (aR (cP (by omega))) (t0 _ rfl _ rfl ((sqS S1 hh.holds).ix (aR (cP (by omega))) (ug _ _ rfl rfl _ rfl ?_))));by_cases h2:l.getD j 0<a.room j
      ·refine bT (decide_eq_true (Int.ofNat_lt.mpr h2)) ?_;rw[decide_eq_true h2,Bool.true_or]at q;exact q
      ·refine bF (decide_eq_false (λe=>h2 (Int.ofNat_lt.mp e))) ?_;rw[decide_eq_false h2,Bool.false_or]at q;refine tF _ rfl (tW _ rfl _ _ rfl rfl (hW.ix (i:=((j+1:Nat):Int)) (aR (cP (by omega))) ⟨rfl,?_⟩));rw[c9 (by omega),if_neg (by omega)];cases hb:(a.works l u).getD (j+1) false with
       |true =>
        rw[hb]at q;exact q
       |false =>
        rw[hb]at q;exact q
    refine place ?_;have hcan:=Lr.ez a l u hjm;unfold Lr.can at hcan;have fin:∀b:Bool,(a.works l u).getD j false=b→∀H2,H2=upd H D (.lst (nV (if b=true then (cz a l u (a.m-i)).set j 1 else cz a l u (a.m-i))))→H2=upd H D (.lst (nV (cz a l u (a.m-(i+1))))):=by
     intro b hb H2 e;rw[e,show a.m-(i+1)=j by omega,oK hjm,hb,hj]
    refine t0 _ rfl _ rfl (.inl (tU pu _ (tG _ _ rfl rfl (S1.seq hh.ups) (aR (cP (by rw[hh.ul];omega))) (tX rfl _ rfl ?_))));by_cases c1:u.getD j 0=1
    ·refine bT (decide_eq_true (by rw[c1];rfl)) ?_;refine tF _ rfl (tR _ rfl j ps l (ui rfl (sqS S1 hh.fill) (by omega) _ rfl ?_));rw[c1]at hcan;have hcan2:(a.works l u).getD j false=(hasP j l&&(j+1==a.m||decide (l.getD j 0<a.room j)||(a.works l u).getD (j+1) false)):=by
      rw[hcan];unfold hasP;rfl
     cases c2:hasP j l with
     |false =>
      rw[c2,Bool.false_and]at hcan2;exact tO _ _ rfl (fin false hcan2 _ rfl)
     |true =>
      rw[c2,Bool.true_and]at hcan2;refine t0 _ rfl _ rfl ?_;cases c3:(j+1==a.m||decide (l.getD j 0<a.room j)||(a.works l u).getD (j+1) false) with
      |false =>
       rw[c3]at hcan2;exact tO _ _ rfl (fin false hcan2 _ rfl)
      |true =>
       rw[c3]at hcan2;refine tT _ rfl _ rfl D _ (tG _ j rfl rfl ac (fJ (by rw[aD,hwl];exact hjm)) ?_);refine tO _ _ rfl (fin true hcan2 _ ?_);rw[bX];congr 2;exact nV_set _ _ _
    ·refine bF (decide_eq_false (by intro e;injection e with e;exact c1 (Int.ofNat_inj.mp e))) ?_;have hcan2:(a.works l u).getD j false=false:=by
      rw[hcan,beq_eq_false_iff_ne.mpr c1,Bool.false_and]
     exact tO _ _ rfl (fin false hcan2 _ rfl)
   ·rintro σ H' ⟨v5,v6,rfl,rfl⟩;rw[hlast,sJ,jN];exact tF _ rfl (k D hD)
structure AftAt(K:fG)(H:Hp)(a:Su111.Abs)(pw pf:Addr)(s u:List Nat):Prop where
 works:Sq K H pw (nV (wk a s u))
 fill:Sq K H pf (nV s)
 rl:a.rooms.length+1=a.m
 sl:s.length=a.rooms.length
 ml:a.m≤4
def spAfter(K:fG):Sp:=λvs H Q _=>∃(pw pf:Addr) (a:Su111.Abs) (s u:List Nat),vs=[.ref pw,.ref pf]∧AftAt K H a pw pf s u∧∀p,H p=none→Q (.ref p) (upd H p (.lst (nV (a.next s u))))
theorem dA(a:Su111.Abs)(s u:List Nat):(wk a s u).length=a.m:=by unfold wk;rw[rR,Lr.gJ]
theorem lY{a:Su111.Abs}{s u:List Nat}{j:Nat}(h:j<a.m):(wk a s u).getD j 0=if (a.works s u).getD j false then 1 else 0:=by
 rw[←jN,c9 h,if_neg (by omega)]
abbrev nAft:List Str:=["works","filling","room"]
theorem scAft:ap nAft ["works","filling"] (ag gb):=⟨rfl,rfl,rfl,by decide +kernel,rfl,by decide +kernel,by decide +kernel⟩
theorem n6{l:List Nat}{i:Nat}(h:i<l.length):nV (l.take i)++[V.int (l.getD i 0:Nat)]=nV (l.take (i+1)):=by
 unfold nV;rw[sI,sQ,so,sG h];rfl
theorem k7{f:Addr}{fd:FuncData}(F:Fun K "filling_after" "filling_after" gb f fd)(hlen:mg "len" = none)(hrange:mg "range" = none):aZ P w K mg base CX0 1 f fd ["works","filling"] (spAfter K):=by
 refine F.ok scAft (λvs H Q E h=>?_) (λcdv A outer s H vs Q E hr h=>?_)
 ·obtain⟨pw,pf,a,s,u,rfl,_⟩:=h;rfl
 ·obtain⟨pw,pf,a,l,u,rfl,hh,k⟩:=h;refine tF _ (ah (aj (fi (own:=[("room",2)]) rfl scAft.nd (gT rfl hrange (aa (aM au (by rfl) hlen PySem.boot_len (aa (pv 1) ae)) ae)) (show db nAft (ag gb) _ [("room",2)] from⟨rfl,by decide +kernel,by decide +kernel,by decide +kernel,by decide +kernel⟩)
   (λ_ _ _ _ _=>aw (i:=2) scAft.nd rfl (Or.inl rfl)) (λ_ _ _ _ _=>bY)
   (λ_ _ _ _ _=>aT dZ (aT cB (aU (r:=rIx K) gw (pv 1) (pv 2) (λ_ _=>rfl)) (aU (r:=rIx K) gw (pv 0) (pv 2) (λ_ _=>rfl))) (aU (r:=rIx K) gw (pv 0) (aT cB (pv 2) al) (λ_ _=>rfl)))))) ?_
  have hml:=hh.ml;have hrl:=hh.rl;have hsl:=hh.sl;have hnl:(nV l).length=l.length:=aD l;refine tW _ rfl pf _ rfl hh.fill (ua (((nV l).length:Nat):Int) rfl (by omega) (by omega) (λD hD=>lp (n:=((((nV l).length:Nat):Int)).toNat) (λi H'=>H'=upd H D (.lst (nV ((a.next l u).take i)))) rfl ?_ ?_))
  ·rintro i H' hi rfl;have hi':i<l.length:=by omega
   have S1:ao H (upd H D (.lst (nV ((a.next l u).take i)))):=ay hD;refine⟨rfl,?_⟩;refine t0 _ rfl _ rfl ((sqS S1 hh.fill).ix (i:=(0:Int)+(i:Nat)) (v:=V.int (l.getD i 0:Nat)) ?_ ?_)
   ·rw[Int.zero_add];exact aR (cP hi')
   ·refine t0 _ rfl _ rfl ((sqS S1 hh.works).ix (i:=(0:Int)+(i:Nat)) (v:=V.int ((wk a l u).getD i 0:Nat)) ?_ ?_)
    ·rw[Int.zero_add];exact aR (cP (by rw[dA];omega))
    ·refine ug _ _ rfl rfl _ rfl (tW _ rfl _ _ rfl rfl ((sqS S1 hh.works).ix (i:=(0:Int)+(i:Nat)+1) (v:=V.int ((wk a l u).getD (i+1) 0:Nat)) ?_ ?_))
     ·rw[Int.zero_add];exact aR (j:=i+1) (cP (by rw[dA];omega))
     ·refine tO _ _ rfl (uk rfl _ ac ?_ ?_)
      ·rw[aD,rX];exact sA (Nat.min_le_left _ _) (rh (show i<4 by omega) (by decide))
      ·have e:((l.getD i 0:Nat):Int)+((wk a l u).getD i 0:Nat)-((wk a l u).getD (i+1) 0:Nat)=(((a.next l u).getD i 0:Nat):Int):=by
        rw[Lr.gU a l u (by omega),lY (by omega),lY (by omega)];have hp:=Lr.oJ (a:=a) (s:=l) (u:=u) (i:=i) (by omega);by_cases h2:(a.works l u).getD (i+1) false=true
        ·have:=hp h2;rw[if_pos h2];split<;>omega
        ·rw[if_neg h2];split<;>omega
       rw[bX,←n6 (by rw[Lr.jc];omega),←e]
  ·rintro H' rfl;have e:((((nV l).length:Nat):Int)).toNat=(a.next l u).length:=by rw[Lr.jc];omega
   rw[e,tm];exact k D hD
end
def iSeq(K:fG)(i:Nat):TI:=λσ H R=>∃a,σ[i]?=some (some (.ref a))∧(((∃xs,SqL K H a xs)∧R (Itl K a) H)∨((∃xs,SqT K H a xs)∧R (Itt K a) H))
theorem pi_seq{X:Cx}{tg:Expr}(i:Nat){x:Str}{pos:Pos}(hp:PE X (.Name x pos) (dc i)):PI X tg (.Name x pos) (iSeq X.K i):=by
 intro pins s σ H R I h;obtain⟨a,h1,h2|h2⟩:=h
 ·exact bZ hp pins s σ H R I (uq _ h1 a rfl h2.1 h2.2)
 ·exact pi_tup hp pins s σ H R I (uq _ h1 a rfl h2.1 h2.2)
theorem for_seq{K:fG}{a:Addr}{xs:List V}{n:Nat}{g:TG}{tb:TS}{D:hG}{σ:L2.St}{H:Hp}(hσ:σ[n]?=some (some (.ref a)))(hS:Sq K H a xs)(Pv:Nat→L2.St→Hp→Prop)(h0:Pv 0 σ H)(hl:∀i σ H',Pv i σ H'→ao H H')(hs:∀i x σ H,xs[i]?=some x→Pv i σ H→g x σ H λσ2 H2=>tb {D with nx:=Pv (i+1),ct:=Pv (i+1),bk:=D.nx} σ2 H2)(hd:∀σ H,Pv xs.length σ H→D.nx σ H):tFor (iSeq K n) g tb D σ H:=by
 rcases hS with h|h
 ·exact tF a hσ (.inl ⟨⟨xs,h⟩,dS Pv h0 (λi σ' H' _ p=>(hl i σ' H' p).seq h) hs hd⟩)
 ·refine tF a hσ (.inr ⟨⟨xs,h⟩,for_tup Pv h0 (λi σ' H' _ p=>?_) hs hd⟩);rcases sqS (hl i σ' H' p) (.inr h) with q|q
  ·rcases h with h|h
   ·rcases h with h|⟨o,h⟩
    ·exact .inl (.inl (hl i σ' H' p _ _ h))
    ·exact .inl (.inr ⟨o,hl i σ' H' p _ _ h⟩)
   ·exact .inr h
  ·exact q
structure LL(H:Hp)(p:Addr)(rs:List Addr)(ls:List (List Nat)):Prop where
 lst:H p=some (.lst (rs.map V.ref))
 len:rs.length=ls.length
 at_:∀(i:Nat) (r:Addr) (l:List Nat),rs[i]?=some r→ls[i]?=some l→H r=some (.lst (nV l))
theorem LL.same{H H':Hp}{p:Addr}{rs:List Addr}{ls:List (List Nat)}(h:LL H p rs ls)(e:ao H H'):LL H' p rs ls :=
 ⟨e _ _ h.lst,h.len,λi r l a b=>e _ _ (h.at_ i r l a b)⟩
theorem LL.snoc{H H':Hp}{p r:Addr}{rs:List Addr}{ls:List (List Nat)}{l:List Nat}(h:LL H p rs ls)(hp:H' p=some (.lst (rs.map V.ref++[V.ref r])))(hr:H' r=some (.lst (nV l)))(e:∀b o,H b=some o→b≠p→H' b=some o):LL H' p (rs++[r]) (ls++[l]):=by
 refine⟨by rw[hp,sQ];rfl,by rw[r9,r9,h.len];rfl,λi q m a b=>?_⟩;have hlen:=h.len;by_cases hi:i<rs.length
 ·rw[rZ hi]at a;rw[rZ (by omega)]at b;have x:=h.at_ i q m a b;refine e _ _ x (λz=>?_);rw[z,h.lst]at x;injection x with x;injection x with x;cases rs with
  |nil=>simp at hi
  |cons c rs =>
   cases m with
   |nil=>simp[nV]at x
   |cons y m =>
    rw[rQ]at x;unfold nV at x;rw[rQ]at x;injection x with x1 x2;cases x1
 ·have h1:i=rs.length:=by
   have:=(rE.mp a).1;rw[r9,sk]at this;omega
  subst h1;rw[rY (rL _),sJ]at a;rw[rY (by omega),hlen,sJ]at b;simp at a b;subst a b;exact hr
abbrev kP:Stmt:=top 1
def ext(ls:List (List Nat))(r:Nat):List (List Nat):=ls.flatMap λc=>(rn (r+1)).map λk=>c++[k]
theorem jU(r:Nat):∀l:List Nat,Su111.states (l++[r])=ext (Su111.states l) r
 |[]=>by
  have h:∀l:List Nat,(l.flatMap λk=>[[k]])=l.map λk=>[k]:=by
   intro l;induction l with
   |nil=>rfl
   |cons x l ih=>rw[List.flatMap_cons,ih];rfl
  show((rn (r+1)).flatMap λk=>[[k]])=_;rw[h];unfold ext Su111.states;simp
 |q::l=>by
  rw[List.cons_append];unfold Su111.states;rw[jU r l];unfold ext;rw[List.flatMap_assoc];congr 1;funext k;rw[List.map_flatMap,List.flatMap_map];congr 1;funext s;rw[sN];rfl
def i9(ls:List (List Nat))(r j k:Nat):List (List Nat):=ext (ls.take j) r++(rn k).map λi=>ls.getD j []++[i]
theorem part_next(ls:List (List Nat))(r j k:Nat):i9 ls r j (k+1)=i9 ls r j k++[ls.getD j []++[k]]:=by
 unfold i9;rw[sP,sQ,sK];rfl
theorem part_turn{ls:List (List Nat)}{r j:Nat}(h:j<ls.length):i9 ls r (j+1) 0=i9 ls r j (r+1):=by
 unfold i9;have e:ls[j]?=some (ls.getD j []):=by
  rw[so,sG h];rfl
 rw[sI,e];unfold ext;rw[List.flatMap_append];simp
theorem part_all(ls:List (List Nat))(r:Nat):i9 ls r ls.length 0=ext ls r:=by
 unfold i9;rw[tm];simp
section
variable {P:Program} {w:World} {K:fG} {mg:Str→Option Value} {base:Heap}
def spEach(K:fG):Sp:=λvs H Q _=>∃(a:Addr) (ls:List Nat),vs=[.ref a]∧Sq K H a (nV ls)∧Lr.vol ls≤10000∧ls.length≤100∧∀(H':Hp) (p:Addr) (rs:List Addr),ao H H'→LL H' p rs (Su111.states ls)→Q (.ref p) H'
theorem oN:∀(l:List Nat) (i:Nat),Lr.vol (l.take i)≤Lr.vol l
 |[],i=>by simp
 |r::l,0=>Lr.bK _
 |r::l,i+1=>Nat.mul_le_mul_left _ (oN l i)
theorem vol_mem:∀{l:List Nat} {i r:Nat},l[i]?=some r→r+1≤Lr.vol l
 |[],i,r,h=>by simp at h
 |q::l,0,r,h=>by
  have e:q=r:=by simpa using h
  subst e;exact Nat.le_mul_of_pos_right _ (Lr.bK l)
 |q::l,i+1,r,h=>by
  have:=vol_mem (l:=l) (i:=i) (r:=r) (by simpa using h);show r+1≤(q+1)*Lr.vol l;exact rq this (Nat.le_mul_of_pos_left _ (by omega))
theorem ext_len(ls:List (List Nat))(r:Nat):(ext ls r).length=ls.length*(r+1):=by
 unfold ext;induction ls with
 |nil=>simp
 |cons x l ih =>
  rw[List.flatMap_cons,r9,ih,rR,sO,rP,sV];omega
theorem part_le{ls:List (List Nat)}{r j k:Nat}(hj:j<ls.length)(hk:k≤r+1):(i9 ls r j k).length≤ls.length*(r+1):=by
 unfold i9;rw[r9,ext_len,rR,sO,rX,Nat.min_eq_left (by omega)];have:(j+1)*(r+1)≤ls.length*(r+1):=sU _ (by omega);rw[sV]at this;omega
theorem ka{l s:List Nat}{i:Nat}(h:(Su111.states l)[i]?=some s):s.length=l.length :=
 (Lr.ik (r8 h)).len
theorem bp{H1 H':Hp}{p:Addr}{o:HO}(e:ao H1 H')(h:H1 p=none):ao H1 (upd H' p o):=λb u q=>by
 rw[af (ai q h)];exact e b u q
theorem sTake{ls:List Nat}{i r:Nat}(h:ls[i]?=some r):ls.take (i+1)=ls.take i++[r]:=by
 rw[sI,h];rfl
abbrev nEach:List Str:=["limits","choices","limit","longer","choice","number"]
theorem io:ap nEach ["limits"] (ag kP):=⟨rfl,rfl,rfl,by decide +kernel,rfl,by decide +kernel,by decide +kernel⟩
theorem ok_each{f:Addr}{fd:FuncData}(F:Fun K "every_choice" "every_choice" kP f fd)(hrange:mg "range" = none):aZ P w K mg base CX0 1 f fd ["limits"] (spEach K):=by
 refine F.ok io (λvs H Q E h=>?_) (λcdv A outer s H vs Q E hr h=>?_)
 ·obtain⟨a,ls,rfl,_⟩:=h;rfl
 ·obtain⟨a,ls,rfl,hS,hvol,hlen,k⟩:=h;refine tF _ (ad (aC (i:=1) io.nd rfl (Or.inl rfl) (aG (aa (aG ae) ae)))
   (ad (cn PassesOwn.never rfl (pi_seq 0 (pv 0)) (aw (i:=2) io.nd rfl (Or.inl rfl))
    (ad (aC (i:=3) io.nd rfl (Or.inl rfl) (aG ae))
    (ad (cn PassesOwn.never rfl (bZ (pv 1)) (aw (i:=4) io.nd rfl (Or.inl rfl))
     (ah (cn PassesOwn.never rfl (gT rfl hrange (aa (aT cB (pv 2) al) ae)) (aw (i:=5) io.nd rfl (Or.inl rfl))
      (ah (bU (fP PySem.F.plainAttrs_list PySem.F.slot_list_append PySem.F.type_list_append ci (pv 3) (aa (aT cA (pv 4) (aG (aa (pv 5) ae))) ae)))))))
    (ah (aC (i:=1) io.nd rfl (Or.inl rfl) (pv 3))))))
   (ah (aj (pv 1))))) ?_
  refine⟨rO _,λe he=>⟨(by show 1≤sizeLine;decide),λc0 hc=>?_⟩⟩;have s1:ao H (upd H e (.lst [])):=ay he;have s2:ao H (upd (upd H e (.lst [])) c0 (.lst [.ref e])):=s1.trans (ay hc);have hec:e≠c0:=by
   intro z;rw[←z,ac]at hc;cases hc
  have L0:LL (upd (upd H e (.lst [])) c0 (.lst [.ref e])) c0 [e] (Su111.states (ls.take 0)):=by
   refine⟨ac,rfl,λi r l a b=>?_⟩
   match i,a,b with
   |0,a,b =>
    have e1:e=r:=by simpa using a
    have e2:[]=l:=by
     have:(Su111.states [])[0]?=some l:=b;simpa [Su111.states] using this
    subst e1 e2;rw[af hec,ac];rfl
   |i+1,a,b=>simp at a
  refine for_seq (a:=a) (xs:=nV ls) rfl (sqS s2 hS) (λi σ H'=>∃(c:Addr) (rs:List Addr) (v2 v3 v4 v5:Option V),σ=[some (.ref a),some (.ref c),v2,v3,v4,v5]∧ao (upd (upd H e (.lst [])) c0 (.lst [.ref e])) H'∧LL H' c rs (Su111.states (ls.take i)))
   (tY c0 [e] none none (tH none none rfl (λ_ _ q=>q) L0)) (λi σ H' ⟨_,_,_,_,_,_,_,q,_⟩=>q) ?_ ?_
  ·rintro i y σ H1 hi ⟨c,rs,v2,v3,v4,v5,rfl,sm,L⟩;obtain⟨r,hr',rfl⟩:=jA hi;have hstate:Su111.states (ls.take (i+1))=ext (Su111.states (ls.take i)) r:=by rw[sTake hr',jU]
   have hvl:(Su111.states (ls.take i)).length*(r+1)≤10000:=by
    rw[←ext_len,←hstate,Lr.bu];exact rq (oN ls (i+1)) hvol
   have hrl:r+1≤10000:=rq (vol_mem hr') hvol;generalize hST:Su111.states (ls.take i)=ST at L hstate hvl;have hit:∀(j:Nat) (s:List Nat),ST[j]?=some s→s.length≤100:=by
    intro j s h;rw[←hST]at h;rw[ka h,rX];omega
   refine⟨rO _,λlg hlg=>?_⟩;have smL:ao H1 (upd H1 lg (.lst [])):=ay hlg;have P0:LL (upd H1 lg (.lst [])) lg [] (i9 ST r 0 0):=⟨ac,rfl,λi r l a b=>by simp at a⟩
   refine uq _ rfl c rfl ⟨_,SqL.of (smL _ _ L.lst)⟩ (dS (K:=K) (a:=c) (xs:=rs.map V.ref) (λj σ H'=>∃(qs:List Addr) (v4 v5:Option V),σ=[some (.ref a),some (.ref c),some (.int (r:Int)),some (.ref lg),v4,v5]∧ao H1 H'∧LL H' lg qs (i9 ST r j 0))
    (tM [] v4 v5 rfl smL P0) (λj σ H' _ ⟨_,_,_,_,q,_⟩=>SqL.of (q _ _ L.lst)) ?_ ?_)
   ·rintro j y σ H2 hj ⟨qs,v4,v5,rfl,sm2,L2⟩;obtain⟨ch,hch,rfl⟩:∃ch,rs[j]?=some ch∧y=V.ref ch:=by
     rw[r6]at hj;cases e:rs[j]? with
     |none=>rw[e]at hj;cases hj
     |some z=>rw[e]at hj;exact tF z rfl ((Option.some.inj hj).symm)
    have hjl:j<ST.length:=by
     rw[←L.len];exact(rE.mp hch).1
    have hsj:ST[j]?=some (ST.getD j []):=by
     rw[so,sG hjl];rfl
    have hc1:H1 ch=some (.lst (nV (ST.getD j []))):=L.at_ j ch _ hch hsj;refine tW _ rfl _ _ rfl rfl (ua ((r:Int)+1) rfl (by omega) (by omega) (ft (n:=((r:Int)+1).toNat) (λk σ H'=>∃(qs:List Addr) (v5:Option V),σ=[some (.ref a),some (.ref c),some (.int (r:Int)),some (.ref lg),some (.ref ch),v5]∧ao H1 H'∧LL H' lg qs (i9 ST r j k))
     (tH qs v5 rfl sm2 L2) ?_ ?_))
    ·rintro n σ H3 hn ⟨qs,v5,rfl,sm3,L3⟩;have hn':n<r+1:=by omega
     have hpl:(i9 ST r j n).length≤10000:=rq (part_le hjl (by omega)) hvl;refine tK _ rfl (.inl (uj rfl _ (SqL.of L3.lst))) (uq _ rfl _ rfl (by show 1≤sizeLine;decide) (λt ht=>?_));have smt:ao H3 (upd H3 t (.lst [.int (0+(n:Int))])):=ay ht;refine tY ch t _ _ (um rfl rfl (smt _ _ (sm3 _ _ hc1)) ac ?_ (λp hp=>?_))
     ·rw[aD];exact rq (Nat.add_le_add_right (hit j _ hsj) 1) (by decide)
     ·have smp:=smt.trans (ay (o:=.lst (nV (ST.getD j [])++[.int (0+(n:Int))])) hp);have hlp:lg≠p:=ai (smt _ _ L3.lst) hp;refine⟨lg,tG _ _ rfl rfl (smp _ _ L3.lst) ?_ ?_⟩
      ·rw[rR,L3.len];exact sA hpl (by decide)
      ·refine tH (qs++[p]) _ rfl (bp (sm3.trans smp) hlg) ?_;rw[part_next];refine L3.snoc ac ?_ (λb o q hb=>?_)
       ·rw[af (λz=>hlp z.symm),ac,Int.zero_add];unfold nV;rw[sQ];rfl
       ·rw[af hb];exact smp _ _ q
    ·rintro σ H3 ⟨qs,v5,rfl,sm3,L3⟩;have e:((r:Int)+1).toNat=r+1:=by omega
     rw[e,←part_turn hjl]at L3;exact tM qs _ _ rfl sm3 L3
   ·rintro σ H2 ⟨qs,v4,v5,rfl,sm2,L2⟩;rw[rR,L.len,part_all,←hstate]at L2;exact tR _ rfl lg qs _ (tM _ _ _ rfl (sm.trans sm2) L2)
  ·rintro σ H1 ⟨c,rs,v2,v3,v4,v5,rfl,sm,L⟩;rw[aD,tm]at L;exact tF _ rfl (k H1 c rs (s2.trans sm) L)
end
theorem lc_zip{K:fG}{a b:Addr}{xs ys:List V}{g:TG}{tt:TT}{te:TE}{vs:List Nat}{σ:L2.St}{H1:Hp}{D:Addr}{Qd:Hp→Prop}(hxy:xs.length=ys.length)(Pv:Nat→Hp→Prop)(h0:Pv 0 (upd H1 D (.lst [])))(hl:∀i H,i≤xs.length→Pv i H→SqL K H a xs∧SqL K H b ys)(hs:∀i x y T H,xs[i]?=some x→ys[i]?=some y→H T=none→Pv i H→g (.ref T) (bJ σ vs) (upd H T (.tup [x,y])) λσ2 H2=>bJ σ2 vs=bJ σ vs∧tt σ2 H2 λb H3 =>
   if b=true then te σ2 H3 λy H4=>∃acc,H4 D=some (.lst acc)∧acc.length<sizeLine∧Pv (i+1) (upd H4 D (.lst (acc++[y]))) else Pv (i+1) H3)(hd:∀H,Pv xs.length H→Qd H):∃W:Nat→Nat→Hp→Prop,(∃m,W 0 m (upd H1 D (.lst [])))∧∀i m H,W i m H →
   ((Itz K a b).stop i H∧Qd H)∨((Itz K a b).go i H∧∃Nx:Hp→Prop,(∀H',Nx H'→∃m',m'<m∧W (i+1) m' H')∧∀x H',(Itz K a b).yld i H x H'→g x (bJ σ vs) H' λσ2 H2=>bJ σ2 vs=bJ σ vs∧tt σ2 H2 λb H3 =>
    if b=true then te σ2 H3 λy H4=>∃acc,H4 D=some (.lst acc)∧acc.length<sizeLine∧Nx (upd H4 D (.lst (acc++[y]))) else Nx H3):=by
 refine tF (λi m H=>m=xs.length-i∧i≤xs.length∧Pv i H) (tK xs.length (by simp) (rO _) h0) ?_;rintro i m H ⟨rfl,hi,p⟩;obtain⟨q1,q2⟩:=hl i H hi p;by_cases hlt:i<xs.length
 ·refine .inr (tX ⟨xs,tI ys (xs[i]) (ys[i]) q1 q2 (by simp[hlt]) (by simp[←hxy,hlt])⟩ (Pv (i+1)) (λH' p'=>ua (xs.length-(i+1)) (by omega) rfl hlt p') (λx H' y=>?_));obtain⟨T,x1,y1,rfl,hT,rfl,hx,hy⟩:=y;exact hs i x1 y1 T H (hx xs q1) (hy ys q2) hT p
 ·have e:i=xs.length:=by omega
  subst e;exact .inl ⟨(tH xs ys q1 q2 (.inl (rL _))),hd H p⟩
abbrev ga:Stmt:=top 14
section
variable {P:Program} {w:World} {K:fG} {mg:Str→Option Value} {base:Heap}
def clr(xs ys:List Int)(p:Nat)(d:Int):List Int:=List.zipWith (λx y=>(ys.getD p 0*x-xs.getD p 0*y)/d) xs ys
def spClear(K:fG):Sp:=λvs H Q _=>∃(r b:Addr) (xs ys:List Int) (p:Nat) (d:Int),vs=[.ref r,.ref b,.int p,.int d]∧SqL K H r (iV xs)∧SqL K H b (iV ys)∧xs.length=ys.length∧xs.length≤100∧p<xs.length ∧
 (∀x,x∈xs→Sml 2000 x)∧(∀y,y∈ys→Sml 2000 y)∧0<d∧Sml 2000 d∧∀(H':Hp) (q:Addr),ao H H'→H q=none→H' q=some (.lst (iV (clr xs ys p d)))→Q (.ref q) H'
theorem clr_len{xs ys:List Int}{p:Nat}{d:Int}(h:xs.length=ys.length):(clr xs ys p d).length=xs.length:=by
 unfold clr;rw[List.length_zipWith,←h,Nat.min_self]
theorem clr_at{xs ys:List Int}{p:Nat}{d:Int}{i:Nat}{x y:Int}(hx:xs[i]?=some x)(hy:ys[i]?=some y):(clr xs ys p d)[i]?=some ((ys.getD p 0*x-xs.getD p 0*y)/d):=by
 unfold clr;rw[List.getElem?_zipWith,hx,hy]
theorem jg{l:List Int}{i:Nat}{z:Int}(h:l[i]?=some z):iV (l.take i)++[V.int z]=iV (l.take (i+1)):=by
 unfold iV;rw[sI,sQ,h];rfl
theorem getD_mem{l:List Int}{i:Nat}(h:i<l.length):l.getD i 0∈l:=by
 rw[so,sG h];exact List.getElem_mem h
abbrev nClear:List Str:=["row","by","place","divisor","lead","mine","own","other"]
theorem gP:ap nClear ["row","by","place","divisor"] (ag ga):=⟨rfl,rfl,rfl,by decide +kernel,rfl,by decide +kernel,by decide +kernel⟩
theorem ok_clear{f:Addr}{fd:FuncData}(F:Fun K "cleared" "cleared" ga f fd)(hzip:mg "zip" = none):aZ P w K mg base CX0 1 f fd ["row","by","place","divisor"] (spClear K):=by
 refine F.ok gP (λvs H Q E h=>?_) (λcdv A outer s H vs Q E hr h=>?_)
 ·obtain⟨r,b,xs,ys,p,d,rfl,_⟩:=h;rfl
 ·obtain⟨r,b,xs,ys,p,d,rfl,hx,hy,hxy,hlen,hp,bx,by',hd,bd,k⟩:=h;refine tF _ (ad (aC (i:=4) gP.nd rfl (Or.inr rfl) (aU aA (pv 1) (pv 2) (λ_ _=>rfl)))
   (ad (aC (i:=5) gP.nd rfl (Or.inr rfl) (aU aA (pv 0) (pv 2) (λ_ _=>rfl)))
   (ah (aj (fi (own:=[("own",6),("other",7)]) rfl gP.nd (pi_zip rfl hzip (aa (pv 0) (aa (pv 1) ae))) (show db nClear (ag ga) _ [("own",6),("other",7)] from⟨rfl,by decide +kernel,by decide +kernel,by decide +kernel,by decide +kernel⟩)
    (g:=gTup K 2 (fq (dq 6) (fq (dq 7) gNil))) (λ_ _ _ _ _=>dD rfl (aS (aw (i:=6) gP.nd rfl (Or.inl rfl)) (aS (aw (i:=7) gP.nd rfl (Or.inl rfl)) cM))) (λ_ _ _ _ _=>bY)
    (λ_ _ _ _ _=>aT jb (aT dZ (aT dk (pv 4) (pv 6)) (aT dk (pv 5) (pv 7))) (pv 3))))))) ?_
  have hpy:p<ys.length:=by omega
  refine tT _ rfl _ rfl b _ (tG _ _ rfl rfl hy (aR (j2 hpy)) ?_);refine tT _ rfl _ rfl r _ (tG _ _ rfl rfl hx (aR (j2 hp)) ?_);refine ur _ rfl _ rfl r (tI b _ _ rfl hx hy (λD hD=>lc_zip (K:=K) (a:=r) (b:=b) (xs:=iV xs) (ys:=iV ys) (by rw[bG,bG,hxy]) (λi H'=>ao H H'∧H' D=some (.lst (iV ((clr xs ys p d).take i))))
   ⟨ay hD,ac⟩ (λi H' _ q=>⟨q.1.seq hx,q.1.seq hy⟩) ?_ ?_))
  ·rintro i x y T H' hxi hyi hT ⟨sm,hDl⟩;obtain⟨x,hx',rfl⟩:=iV_get hxi;obtain⟨y,hy',rfl⟩:=iV_get hyi;refine tO T _ rfl (uv (SqT.of ac) rfl _ _ rfl (tP _ _ rfl rfl rfl ?_));have b1:CMulB (ys.getD p 0) x:=tH 2000 2000 (by' _ (getD_mem hpy)) (bx _ (r8 hx')) (by decide)
   have b2:CMulB (xs.getD p 0) y:=tH 2000 2000 (bx _ (getD_mem hp)) (by' _ (r8 hy')) (by decide)
   have hDT:D≠T:=ai hDl hT;refine t0 _ rfl _ rfl (tP _ _ rfl rfl b1 (t0 _ rfl _ rfl (tP _ _ rfl rfl b2 (ug _ _ rfl rfl _ rfl (tP _ _ rfl rfl (tX hd 2000 bd (by decide)) (ua (iV ((clr xs ys p d).take i)) (by rw[af hDT];exact hDl) ?_ ?_ ?_))))))
   ·rw[bG,rX];have:=(rE.mp hx').1;exact sA (Nat.min_le_left _ _) (rh (show i<100 by omega) (by decide))
   ·exact bp (sm.trans (ay hT)) hD
   ·rw[ac];congr 2;exact jg (clr_at hx' hy')
  ·rintro H' ⟨sm,hDl⟩;rw[bG,←clr_len (p:=p) (d:=d) hxy,tm]at hDl;exact k H' D sm hD hDl
end
structure LLI(H:Hp)(p:Addr)(rs:List Addr)(ls:List (List Int)):Prop where
 lst:H p=some (.lst (rs.map V.ref))
 len:rs.length=ls.length
 at_:∀(i:Nat) (r:Addr) (l:List Int),rs[i]?=some r→ls[i]?=some l→H r=some (.lst (iV l))
 ne:∀r,r∈rs→r≠p
theorem LLI.same{H H':Hp}{p:Addr}{rs:List Addr}{ls:List (List Int)}(h:LLI H p rs ls)(e:ao H H'):LLI H' p rs ls :=
 ⟨e _ _ h.lst,h.len,λi r l a b=>e _ _ (h.at_ i r l a b),h.ne⟩
theorem LLI.get{H:Hp}{p:Addr}{rs:List Addr}{ls:List (List Int)}(h:LLI H p rs ls){i:Nat}{l:List Int}(hi:ls[i]?=some l):∃r,rs[i]?=some r∧H r=some (.lst (iV l)):=by
 have hl:=(rE.mp hi).1;have hr:i<rs.length:=by rw[h.len];exact hl
 exact tF (rs[i]) (sG hr) (h.at_ i _ l (sG hr) hi)
theorem LLI.put{H H':Hp}{p q:Addr}{rs:List Addr}{ls:List (List Int)}{l:List Int}{i:Nat}(h:LLI H p rs ls)(hi:i<ls.length)(e:∀b o,H b=some o→b≠p→H' b=some o)(hp:H' p=some (.lst ((rs.map V.ref).set i (V.ref q))))(hq:H' q=some (.lst (iV l)))(hqp:q≠p):LLI H' p (rs.set i q) (ls.set i l):=by
 refine⟨by rw[hp,List.map_set],by rw[si,si,h.len],λj r m a b=>?_,λr hr=>?_⟩
 ·rw[List.getElem?_set]at a b;by_cases hj:i=j
  ·subst hj;rw[if_pos rfl,if_pos (by rw[h.len];exact hi)]at a;rw[if_pos rfl,if_pos hi]at b;cases a;cases b;exact hq
  ·rw[if_neg hj]at a b;exact e _ _ (h.at_ j r m a b) (h.ne r (r8 a))
 ·rcases tu hr with h1|h1
  ·exact h.ne r h1
  ·rw[h1];exact hqp
abbrev sTri:Stmt:=top 15
def bQ(A:Nat→Nat→Int)(n k i:Nat):List Int:=(rn (n+1)).map λj=>(Lr.Bp A k).1 i j
def gn(A:Nat→Nat→Int)(n k m:Nat):List (List Int):=(rn n).map λi=>if i<m then bQ A n (k+1) i else bQ A n k i
def bR(A:Nat→Nat→Int)(n k:Nat):List (List Int):=(rn n).map λi=>bQ A n k i
theorem bE(A:Nat→Nat→Int)(n k i:Nat):(bQ A n k i).length=n+1:=by unfold bQ;simp
theorem gc{A:Nat→Nat→Int}{n k i j:Nat}(h:j<n+1):(bQ A n k i)[j]?=some ((Lr.Bp A k).1 i j):=by
 unfold bQ;rw[r6,sR h];rfl
theorem cZ{A:Nat→Nat→Int}{n k i j:Nat}(h:j<n+1):(bQ A n k i).getD j 0=(Lr.Bp A k).1 i j:=Lr.cj _ _ h
theorem ir{A:Nat→Nat→Int}{n k i:Nat}(h:i≤k):bQ A n (k+1) i=bQ A n k i:=by
 unfold bQ;refine sS (λj _=>?_);show(if i≤k then _ else _)=_;rw[if_pos h]
theorem rowAt_clr{A:Nat→Nat→Int}{n k i:Nat}(h:k<i)(hk:k<n):clr (bQ A n k i) (bQ A n k k) k (Lr.Bp A k).2=bQ A n (k+1) i:=by
 apply sY;intro j;by_cases hj:j<n+1
 ·rw[clr_at (gc hj) (gc hj),gc hj,cZ (by omega),cZ (by omega)];show _=some (if i≤k then _ else _);rw[if_neg (by omega)]
 ·rw[su (by rw[clr_len (by rw[bE,bE]),bE];omega),su (by rw[bE];omega)]
theorem ee(A:Nat→Nat→Int)(n k m:Nat):(gn A n k m).length=n:=by unfold gn;simp
theorem jf{A:Nat→Nat→Int}{n k m i:Nat}(h:i<n):(gn A n k m)[i]?=some (if i<m then bQ A n (k+1) i else bQ A n k i):=by
 unfold gn;rw[r6,sR h];rfl
theorem pX(A:Nat→Nat→Int)(n k:Nat):gn A n k (k+1)=bR A n k:=by
 unfold gn bR;refine sS (λi _=>?_);by_cases h:i<k+1
 ·rw[if_pos h,ir (by omega)]
 ·rw[if_neg h]
theorem mixAt_end(A:Nat→Nat→Int)(n k:Nat):gn A n k n=bR A n (k+1):=by
 unfold gn bR;refine sS (λi hi=>?_);rw[if_pos (rp.1 hi)]
theorem mixAt_set{A:Nat→Nat→Int}{n k m:Nat}(h:m<n):(gn A n k m).set m (bQ A n (k+1) m)=gn A n k (m+1):=by
 apply sY;intro i;rw[List.getElem?_set];by_cases hi:i<n
 ·rw[jf hi,jf hi,ee];by_cases e:m=i
  ·subst e;rw[if_pos rfl,if_pos h,if_pos (by omega)]
  ·rw[if_neg e];by_cases h1:i<m
   ·rw[if_pos h1,if_pos (show i<m+1 by omega)]
   ·rw[if_neg h1,if_neg (show ¬i<m+1 by omega)]
 ·rw[if_neg (by omega),su (by rw[ee];omega),su (by rw[ee];omega)]
structure Fine(A:Nat→Nat→Int)(n:Nat):Prop where
 small:∀k i j,k<n→k≤i→i<n→j<n+1→Sml 2000 ((Lr.Bp A k).1 i j)
 pos:∀k,k<n→0<(Lr.Bp A k).2
 prev:∀k,k<n→Sml 2000 (Lr.Bp A k).2
theorem jW{A:Nat→Nat→Int}{n k i:Nat}(F:Fine A n)(hk:k<n)(h1:k≤i)(hi:i<n):∀x,x∈bQ A n k i→Sml 2000 x:=by
 intro x hx;obtain⟨j,hj,rfl⟩:=sv.1 hx;exact F.small k i j hk h1 hi (rp.1 hj)
section
variable {P:Program} {w:World} {K:fG} {mg:Str→Option Value} {base:Heap}
def spTri(K:fG):Sp:=λvs H Q _=>∃(p:Addr) (rs:List Addr) (A:Nat→Nat→Int) (n:Nat),vs=[.ref p]∧LLI H p rs (bR A n 0)∧n≤90∧Fine A n∧∀(H':Hp) (q:Addr) (rs':List Addr),ao H H'→LLI H' q rs' (bR A n n)→Q (.ref q) H'
abbrev nTri:List Str:=["rows","done","divisor","place","below"]
theorem mq:ap nTri ["rows"] (ag sTri):=⟨rfl,rfl,rfl,by decide +kernel,rfl,by decide +kernel,by decide +kernel⟩
theorem fD(A:Nat→Nat→Int)(n k:Nat):(bR A n k).length=n:=by unfold bR;simp
theorem ok_tri{f:Addr}{fd:FuncData}(F:Fun K "triangle" "triangle" sTri f fd)(D:aN K mg "cleared" ga ["row","by","place","divisor"])(hlen:mg "len" = none)(hrange:mg "range" = none)(hlist:mg "list" = none)(hzip:mg "zip" = none):aZ P w K mg base CX0 2 f fd ["rows"] (spTri K):=by
 refine F.ok mq (λvs H Q E h=>?_) (λcdv A outer s H vs Q E hr h=>?_)
 ·obtain⟨p,rs,A,n,rfl,_⟩:=h;rfl
 ·obtain⟨p,rs,M,n,rfl,L,hn,Fn,k⟩:=h;refine tF _ (ad (aC (i:=1) mq.nd rfl (Or.inl rfl) (da jk rfl hlist (by decide +kernel) (aa (pv 0) ae)))
   (ad (aC (i:=2) mq.nd rfl (Or.inl rfl) al)
   (ad (cn PassesOwn.never rfl (gT rfl hrange (aa (aM au (by rfl) hlen PySem.boot_len (aa (pv 1) ae)) ae)) (aw (i:=3) mq.nd rfl (Or.inl rfl))
    (ad (cn PassesOwn.never rfl (gS rfl hrange (aa (aT cB (pv 3) al) (aa (aM au (by rfl) hlen PySem.boot_len (aa (pv 1) ae)) ae))) (aw (i:=4) mq.nd rfl (Or.inl rfl))
     (ah (iw (aJ (ok_clear D.F hzip) hr rfl D.mgf D.F.kp D.b .nil az (aa (aU aA (pv 1) (pv 4) (λ_ _=>rfl)) (aa (aU aA (pv 1) (pv 3) (λ_ _=>rfl)) (aa (pv 3) (aa (pv 2) ae))))) (iy (pv 1) (pv 4) eA))))
    (ah (aC (i:=2) mq.nd rfl (Or.inl rfl) (aU aA (aU aA (pv 1) (pv 3) (λ_ _=>rfl)) (pv 3) (λ_ _=>rfl))))))
   (ah (aj (pv 1)))))) ?_
  refine tW _ rfl p _ rfl (.inl (SqL.of L.lst)) (λdn hdn=>?_);have s0:ao H (upd H dn (.lst (rs.map V.ref))):=ay hdn;have L0:LLI (upd H dn (.lst (rs.map V.ref))) dn rs (bR M n 0):=by
   refine⟨ac,L.len,λi r l a b=>s0 _ _ (L.at_ i r l a b),λr hr=>?_⟩;obtain⟨i,hi⟩:=sM hr;have hil:i<(bR M n 0).length:=by rw[←L.len];exact(rE.mp hi).1
   exact ai (L.at_ i r _ hi (sG hil)) hdn
  have hrn:∀{rs:List Addr} {H:Hp} {k:Nat},LLI H dn rs (bR M n k)→((rs.map V.ref).length:Int)=(n:Int):=by
   intro rs H k h;rw[rR,h.len,fD]
  have hrn0:((rs.map V.ref).length:Int)=(n:Int):=hrn L0;refine tW _ rfl dn _ rfl (.inl (SqL.of ac)) (ua ((rs.map V.ref).length:Int) rfl (by omega) (by omega) (ft (n:=((rs.map V.ref).length:Int).toNat) (λi σ H'=>∃(rs':List Addr) (v3 v4:Option V),σ=[some (.ref p),some (.ref dn),some (.int (Lr.Bp M i).2),v3,v4]∧ao H H'∧LLI H' dn rs' (bR M n i))
   (tM rs none none rfl s0 L0) ?_ ?_))
  ·rintro i σ H1 hi ⟨rs1,v3,v4,rfl,sm1,L1⟩;have hi':i<n:=by omega
   rw[←pX]at L1;have hl1:((rs1.map V.ref).length:Int)=(n:Int):=by rw[rR,L1.len,ee]
   have e0:(0:Int)+(i:Nat)=(i:Int):=Int.zero_add _;refine tQ _ rfl _ _ (t9 rfl rfl _ rfl dn _ (ue rfl (.inl (SqL.of L1.lst)) ((i:Int)+1) ((rs1.map V.ref).length:Int) (by rw[e0]) (ud (by omega) (by omega) (by omega) (by omega)) (ft (n:=(((rs1.map V.ref).length:Int)-((i:Int)+1)).toNat) (λm σ H'=>∃(rs':List Addr) (v4:Option V),σ=[some (.ref p),some (.ref dn),some (.int (Lr.Bp M i).2),some (.int (i:Int)),v4]∧ao H H'∧LLI H' dn rs' (gn M n i (i+1+m)))
    (tH rs1 v4 (by rw[e0];rfl) sm1 L1) ?_ ?_)))
   ·rintro m σ H2 hm ⟨rs2,v4,rfl,sm2,L2⟩;obtain⟨t,ht⟩:∃t,t=i+1+m:=⟨_,rfl⟩
    have htn:t<n:=by omega
    rw[←ht]at L2;obtain⟨rt,hrt,hrt2⟩:=L2.get (jf htn);obtain⟨ri,hri,hri2⟩:=L2.get (jf hi');rw[if_neg (by omega)]at hrt2;rw[if_pos (by omega),ir (rL i)]at hri2;have et:((i:Int)+1)+(m:Nat)=(t:Int):=by omega
    rw[et];refine tT _ rfl _ rfl dn _ (tG _ _ rfl rfl (SqL.of L2.lst) (aR (j:=t) (v:=V.ref rt) (by rw[r6,hrt];rfl)) ?_);refine tT _ rfl _ rfl dn _ (tG _ _ rfl rfl (SqL.of L2.lst) (aR (j:=i) (v:=V.ref ri) (by rw[r6,hri];rfl)) ?_);refine tF _ rfl (tV _ rfl rt ri (bQ M n i t) (bQ M n i i) (tG i ((Lr.Bp M i).2) rfl (SqL.of hrt2) (SqL.of hri2) (by rw[bE,bE]) (tN (by rw[bE];omega) (by rw[bE];omega) (jW Fn hi' (by omega) htn) (jW Fn hi' (rL i) hi') (Fn.pos i hi') (Fn.prev i hi') (λH3 q sm3 hq hq2=>?_))));rw[rowAt_clr (by omega) hi']at hq2;have hqd:q≠dn:=(ai L2.lst hq).symm;refine tT _ rfl _ rfl dn _ (tG _ t rfl rfl (sm3 _ _ L2.lst) (fJ (by rw[rR,L2.len,ee];exact htn)) ?_);refine tH (rs2.set t q) _ rfl (bp (sm2.trans sm3) hdn) ?_;rw[show i+1+(m+1)=t+1 by omega,←mixAt_set htn];exact L2.put (by rw[ee];exact htn) (λb o e hb=>by rw[af hb];exact sm3 _ _ e) ac (by rw[af hqd];exact hq2) hqd
   ·rintro σ H2 ⟨rs2,v4,rfl,sm2,L2⟩;have em:i+1+(((rs1.map V.ref).length:Int)-((i:Int)+1)).toNat=n:=by omega
    rw[em,mixAt_end]at L2;have hri0:(bR M n (i+1))[i]?=some (bQ M n (i+1) i):=by
     unfold bR;rw[r6,sR hi'];rfl
    obtain⟨ri,hri,hri2⟩:=L2.get hri0;rw[ir (rL i)]at hri2;refine tT _ rfl _ rfl dn _ (tG _ _ rfl rfl (SqL.of L2.lst) (aR (j:=i) (v:=V.ref ri) (by rw[r6,hri];rfl)) ?_);refine tQ _ rfl ri _ (tG _ _ rfl rfl (SqL.of hri2) (aR (j2 (by rw[bE];omega))) ?_);rw[cZ (by omega)];exact tM rs2 _ _ rfl sm2 L2
  ·rintro σ H1 ⟨rs1,v3,v4,rfl,sm1,L1⟩;have e:((rs.map V.ref).length:Int).toNat=n:=by omega
   rw[e]at L1;exact tF _ rfl (k H1 dn rs1 sm1 L1)
end
abbrev sSol:Stmt:=top 16
def zAt(n:Nat)(Z:Nat→Int)(k:Nat):List Int:=(rn n).map λq=>if q<k then 0 else Z q
theorem gI(n:Nat)(Z:Nat→Int)(k:Nat):(zAt n Z k).length=n:=by unfold zAt;simp
theorem m8{n:Nat}{Z:Nat→Int}{k q:Nat}(h:q<n):(zAt n Z k)[q]?=some (if q<k then 0 else Z q):=by
 unfold zAt;rw[r6,sR h];rfl
theorem zAt_set{n:Nat}{Z:Nat→Int}{k:Nat}(h:k<n):(zAt n Z (k+1)).set k (Z k)=zAt n Z k:=by
 apply sY;intro q;rw[List.getElem?_set];by_cases hq:q<n
 ·rw[m8 hq,m8 hq,gI];by_cases e:k=q
  ·subst e;rw[if_pos rfl,if_pos h,if_neg (by omega)]
  ·rw[if_neg e];by_cases h1:q<k
   ·rw[if_pos h1,if_pos (show q<k+1 by omega)]
   ·rw[if_neg h1,if_neg (show ¬q<k+1 by omega)]
 ·rw[if_neg (by omega),su (by rw[gI];omega),su (by rw[gI];omega)]
theorem zAt_all(n:Nat)(Z:Nat→Int):zAt n Z n=rW n 0:=by
 apply sY;intro q;by_cases hq:q<n
 ·rw[m8 hq,if_pos hq,List.getElem?_replicate,if_pos hq]
 ·rw[su (by rw[gI];omega),su (by rw[sf];omega)]
theorem zAt_zero(n:Nat)(Z:Nat→Int):zAt n Z 0=(rn n).map Z:=by
 unfold zAt;exact sS (λq _=>if_neg (by omega))
structure Sol(A:Nat→Nat→Int)(n:Nat)(d:Int)(Z:Nat→Int):Prop where
 fine:Fine A n
 none_:n=0→d=1
 last:0<n→(Lr.Bp A n).1 (n-1) (n-1)=d
 back:∀p,p<n→d*(Lr.Bp A n).1 p n-Lr.bL (n-(p+1)) (λj=>(Lr.Bp A n).1 p (p+1+j)*Z (p+1+j))=(Lr.Bp A n).1 p p*Z p
 pos:∀p,p<n→0<(Lr.Bp A n).1 p p
 smU:∀p j,p<n→j<n+1→Sml 2000 ((Lr.Bp A n).1 p j)
 smZ:∀q,q<n→Sml 2000 (Z q)
section
variable {P:Program} {w:World} {K:fG} {mg:Str→Option Value} {base:Heap}
def spSol(K:fG):Sp:=λvs H Q _=>∃(p:Addr) (rs:List Addr) (A:Nat→Nat→Int) (n:Nat) (d:Int) (Z:Nat→Int),vs=[.ref p]∧LLI H p rs (bR A n 0)∧n≤90∧Sol A n d Z∧∀(H':Hp) (q:Addr),ao H H'→H' q=some (.lst (iV (d::(rn n).map Z)))→Q (.ref q) H'
abbrev nSol:List Str:=["rows","size","done","below","above","place","row","known","later"]
theorem fO:ap nSol ["rows"] (ag sSol):=⟨rfl,rfl,rfl,by decide +kernel,rfl,by decide +kernel,by decide +kernel⟩
theorem ok_sol{f:Addr}{fd:FuncData}(F:Fun K "solution" "solution" sSol f fd)(D:aN K mg "triangle" sTri ["rows"])(DC:aN K mg "cleared" ga ["row","by","place","divisor"])(hlen:mg "len" = none)(hrange:mg "range" = none)(hlist:mg "list" = none)(hzip:mg "zip" = none)(hsum:mg "sum" = none):aZ P w K mg base CX0 3 f fd ["rows"] (spSol K):=by
 refine F.ok fO (λvs H Q E h=>?_) (λcdv A outer s H vs Q E hr h=>?_)
 ·obtain⟨p,rs,A,n,d,Z,rfl,_⟩:=h;rfl
 ·obtain⟨p,rs,M,n,d,Z,rfl,L,hn,S,k⟩:=h;refine tF _ (ad (aC (i:=1) fO.nd rfl (Or.inl rfl) (aM au (by rfl) hlen PySem.boot_len (aa (pv 0) ae)))
   (ad (bh (aP bH (pv 1) al (aO _)) (ah (aj (aG (aa al ae)))) aI)
   (ad (aC (i:=2) fO.nd rfl (Or.inl rfl) (aJ (ok_tri D.F DC hlen hrange hlist hzip) hr rfl D.mgf D.F.kp D.b .nil az (aa (pv 0) ae)))
   (ad (aC (i:=3) fO.nd rfl (Or.inl rfl) (aU aA (aU aA (pv 2) (aT dZ (pv 1) al) (λ_ _=>rfl)) (aT dZ (pv 1) al) (λ_ _=>rfl)))
   (ad (aC (i:=4) fO.nd rfl (Or.inr rfl) (fi (own:=[("row",6)]) rfl fO.nd (bZ (pv 0)) (show db nSol (ag sSol) _ [("row",6)] from⟨rfl,by decide +kernel,by decide +kernel,by decide +kernel,by decide +kernel⟩) (λ_ _ _ _ _=>aw (i:=6) fO.nd rfl (Or.inl rfl)) (λ_ _ _ _ _=>bY) (λ_ _ _ _ _=>al)))
   (ad (cn PassesOwn.never rfl (mB rfl hrange (aa (aT dZ (pv 1) al) (aa (jX fY al) (aa (jX fY al) ae)))) (aw (i:=5) fO.nd rfl (Or.inl rfl))
    (ad (aC (i:=6) fO.nd rfl (Or.inr rfl) (aU aA (pv 2) (pv 5) (λ_ _=>rfl)))
    (ad (aC (i:=7) fO.nd rfl (Or.inl rfl) (aM (jF rfl) (by rfl) hsum (by decide +kernel) (aa (fi (own:=[("later",8)]) rfl fO.nd (gS rfl hrange (aa (aT cB (pv 5) al) (aa (pv 1) ae))) (show db nSol (ag sSol) _ [("later",8)] from⟨rfl,by decide +kernel,by decide +kernel,by decide +kernel,by decide +kernel⟩)
     (λ_ _ _ _ _=>aw (i:=8) fO.nd rfl (Or.inl rfl)) (λ_ _ _ _ _=>bY) (λ_ _ _ _ _=>aT dk (aU (r:=rIxL K) aA (pv 6) (pv 8) (λ_ _=>rfl)) (aU (r:=rIxL K) aA (pv 4) (pv 8) (λ_ _=>rfl)))) ae)))
    (ah (iw (aT jb (aT dZ (aT dk (pv 3) (aU aA (pv 6) (pv 1) (λ_ _=>rfl))) (pv 7)) (aU aA (pv 6) (pv 5) (λ_ _=>rfl))) (iy (pv 4) (pv 5) eA))))))
   (ah (aj (aT cA (aG (aa (pv 3) ae)) (pv 4)))))))))) ?_
  have hrn:((rs.map V.ref).length:Int)=(n:Int):=by rw[rR,L.len,fD]
  refine tW _ rfl p _ rfl (.inl (SqL.of L.lst)) ?_;rw[hrn];refine tL _ rfl rfl _ rfl ?_;by_cases h0:n=0
  ·subst h0;refine⟨(by show 1≤sizeLine;decide),λq hq=>?_⟩;rw[S.none_ rfl]at k;exact k _ q (ay hq) ac
  ·refine bF (decide_eq_false (by intro e;injection e with e;omega)) ?_;refine tQ _ rfl p rs (tG M n rfl L hn S.fine (λH1 dn rs1 sm1 L1=>?_));have hrow:∀i,i<n→(bR M n n)[i]?=some (bQ M n n i):=by
    intro i hi;unfold bR;rw[r6,sR hi];rfl
   obtain⟨rl,hrl,hrl2⟩:=L1.get (hrow (n-1) (by omega));have en:(n:Int)-1=((n-1:Nat):Int):=by omega
   refine tT _ rfl _ rfl _ _ (uu rfl rfl dn _ _ (t8 _ rfl rfl (SqL.of L1.lst) (by rw[en];exact aR (j:=n-1) (v:=V.ref rl) (by rw[r6,hrl];rfl)) ?_));refine tQ _ rfl _ _ (uu rfl rfl rl _ _ (t8 _ rfl rfl (SqL.of hrl2) (by rw[en];exact aR (j2 (l:=bQ M n n (n-1)) (i:=n-1) (by rw[bE];omega))) ?_));rw[cZ (by omega),S.last (by omega)];refine uq _ rfl p rfl ⟨_,SqL.of (sm1 _ _ L.lst)⟩ (λab hab=>d6 (K:=K) (a:=p) (xs:=rs.map V.ref) (λi H'=>H'=upd H1 ab (.lst (iV (rW i 0)))) rfl
    (λi H' _ e=>by rw[e];exact SqL.of (ay hab _ _ (sm1 _ _ L.lst))) ?_ ?_)
   ·rintro i x H' hx rfl;refine uk rfl _ ac ?_ ?_
    ·have:=(rE.mp hx).1;rw[bG,sf];exact rh (show i<90 by omega) (by decide)
    ·rw[bX,tf];unfold iV;rw[sQ];rfl
   ·rintro H' rfl;have e0:(rs.map V.ref).length=n:=by omega
    rw[e0,←zAt_all n Z];have sm2:∀k,ao H1 (upd H1 ab (.lst (iV (zAt n Z k)))):=λk=>ay hab;have elast:((n:Int)-1 - -1).toNat=n:=by omega
    refine tW _ rfl _ _ rfl rfl (ur _ rfl _ rfl _ (tM _ _ _ rfl (RgC.neg (by omega) (by omega) (by decide) (by decide)) ?_));refine lr (n:=((n:Int)-1 - -1).toNat) (λi σ H'=>∃v5 v6 v7:Option V,σ=[some (.ref p),some (.int (n:Int)),some (.ref dn),some (.int d),some (.ref ab),v5,v6,v7,none]∧ao H1 H'∧H' ab=some (.lst (iV (zAt n Z (n-i)))))
     (tM none none none rfl (sm2 n) (by rw[Nat.sub_zero];exact ac)) ?_ ?_
    ·rintro i σ H2 hi ⟨v5,v6,v7,rfl,sm3,hA⟩;rw[elast]at hi;obtain⟨j,hj,ej⟩:∃j:Nat,j+1=n-i∧(n:Int)-1+(i:Int) * -1=(j:Int):=tF (n-i-1) (by omega) (by omega)
     rw[ej];rw[←hj]at hA;have hjn:j<n:=by omega
     obtain⟨rj,hrj,hrj2⟩:=L1.get (hrow j hjn);have hrj3:=sm3 _ _ hrj2;have hrab:rj≠ab:=ai hrj2 hab;refine tT _ rfl _ rfl dn _ (tG _ _ rfl rfl (SqL.of (sm3 _ _ L1.lst)) (aR (j:=j) (v:=V.ref rj) (by rw[r6,hrj];rfl)) ?_);refine tW _ rfl _ _ rfl rfl (tW _ rfl ((j:Int)+1) (n:Int) rfl (ud (by omega) (by omega) (by omega) (by omega)) (λc hc=>lp (lo:=(j:Int)+1) (n:=((n:Int)-((j:Int)+1)).toNat) (λm H'=>H'=upd H2 c (.lst (iV ((rn m).map λt=>(Lr.Bp M n).1 j (j+1+t)*Z (j+1+t))))) rfl ?_ ?_))
     ·rintro m H' hm rfl;have hm':j+1+m<n:=by omega
      have em:((j:Int)+1)+(m:Nat)=((j+1+m:Nat):Int):=by omega
      have smc:ao H2 (upd H2 c (.lst (iV ((rn m).map λt=>(Lr.Bp M n).1 j (j+1+t)*Z (j+1+t))))):=ay hc;refine⟨rfl,?_⟩;refine tT _ rfl _ rfl rj _ (tG _ _ rfl rfl (SqL.of (smc _ _ hrj3)) (by rw[em];exact aR (j:=j+1+m) (j2 (l:=bQ M n n j) (by rw[bE];omega))) ?_);refine tT _ rfl _ rfl ab _ (tG _ _ rfl rfl (SqL.of (smc _ _ hA)) (by rw[em];exact aR (j:=j+1+m) (j2 (l:=zAt n Z (j+1)) (by rw[gI];exact hm'))) ?_);have eZ:(zAt n Z (j+1)).getD (j+1+m) 0=Z (j+1+m):=by
       rw[so,m8 hm',if_neg (by omega)];rfl
      rw[eZ,cZ (by omega)];refine tH _ _ rfl rfl (uk (tH 2000 2000 (S.smU j _ hjn (by omega)) (S.smZ _ hm') (by decide)) _ ac ?_ ?_)
      ·rw[bG,rR,sO];exact rh (show m<90 by omega) (by decide)
      ·rw[bX,sP,sQ];unfold iV;rw[sQ];rfl
     ·rintro H' rfl;have smc:ao H2 (upd H2 c (.lst (iV ((rn ((n:Int)-((j:Int)+1)).toNat).map λt=>(Lr.Bp M n).1 j (j+1+t)*Z (j+1+t))))):=ay hc;refine tH c _ rfl (SqL.of ac) ?_;rw[Lr.js,show((n:Int)-((j:Int)+1)).toNat=n-(j+1) by omega];rw[show((n:Int)-((j:Int)+1)).toNat=n-(j+1) by omega]at smc;refine tF _ rfl (tT _ rfl _ rfl rj _ (tG _ _ rfl rfl (SqL.of (smc _ _ hrj3)) (aR (j:=n) (j2 (l:=bQ M n n j) (by rw[bE];omega))) ?_));rw[cZ (by omega)];have smd:Sml 2000 d:=by
       have:=S.smU (n-1) (n-1) (by omega) (by omega);rw[S.last (by omega)]at this;exact this
      refine tP _ _ rfl rfl (tH 2000 2000 smd (S.smU j n hjn (by omega)) (by decide)) (tW _ rfl _ _ rfl rfl ?_);refine tT _ rfl _ rfl rj _ (tG _ _ rfl rfl (SqL.of (smc _ _ hrj3)) (aR (j:=j) (j2 (l:=bQ M n n j) (by rw[bE];omega))) ?_);rw[cZ (by omega)];refine tP _ _ rfl rfl (tX (S.pos j hjn) 2000 (S.smU j j hjn (by omega)) (by decide)) ?_;refine tT _ rfl _ rfl ab _ (tG _ j rfl rfl (smc _ _ hA) (fJ (by rw[bG,gI];exact hjn)) ?_);refine tM _ _ _ rfl (bp (sm3.trans smc) hab) ?_;have hne:(Lr.Bp M n).1 j j≠0:=by
       have:=S.pos j hjn;omega
      rw[ac,S.back j hjn,show n-(i+1)=j by omega,←zAt_set hjn];dsimp only;rw[Int.mul_ediv_cancel_left _ hne];unfold iV;rw[List.map_set]
    ·rintro σ H2 ⟨v5,v6,v7,rfl,sm3,hA⟩;rw[elast,sJ,zAt_zero]at hA;refine tK _ rfl (by show 1≤sizeLine;decide) (λt ht=>?_);refine tR _ rfl t ab _ (tJ _ rfl rfl ac (ay ht _ _ hA) ?_ (λq hq=>?_))
     ·rw[bG,rR,sO];exact rq (show 1+n≤91 by omega) (by decide)
     ·exact k _ q (((sm1.trans sm3).trans (ay ht)).trans (ay hq)) ac
end
end My
end
section
namespace My
open Lr
theorem kK{a:Su111.Abs}(h:vol a.rooms≤27)(hm:a.m≤4){z:Int}(hz:z.natAbs≤big a):Sml 2000 z:=by
 have h1:=big_lt h hm;have h2:(2:Nat)^500≤2^2000:=sZ (by omega) (by omega);show z.natAbs<2^2000;omega
theorem oB{a:Su111.Abs}(hv:a0 a){k i:Nat}(hk:k≤vol a.rooms-1)(hi:i<vol a.rooms-1)(j:Nat):(((Bp (Ap a) k).1 i j:Int):Rat)=pr (up (Ap a)) (min i k)*G (up (Ap a)) (min i k) i j∧((Bp (Ap a) k).1 i j).natAbs≤big a:=by
 have hp:Piv (up (Ap a)) k:=λl hl=>i7 hv l (by omega);have e:=(Bp_eq (Ap a) hp).2 i j;obtain⟨z,hz,hb⟩:=prog_rows hv (k:=min i k) (by omega) (i:=i) (by omega) j;refine⟨e,?_⟩;rw[←hz]at e;rw[dW e];exact hb
theorem sol_of{a:Su111.Abs}(hv:a0 a)(h:vol a.rooms≤27)(hm:a.m≤4):∃d Z,lP a d Z∧Sol (Ap a) (vol a.rooms-1) d Z:=by
 obtain⟨d,Z,F⟩:=found hv;have hn:=bK a.rooms;have hpos2:∀k,k<vol a.rooms-1→0<(Bp (Ap a) k).2:=λk hk=>by
  have e:=(Bp_eq (Ap a) (k:=k) (λl hl=>i7 hv l (by omega))).1;have:=nJ (A:=up (Ap a)) (k:=k) (λl hl=>dQ hv l (by omega));rw[←e]at this;exact Rat.intCast_pos.1 this
 have hbp:∀p,p<vol a.rooms-1→∀j,(((Bp (Ap a) (vol a.rooms-1)).1 p j:Int):Rat)=pr (up (Ap a)) p*G (up (Ap a)) p p j:=λp hp j=>by
  have:=(oB hv (k:=vol a.rooms-1) (rL _) hp j).1;rw[show min p (vol a.rooms-1)=p by omega]at this;exact this
 refine tO d Z F ⟨⟨λk i j hk h1 h2 _=>kK h hm (oB hv (by omega) h2 j).2,hpos2,λk hk=>?_⟩,λh0=>?_,λh0=>?_,λp hp=>?_,λp hp=>?_,λp j hp _=>kK h hm (oB hv (rL _) hp j).2,λq hq=>kK h hm (F.leZ q hq)⟩
 ·cases k with
  |zero=>exact kK h hm (z:=1) (Nat.pow_pos (Nat.mul_pos (bK a.rooms) (fz a.m)))
  |succ k=>exact kK h hm (oB hv (k:=k) (by omega) (i:=k) (by omega) k).2
 ·have e:=F.below;rw[h0]at e;exact dW e
 ·apply dW;rw[hbp _ (by omega),F.below,show pr (up (Ap a)) (vol a.rooms-1)=pr (up (Ap a)) (vol a.rooms-1-1+1) by rw[show vol a.rooms-1-1+1=vol a.rooms-1 by omega]];rfl
 ·exact F.back p hp (λj=>(Bp (Ap a) (vol a.rooms-1)).1 p j) (λj _=>hbp p hp j)
 ·have h1:=nJ (A:=up (Ap a)) (k:=p) (λl hl=>dQ hv l (by omega));have h2:=dQ hv p hp;have h3:=Rat.mul_pos h1 h2;rw[←hbp p hp]at h3;exact Rat.intCast_pos.1 h3
end My
end
section
namespace My
open PySem PySem.Spec PyProof.Rows L2
abbrev ib:Stmt:=top 3
abbrev sGcd:Stmt:=top 4
abbrev sLow:Stmt:=top 5
section
variable {P:Program} {w:World} {K:fG} {mg:Str→Option Value} {base:Heap}
def i8(l:List Int):Int:=l.foldl (λx y=>x*y) 1
def spProd(K:fG):Sp:=λvs H Q _=>∃(a:Addr) (ns:List Int),vs=[.ref a]∧SqL K H a (iV ns)∧(∀n,n∈ns→-(2^64)<n∧n<2^64)∧Q (.int (i8 ns)) H
theorem qZ{f:Int→Int→Int}{l:List Int}{i:Nat}{x c:Int}(h:l[i]?=some x):(l.take (i+1)).foldl f c=f ((l.take i).foldl f c) x:=by
 rw[sI,h,List.foldl_append];rfl
theorem nA:ap ["numbers","result","number"] ["numbers"] (ag ib):=⟨rfl,rfl,rfl,by decide +kernel,rfl,by decide +kernel,by decide +kernel⟩
theorem nS{f:Addr}{fd:FuncData}(F:Fun K "product" "product" ib f fd):aZ P w K mg base CX0 1 f fd ["numbers"] (spProd K):=by
 refine F.ok nA (λvs H Q E h=>?_) (λcdv A outer s H vs Q E hr h=>?_)
 ·obtain⟨a,ns,rfl,_⟩:=h;rfl
 ·obtain⟨a,ns,rfl,hS,hb,k⟩:=h;refine tF _ (ad (aC (i:=1) nA.nd rfl (Or.inl rfl) al)
   (ad (cn PassesOwn.never rfl (bZ (pv 0)) (aw (i:=2) nA.nd rfl (Or.inl rfl))
    (ah (aC (i:=1) nA.nd rfl (Or.inl rfl) (aT op_mul (pv 1) (pv 2)))))
   (ah (aj (pv 1))))) ?_
  refine uq _ rfl a rfl ⟨_,hS⟩ (dS (K:=K) (a:=a) (xs:=iV ns) (λi σ H'=>∃v:Option V,σ=[some (.ref a),some (.int (i8 (ns.take i))),v]∧H'=H)
   (tF none rfl rfl) (λi σ H' _ ⟨_,_,e⟩=>by rw[e];exact hS) ?_ ?_)
  ·rintro i y σ H' hi ⟨v,rfl,rfl⟩;obtain⟨z,hz,rfl⟩:=iV_get hi;refine t0 _ rfl _ rfl (tP _ _ rfl rfl (.inr (hb z (r8 hz))) ?_);refine tF (some (.int z)) ?_ rfl;show [some (V.ref a),some (V.int (i8 (ns.take i)*z)),some (V.int z)]=_;unfold i8;rw[qZ hz]
  ·rintro σ H' ⟨v,rfl,rfl⟩;rw[bG,tm];exact tF _ rfl k
def spGcd:Sp:=λvs H Q _=>∃(a b:Nat),vs=[.int a,.int b]∧Q (.int (Nat.gcd a b:Nat)) H
theorem scGcd:ap ["one","other","rest"] ["one","other"] (ag sGcd):=⟨rfl,rfl,rfl,by decide +kernel,rfl,by decide +kernel,by decide +kernel⟩
theorem ok_gcd{f:Addr}{fd:FuncData}(F:Fun K "common_measure" "common_measure" sGcd f fd):aZ P w K mg base CX0 1 f fd ["one","other"] spGcd:=by
 refine F.ok scGcd (λvs H Q E h=>?_) (λcdv A outer s H vs Q E hr h=>?_)
 ·obtain⟨a,b,rfl,_⟩:=h;rfl
 ·obtain⟨a,b,rfl,k⟩:=h;refine tF _ (ad (pq PassesOwn.never (aP k5 (pv 1) al (aO _))
    (ad (aC (i:=2) scGcd.nd rfl (Or.inl rfl) (aT op_mod (pv 0) (pv 1)))
    (ad (aC (i:=0) scGcd.nd rfl (Or.inl rfl) (pv 1))
    (ah (aC (i:=1) scGcd.nd rfl (Or.inl rfl) (pv 2))))))
   (ah (aj (pv 0)))) ?_
  refine oM (λσ H'=>∃(x y:Nat) (v:Option V),σ=[some (.int x),some (.int y),v]∧H'=H∧Nat.gcd x y=Nat.gcd a b)
   (λσ _=>match σ with|[_,some (.int y),_]=>y.toNat|_=>0) (tM a b none rfl rfl rfl) ?_ ?_
  ·rintro σ H' ⟨x,y,v,rfl,rfl,hg⟩;refine tF _ rfl (ug _ _ rfl rfl _ rfl ?_);by_cases hy:0<y
   ·refine bT (decide_eq_true (show(0:Int)<(y:Int) by omega)) ?_;refine t0 _ rfl _ rfl (tP _ _ rfl rfl (by show(0:Int)<(y:Int);omega) ?_);refine t0 _ rfl _ rfl ?_;refine⟨(tM y (x%y) (some (.int ((x%y:Nat):Int))) rfl rfl ?_),?_⟩
    ·rw[←hg,Nat.gcd_comm,←Nat.gcd_rec,Nat.gcd_comm]
    ·show((x:Int)%(y:Int)).toNat<((y:Int)).toNat;have:=Nat.mod_lt x hy;omega
   ·refine bF (decide_eq_false (show ¬(0:Int)<(y:Int) by omega)) ?_;have e:y=0:=by omega
    subst e;refine tF _ rfl ?_;rw[Nat.gcd_zero_right]at hg;rw[hg];exact k
  ·rintro σ H' Q Q' hQ ⟨v,e,h1⟩;obtain⟨i,j,e1,e2,k1,e3,q⟩:=h1;exact tF v e (ug i j e1 e2 k1 e3 (hQ _ _ q))
def fr(f:Su111.Fr):List Int:=[f.1,(f.2:Int)]
def spLow:Sp:=λvs H Q _=>∃(a b:Nat),vs=[.int a,.int b]∧0<b∧Sml 9000 (b:Int)∧∀q,H q=none→Q (.ref q) (upd H q (.lst (iV (fr (Su111.low (a:Int) b)))))
theorem low_nat(a:Nat){b:Nat}(hb:0<b):fr (Su111.low (a:Int) b)=[(a:Int)/((Nat.gcd a b:Nat):Int),(b:Int)/((Nat.gcd a b:Nat):Int)]:=by
 unfold Su111.low fr;have hg:Nat.gcd a b≠0:=by
  intro h;have:=Nat.gcd_pos_of_pos_right a hb;omega
 rw[Int.natAbs_natCast,if_neg hg];rfl
theorem scLow:ap ["above","below","measure"] ["above","below"] (ag sLow):=⟨rfl,rfl,rfl,by decide +kernel,rfl,by decide +kernel,by decide +kernel⟩
theorem ok_low{f:Addr}{fd:FuncData}(F:Fun K "lowest" "lowest" sLow f fd)(D:aN K mg "common_measure" sGcd ["one","other"]):aZ P w K mg base CX0 2 f fd ["above","below"] spLow:=by
 refine F.ok scLow (λvs H Q E h=>?_) (λcdv A outer s H vs Q E hr h=>?_)
 ·obtain⟨a,b,rfl,_⟩:=h;rfl
 ·obtain⟨a,b,rfl,hb,hs,k⟩:=h;refine tF _ (ad (aC (i:=2) scLow.nd rfl (Or.inl rfl) (aJ (ok_gcd D.F) hr rfl D.mgf D.F.kp D.b .nil az (aa (pv 0) (aa (pv 1) ae))))
   (ah (aj (aG (aa (aT jb (pv 0) (pv 2)) (aa (aT jb (pv 1) (pv 2)) ae)))))) ?_
  have hg:0<Nat.gcd a b:=Nat.gcd_pos_of_pos_right a hb;have hle:Nat.gcd a b≤b:=Nat.le_of_dvd hb (Nat.gcd_dvd_right a b);have hc:∀i,CDivB i ((Nat.gcd a b:Nat):Int):=λi=>tX (by omega) 9000 (sA (by omega) hs) (rL _)
  refine tF _ rfl (uo _ rfl a b rfl ?_);refine t0 _ rfl _ rfl (tP _ _ rfl rfl (hc _) (t0 _ rfl _ rfl (tG _ _ rfl rfl (hc _) (by show 2≤sizeLine;decide) (λq hq=>?_))));have:=k q hq;rw[low_nat a hb]at this;exact this
end
def cr:List (Str×Nat×Bool):=[("begin",1,false),("machine",2,false),("drop",0,false),("chance",2,false),("room",2,false),("hour",0,true),("empty",0,false),("out",0,false),("rate",1,false),("starved",1,false),("blocked",1,false),("mean",1,false),("full",1,false),("long",0,true),("turn",0,false),("turned",0,false),("better",1,false),("more",1,false),("soon",1,false),("now",0,false),("state",0,false)]
theorem shape_tab:∀j:Fin 21,PySu111.shape ((j.val:Nat):Int)=some ((cr.getD j.val ("",0,false)).2.1,if (cr.getD j.val ("",0,false)).2.2 then 1 else 0)∧((cr.getD j.val ("",0,false)).2.2=true→(cr.getD j.val ("",0,false)).2.1=0):=by decide +kernel
theorem shape_out{p:Int}(h:¬(0≤p∧p<21)):PySu111.shape p=none:=by
 unfold PySu111.shape
 repeat rw[if_neg (by omega)]
theorem fB{p:Int}{n k:Nat}(h:PySu111.shape p=some (n,k)):∃(j:Nat) (nm:Str),p=(j:Int)∧j<21∧cr[j]?=some (nm,n,k==1)∧(k=0∨(k=1∧n=0)):=by
 by_cases hp:0≤p∧p<21
 ·obtain⟨j,rfl⟩:∃j:Nat,p=(j:Int):=⟨p.toNat,by omega⟩
  have hj:j<21:=by omega
  obtain⟨h1,h2⟩:=shape_tab ⟨j,hj⟩;dsimp only at h1 h2;rw[h1]at h;injection h with h;injection h with e1 e2;have hg:cr[j]?=some (cr.getD j ("",0,false)):=by
   rw[so,sG (show j<cr.length from hj)];rfl
  refine tP j ((cr.getD j ("",0,false)).1) rfl hj ?_ ?_
  ·rw[hg];generalize cr.getD j ("",0,false)=f at e1 e2;obtain⟨x,y,z⟩:=f;dsimp only at e1 e2 ⊢;rw[e1,←e2];cases z<;>rfl
  ·cases hz:(cr.getD j ("",0,false)).2.2 with
   |false =>
    rw[hz]at e2;exact .inl e2.symm
   |true =>
    rw[hz]at e2;exact .inr ⟨e2.symm,by rw[←e1];exact h2 hz⟩
 ·rw[shape_out hp]at h;cases h
def jH(c:List (List Int)):Int:=(c.headD []).headD 0
def numsOf(c:List (List Int)):List Int:=(c.headD []).tail++c.tail.flatten
theorem call_read{l:List Int}{c:List (List Int)}{t:List Int}{p:Int}{r:List Int}(hl:l=p::r)(h:PyFlat.call PySu111.shape l=some (c,t)):∃(j:Nat) (nm:Str) (n:Nat) (b:Bool),p=(j:Int)∧j<21∧cr[j]?=some (nm,n,b)∧jH c=p ∧
   ((b=false∧n≤r.length∧numsOf c=r.take n∧t=r.drop n)∨(b=true∧∃m:Nat,∃r':List Int,r=(m:Int)::r'∧m≤r'.length∧numsOf c=r'.take m∧t=r'.drop m)):=by
 subst hl;cases hs:PySu111.shape p with
 |none =>
  simp only[PyFlat.call,hs]at h;cases h
 |some nk =>
  obtain⟨n,k⟩:=nk;simp only[PyFlat.call,hs]at h;obtain⟨j,nm,hj,hjl,hf,hk⟩:=fB hs;by_cases hn:r.length<n
  ·rw[if_pos hn]at h;cases h
  ·rw[if_neg hn]at h;rcases hk with rfl|⟨rfl,rfl⟩
   ·have h:some ([p::r.take n],r.drop n)=some (c,t):=h;injection h with h;injection h with h1 h2;subst h1 h2;refine tU j nm (tG n false hj hjl hf rfl (.inl (ud rfl (by omega) ?_ rfl)));unfold numsOf;simp
   ·cases r with
    |nil =>
     simp only[PyFlat.rows,PyFlat.row,List.drop_zero]at h;cases h
    |cons m r' =>
     simp only[PyFlat.rows,PyFlat.row,List.drop_zero]at h;by_cases hm:0≤m∧m.toNat≤r'.length
     ·rw[if_pos hm]at h;have h:some ([[p],r'.take m.toNat],r'.drop m.toNat)=some (c,t):=h;injection h with h;injection h with h1 h2;subst h1 h2;refine tU j nm (tG 0 true hj hjl hf rfl (.inr ⟨rfl,tP m.toNat r' (by rw[Int.toNat_of_nonneg hm.1]) hm.2 ?_ rfl⟩));unfold numsOf;simp
     ·rw[if_neg hm]at h;cases h
abbrev nF:Stmt:=top 47
structure kx(K:fG)(mg:Str→Option Value):Prop where
 ex:∃(aF:Addr) (ts:List Addr),mg "FORMS" = some (.ref aF)∧(∀H,SqT K H aF (ts.map V.ref))∧ts.length=21∧∀(j:Nat) (t:Addr) (nm:Str) (n:Nat) (b:Bool),ts[j]?=some t→cr[j]?=some (nm,n,b)→∀H,SqT K H t [.str nm,.int (n:Int),.bl b]
structure iL(B H:Hp)(p:Addr)(rs:List Addr)(cs:List (List (List Int))):Prop where
 lst:H p=some (.lst (rs.map V.ref))
 len:rs.length=cs.length
 at_:∀(i:Nat) (r:Addr) (c:List (List Int)),rs[i]?=some r→cs[i]?=some c→∃(j:Nat) (nm:Str) (n:Nat) (b:Bool) (q:Addr),jH c=(j:Int)∧cr[j]?=some (nm,n,b)∧H r=some (.tup [.str nm,.ref q])∧H q=some (.lst (iV (numsOf c)))∧r≠p∧q≠p∧B q=none
section
variable {P:Program} {w:World} {K:fG} {mg:Str→Option Value} {base:Heap}
def spSplit(K:fG):Sp:=λvs H Q _=>∃(a:Addr) (l:List Int) (raw:List (List (List Int))),vs=[.ref a]∧SqL K H a (iV l)∧l.length≤30000∧PyFlat.calls PySu111.shape l.length l=some raw∧∀(H':Hp) (p:Addr) (rs:List Addr),ao H H'→iL H H' p rs raw→H p=none→Q (.ref p) H'
theorem iK{f:Nat}{p:Int}{r:List Int}{cs:List (List (List Int))}(h:PyFlat.calls PySu111.shape f (p::r)=some cs):∃f' c t cs',PyFlat.call PySu111.shape (p::r)=some (c,t)∧PyFlat.calls PySu111.shape f' t=some cs'∧cs=c::cs':=by
 cases f with
 |zero=>simp only[PyFlat.calls]at h;cases h
 |succ f =>
  cases hc:PyFlat.call PySu111.shape (p::r) with
  |none=>simp only[PyFlat.calls,hc]at h;cases h
  |some ct =>
   obtain⟨c,t⟩:=ct;cases hd:PyFlat.calls PySu111.shape f t with
   |none=>simp only[PyFlat.calls,hc,hd]at h;cases h
   |some cs' =>
    simp only[PyFlat.calls,hc,hd]at h;injection h with h;exact⟨f,tM c t cs' rfl hd h.symm⟩
theorem mT{f:Nat}{cs:List (List (List Int))}(h:PyFlat.calls PySu111.shape f []=some cs):cs=[]:=by
 cases f with
 |zero=>simp only[PyFlat.calls]at h;injection h with h;exact h.symm
 |succ f=>simp only[PyFlat.calls]at h;injection h with h;exact h.symm
abbrev nSplit:List Str:=["calls","found","at","form","start","count"]
theorem d5:ap nSplit ["calls"] (ag nF):=⟨rfl,rfl,rfl,by decide +kernel,rfl,by decide +kernel,by decide +kernel⟩
theorem iL.snoc{B H H':Hp}{p r q:Addr}{rs:List Addr}{cs:List (List (List Int))}{c:List (List Int)}{j:Nat}{nm:Str}{n:Nat}{b:Bool}(h:iL B H p rs cs)(hp:H' p=some (.lst (rs.map V.ref++[V.ref r])))(hj:jH c=(j:Int))(hf:cr[j]?=some (nm,n,b))(hr:H' r=some (.tup [.str nm,.ref q]))(hq:H' q=some (.lst (iV (numsOf c))))(e:∀b o,H b=some o→b≠p→H' b=some o)(nr:r≠p)(nq:q≠p)(nB:B q=none):iL B H' p (rs++[r]) (cs++[c]):=by
 have hlen:=h.len;refine⟨by rw[hp,sQ];rfl,by rw[r9,r9,hlen];rfl,λi r' c' a b'=>?_⟩;by_cases hi:i<rs.length
 ·rw[rZ hi]at a;rw[rZ (by omega)]at b';obtain⟨j',nm',n',bb,q',h1,h2,h3,h4,n1,n2,n3⟩:=h.at_ i r' c' a b';exact uA j' nm' n' bb q' (tN h1 h2 (e _ _ h3 n1) (e _ _ h4 n2) n1 n2 n3)
 ·have h1:i=rs.length:=by
   have:=(rE.mp a).1;rw[r9,sk]at this;omega
  subst h1;rw[rY (rL _),sJ]at a;rw[rY (by omega),hlen,sJ]at b';simp at a b';subst a b';exact uA j nm n b q (tN hj hf hr hq nr nq nB)
theorem cut_nat{l:List Int}{i n:Nat}:cutV (iV l) (some (i:Int)) (some ((i:Int)+(n:Int)))=iV ((l.drop i).take n):=by
 unfold cutV;have e:(i:Int)+(n:Int)=((i+n:Nat):Int):=by omega
 rw[e,HT.sIx_nat,HT.sIx_nat,bG];unfold iV;rw[←List.map_drop,←List.map_take];congr 1;by_cases h:i≤l.length
 ·rw[Nat.min_eq_left h];by_cases h2:i+n≤l.length
  ·rw[Nat.min_eq_left h2,Nat.add_sub_cancel_left]
  ·rw[Nat.min_eq_right (by omega),sn (by rw[sg];omega),sn (by rw[sg];omega)]
 ·rw[Nat.min_eq_right (show l.length≤i+n by omega),Nat.min_eq_right (show l.length≤i by omega),sE (rL _),sE (show l.length≤i by omega),List.take_nil,List.take_nil]
theorem mQ{l r:List Int}{i:Nat}{p:Int}(h:l.drop i=p::r):i<l.length∧l[i]?=some p∧l.drop (i+1)=r:=by
 have hi:i<l.length:=by
  by_cases hi:i<l.length
  ·exact hi
  ·rw[sE (by omega)]at h;cases h
 rw[sF hi]at h;injection h with h1 h2;exact tS hi (by rw[sG hi,h1]) h2
theorem mI{l:List Int}{i:Nat}{p:Int}(h:l[i]?=some p):atI (iV l) (i:Int)=some (V.int p):=by
 refine aR ?_;unfold iV;rw[r6,h];rfl
theorem ok_split{f:Addr}{fd:FuncData}(F:Fun K "split_calls" "split_calls" nF f fd)(FT:kx K mg)(hlen:mg "len" = none):aZ P w K mg base CX0 1 f fd ["calls"] (spSplit K):=by
 obtain⟨aF,ts,hF,hT,htl,hts⟩:=FT.ex;refine F.ok d5 (λvs H Q E h=>?_) (λcdv A outer s H vs Q E hr h=>?_)
 ·obtain⟨a,l,raw,rfl,_⟩:=h;rfl
 ·obtain⟨a,l,raw,rfl,hS,hll,hraw,k⟩:=h;refine tF _ (ad (aC (i:=1) d5.nd rfl (Or.inl rfl) (aG ae))
   (ad (aC (i:=2) d5.nd rfl (Or.inl rfl) al)
   (ad (pq PassesOwn.never (aP op_lt (pv 2) (aM au (by rfl) hlen PySem.boot_len (aa (pv 0) ae)) (aO _))
    (ad (aC (i:=3) d5.nd rfl (Or.inl rfl) (aU iE (a8 (v:=.ref aF) rfl hF rfl) (aU aA (pv 0) (pv 2) (λ_ _=>rfl)) (λ_ _=>rfl)))
    (ad (aC (i:=4) d5.nd rfl (Or.inl rfl) (aT cB (pv 2) al))
    (ad (aC (i:=5) d5.nd rfl (Or.inl rfl) (aU iE (pv 3) al (λ_ _=>rfl)))
    (ad (bh (di (aU iE (pv 3) al (λ_ _=>rfl))) (ad (aC (i:=5) d5.nd rfl (Or.inl rfl) (aU aA (pv 0) (pv 4) (λ_ _=>rfl))) (ah (aC (i:=4) d5.nd rfl (Or.inl rfl) (aT cB (pv 4) al)))) aI)
    (ad (bU (fP PySem.F.plainAttrs_list PySem.F.slot_list_append PySem.F.type_list_append ci (pv 1) (aa (nO (aa (aU iE (pv 3) al (λ_ _=>rfl)) (aa (pe_slice sl_list (pv 0) (po_some (pv 4)) (po_some (aT cB (pv 4) (pv 5)))) ae))) ae)))
    (ah (aC (i:=2) d5.nd rfl (Or.inl rfl) (aT cB (pv 4) (pv 5))))))))))
   (ah (aj (pv 1)))))) ?_
  refine⟨rO _,λfo hfo=>?_⟩;have R0:iL H (upd H fo (.lst [])) fo [] []:=⟨ac,rfl,λi r c a b=>by simp at a⟩
  refine oM (λσ H'=>∃(i:Nat) (f:Nat) (rs:List Addr) (done rest:List (List (List Int))) (v3 v4 v5:Option V),σ=[some (.ref a),some (.ref fo),some (.int (i:Int)),v3,v4,v5]∧ao H H'∧i≤l.length∧done.length≤i∧raw=done++rest∧PyFlat.calls PySu111.shape f (l.drop i)=some rest∧iL H H' fo rs done)
   (λσ _=>match σ with|[_,_,some (.int z),_,_,_]=>l.length-z.toNat|_=>0)
   (tU 0 l.length (tZ [] [] raw none none none (tN rfl (ay hfo) (rO _) (rO _) rfl (by rw[List.drop_zero];exact hraw) R0))) ?_ ?_
  ·rintro σ H' ⟨i,f',rs,done,rest,v3,v4,v5,rfl,sm,hil,hdl,hsplit,hcalls,R⟩;refine tF _ rfl (tW _ rfl a _ rfl (.inl (sm.seq hS)) (ug _ _ rfl rfl _ rfl ?_));rw[bG];by_cases hend:i<l.length
   ·refine bT (decide_eq_true (by omega)) ?_;cases hd:l.drop i with
    |nil =>
     have:=congrArg List.length hd;rw[sg,sx]at this;omega
    |cons p r =>
     rw[hd]at hcalls;obtain⟨_,hp,hr'⟩:=mQ hd;obtain⟨f2,c,t,rest',hc,hc2,rfl⟩:=iK hcalls;obtain⟨j,nm,n,b,hj,hj21,hform,hcode,hway⟩:=call_read rfl hc;obtain⟨tj,htj⟩:∃tj,ts[j]?=some tj:=⟨ts[j],sG (by omega)⟩
     have hTj:=hts j tj nm n b htj hform;subst hj;refine ur _ rfl _ rfl a (t6 _ _ _ rfl (ub rfl (sm.seq hS) (mI hp) aF _ (tG _ _ rfl rfl (hT _) (aR (j:=j) (v:=V.ref tj) (by rw[r6,htj];rfl)) ?_)));refine tW _ rfl _ _ rfl rfl ?_;refine tQ _ rfl tj _ (tG _ _ rfl rfl (hTj _) (aR (j:=1) (v:=V.int (n:Int)) rfl) ?_);refine tQ _ rfl tj _ (tO _ _ rfl (ui rfl (hTj _) (aR (j:=2) (v:=V.bl b) rfl) _ rfl ?_));have tail:∀(st ct:Nat) (D:hG),numsOf c=(l.drop st).take ct →
       (∀(H2:Hp) (rs2:List Addr),ao H H2→iL H H2 fo rs2 (done++[c])→D.nx [some (.ref a),some (.ref fo),some (.int ((st:Int)+(ct:Int))),some (.ref tj),some (.int (st:Int)),some (.int (ct:Int))] H2) →
       tSeq (tDrop (tBM K "list" rAppend (dc 1) (ia (tTup (ia (tOp (rIxT K) (dc 3) (tC (V.int 0))) (ia (tSl (rSlL K) (dc 0) (tPart (dc 4)) (tPart (tOp (rI0 λi j=>V.int (i+j)) (dc 4) (dc 5)))) tNil))) tNil))) (tAsg (tOp (rI0 λi j=>V.int (i+j)) (dc 4) (dc 5)) (dq 2))
        D [some (.ref a),some (.ref fo),some (.int (i:Int)),some (.ref tj),some (.int (st:Int)),some (.int (ct:Int))] H':=by
      intro st ct D hnum hD;refine⟨_,t9 rfl (.inl (uj rfl _ (SqL.of R.lst))) _ rfl tj _ (tG _ _ rfl rfl (hTj _) (aR (j:=0) (v:=V.str nm) rfl) ?_)⟩;refine tF _ rfl (uC _ rfl _ rfl _ rfl (tW _ rfl _ _ rfl rfl (tW _ rfl a _ rfl (sm.seq hS) (λq hq=>?_))));refine⟨(by show 2≤sizeLine;decide),λtp htp=>?_⟩;rw[cut_nat]at htp ⊢;have s1:ao H' (upd H' q (.lst (iV ((l.drop st).take ct)))):=ay hq;have s2:=s1.trans (ay (o:=.tup [.str nm,.ref q]) htp);have nq:q≠fo:=(ai R.lst hq).symm;have nt:tp≠fo:=(ai (s1 _ _ R.lst) htp).symm;have nqt:q≠tp:=by
       intro z;rw[←z,ac]at htp;cases htp
      refine⟨fo,tG _ _ rfl rfl (s2 _ _ R.lst) ?_ ?_⟩
      ·rw[rR,R.len];exact sA (show done.length≤30000 by omega) (by decide)
      ·refine tF _ rfl (tW _ rfl _ _ rfl rfl ?_);refine hD _ (rs++[tp]) (bp (sm.trans s2) hfo) ?_;refine R.snoc (q:=q) ac hcode hform ?_ ?_ (λb o e hb=>?_) nt nq (sm.free hq)
       ·rw[af nt,ac]
       ·rw[af nq,af nqt,ac,hnum]
       ·rw[af hb];exact s2 _ _ e
     have hlen2:∀{x:Nat},done.length≤i→i<x→(done++[c]).length≤x:=by
      intro x h1 h2;rw[r9,sk];omega
     cases b with
     |false =>
      rcases hway with⟨_,hn,hnum,ht⟩|⟨hb,_⟩
      ·refine bF rfl ?_;have hrl:r.length=l.length-(i+1):=by rw[←hr',sg]
       refine tail (i+1) n _ (by rw[hnum,hr']) (λH2 rs2 sm2 R2=>?_);refine⟨(tU (i+1+n) f2 (tZ rs2 (done++[c]) rest' _ _ _ (tN rfl sm2 (by omega) (hlen2 hdl (by omega)) (by rw[hsplit,sK];rfl) ?_ R2))),?_⟩
       ·rw[ht,←hr',List.drop_drop]at hc2;exact hc2
       ·show l.length-(((i+1:Nat):Int)+(n:Int)).toNat<l.length-((i:Nat):Int).toNat;omega
      ·cases hb
     |true =>
      rcases hway with⟨hb,_⟩|⟨_,m,r',hrm,hm,hnum,ht⟩
      ·cases hb
      ·rw[hrm]at hr';obtain⟨hi2,hp2,hr2⟩:=mQ hr';have hrl:r'.length=l.length-(i+1+1):=by rw[←hr2,sg]
       refine bT rfl ?_;refine tT _ rfl _ rfl a _ (tG _ _ rfl rfl (sm.seq hS) (mI (i:=i+1) hp2) ?_);refine tW _ rfl _ _ rfl rfl ?_;refine tail (i+1+1) m _ (by rw[hnum,hr2]) (λH2 rs2 sm2 R2=>?_);refine⟨(tU (i+1+1+m) f2 (tZ rs2 (done++[c]) rest' _ _ _ (tN rfl sm2 (by omega) (hlen2 hdl (by omega)) (by rw[hsplit,sK];rfl) ?_ R2))),?_⟩
       ·rw[ht,←hr2,List.drop_drop]at hc2;exact hc2
       ·show l.length-(((i+1+1:Nat):Int)+(m:Int)).toNat<l.length-((i:Nat):Int).toNat;omega
   ·refine bF (decide_eq_false (by omega)) ?_;have hd:l.drop i=[]:=sE (by omega);rw[hd]at hcalls;have:=mT hcalls;subst this;rw[rT]at hsplit;subst hsplit;exact tF _ rfl (k H' fo rs sm R hfo)
  ·rintro σ H' Q Q' hQ ⟨v,e,h1⟩;obtain⟨v2,e2,p,ys,e3,h4,i,j,e5,e6,b,e7,q⟩:=h1;exact tF v e (tW v2 e2 p ys e3 h4 (ug i j e5 e6 b e7 (hQ _ _ q)))
end
abbrev eP:Stmt:=top 11
abbrev fC:Stmt:=top 12
theorem Sq.kd{K:fG}{H:Hp}{a:Addr}{xs:List V}(h:Sq K H a xs):∃kd,SqK kd K H a xs:=by
 rcases h with h|h
 ·exact⟨.lst,h⟩
 ·exact⟨.tup,h⟩
theorem sqK{kd:Kd}{K:fG}{H H':Hp}{a:Addr}{xs:List V}(e:ao H H')(h:SqK kd K H a xs):SqK kd K H' a xs:=by
 cases kd with
 |lst=>exact e.seq h
 |tup =>
  rcases h with h|h
  ·rcases h with h|⟨o,h⟩
   ·exact .inl (.inl (e _ _ h))
   ·exact .inl (.inr ⟨o,e _ _ h⟩)
  ·exact .inr h
abbrev wlc(J:It)(g:TG)(tt:TT)(te:TE)(vs:List Nat)(σ:L2.St)(H1:Hp)(Qd:Addr→Hp→Prop):Prop:=∀D,H1 D=none→∃W:Nat→Nat→Hp→Prop,(∃m,W 0 m (upd H1 D (.lst [])))∧∀i m H,W i m H →
 (J.stop i H∧Qd D H)∨(J.go i H∧∃Nx:Hp→Prop,(∀H',Nx H'→∃m',m'<m∧W (i+1) m' H')∧∀x H',J.yld i H x H'→g x (bJ σ vs) H' λσ2 H2=>bJ σ2 vs=bJ σ vs∧tt σ2 H2 λb H3 =>
  if b=true then te σ2 H3 λy H4=>∃acc,H4 D=some (.lst acc)∧acc.length<sizeLine∧Nx (upd H4 D (.lst (acc++[y]))) else Nx H3)
theorem lc_seqU{K:fG}{a:Addr}{xs:List V}{n:Nat}{g:TG}{tt:TT}{te:TE}{vs:List Nat}{σ:L2.St}{H:Hp}{Qd:Addr→Hp→Prop}(hσ:σ[n]?=some (some (.ref a)))(hS:Sq K H a xs)(Pv:Addr→Nat→Hp→Prop)(h0:∀D,H D=none→Pv D 0 (upd H D (.lst [])))(hl:∀D i H',H D=none→Pv D i H'→ao H H')(hs:∀D i x H',H D=none→xs[i]?=some x→Pv D i H'→g x (bJ σ vs) H' λσ2 H2=>bJ σ2 vs=bJ σ vs∧tt σ2 H2 λb H3 =>
   if b=true then te σ2 H3 λy H4=>∃acc,H4 D=some (.lst acc)∧acc.length<sizeLine∧Pv D (i+1) (upd H4 D (.lst (acc++[y]))) else Pv D (i+1) H3)(hd:∀D H',H D=none→Pv D xs.length H'→Qd D H'):∃a,σ[n]?=some (some (.ref a))∧(((∃xs,SqL K H a xs)∧wlc (Itl K a) g tt te vs σ H Qd)∨((∃xs,SqT K H a xs)∧wlc (Itt K a) g tt te vs σ H Qd)):=by
 rcases hS with h|h
 ·exact tF a hσ (.inl ⟨⟨xs,h⟩,λD hD=>d6 (Pv D) (h0 D hD) (λi H' _ p=>(hl D i H' hD p).seq h) (λi x H' e p=>hs D i x H' hD e p) (λH' p=>hd D H' hD p)⟩)
 ·exact tF a hσ (.inr ⟨⟨xs,h⟩,λD hD=>lc_tup (Pv D) (h0 D hD) (λi H' _ p=>sqK (kd:=.tup) (hl D i H' hD p) h) (λi x H' e p=>hs D i x H' hD e p) (λH' p=>hd D H' hD p)⟩)
section
variable {P:Program} {w:World} {K:fG} {mg:Str→Option Value} {base:Heap}
def wtL(u ps:List Nat):List Int:=List.zipWith (λ(x p:Nat)=>if x=1 then (p:Int) else 10-(p:Int)) u ps
theorem oH:∀(ps u:List Nat) (c:Int),u.length=ps.length→(∀p,p∈ps→1≤p∧p≤9)→(wtL u ps).foldl (λx y=>x*y) c=c*((Lr.wt ps u:Nat):Int)
 |[],[],c,_,_=>by simp[wtL,Lr.wt]
 |[],_::_,_,h,_=>by simp at h
 |_::_,[],_,h,_=>by simp at h
 |p::ps,x::u,c,h,hp=>by
  have hp1:=hp p (by simp);have ih:=oH ps u (c*(if x=1 then (p:Int) else 10-(p:Int))) (by simpa using h) (λq hq=>hp q (by simp[hq]));show(wtL u ps).foldl (λx y=>x*y) (c*(if x=1 then (p:Int) else 10-(p:Int)))=c*(((if x=1 then p else 10-p)*Lr.wt ps u:Nat):Int);rw[ih,tw,Int.mul_assoc];congr 2;split<;>omega
theorem wtL_len{u ps:List Nat}(h:u.length=ps.length):(wtL u ps).length=u.length:=by
 unfold wtL;rw[List.length_zipWith,←h,Nat.min_self]
theorem wtL_at{u ps:List Nat}{i x p:Nat}(hx:u[i]?=some x)(hp:ps[i]?=some p):(wtL u ps)[i]?=some (if x=1 then (p:Int) else 10-(p:Int)):=by
 unfold wtL;rw[List.getElem?_zipWith,hx,hp]
theorem wtL_small{u ps:List Nat}(hp:∀p,p∈ps→1≤p∧p≤9):∀n,n∈wtL u ps→-(2^64)<n∧n<2^64:=by
 intro n hn;obtain⟨i,hi⟩:=sM hn;unfold wtL at hi;rw[List.getElem?_zipWith]at hi;cases hx:u[i]? with
 |none=>rw[hx]at hi;cases hi
 |some x =>
  cases hq:ps[i]? with
  |none=>rw[hx,hq]at hi;cases hi
  |some q =>
   rw[hx,hq]at hi;injection hi with hi;have:=hp q (r8 hq);rw[←hi];split<;>omega
def spWeight(K:fG):Sp:=λvs H Q _=>∃(pu pc:Addr) (u ps:List Nat),vs=[.ref pu,.ref pc]∧SqL K H pu (nV u)∧Sq K H pc (nV ps)∧u.length=ps.length∧u.length≤100∧(∀p,p∈ps→1≤p∧p≤9)∧∀H',ao H H'→Q (.int (Lr.wt ps u:Nat)) H'
abbrev nWeight:List Str:=["ups","chances","up","chance"]
theorem iZ:ap nWeight ["ups","chances"] (ag eP):=⟨rfl,rfl,rfl,by decide +kernel,rfl,by decide +kernel,by decide +kernel⟩
theorem ok_weight{f:Addr}{fd:FuncData}(F:Fun K "weight_of" "weight_of" eP f fd)(D:aN K mg "product" ib ["numbers"])(hzip:mg "zip" = none):aZ P w K mg base CX0 2 f fd ["ups","chances"] (spWeight K):=by
 refine F.ok iZ (λvs H Q E h=>?_) (λcdv A outer s H vs Q E hr h=>?_)
 ·obtain⟨pu,pc,u,ps,rfl,_⟩:=h;rfl
 ·obtain⟨pu,pc,u,ps,rfl,hu,hc,hl,hl2,hp,k⟩:=h;obtain⟨kd,hc⟩:=hc.kd;refine tF _ (ah (aj (aJ (nS D.F) hr rfl D.mgf D.F.kp D.b .nil az (aa (fi (own:=[("up",2),("chance",3)]) rfl iZ.nd (nM .lst kd rfl hzip (aa (pv 0) (aa (pv 1) ae)))
   (show db nWeight (ag eP) _ [("up",2),("chance",3)] from⟨rfl,by decide +kernel,by decide +kernel,by decide +kernel,by decide +kernel⟩)
   (g:=gTup K 2 (fq (dq 2) (fq (dq 3) gNil))) (λ_ _ _ _ _=>dD rfl (aS (aw (i:=2) iZ.nd rfl (Or.inl rfl)) (aS (aw (i:=3) iZ.nd rfl (Or.inl rfl)) cM))) (λ_ _ _ _ _=>bY)
   (λ_ _ _ _ _=>pC (aP bH (pv 2) al (aO _)) (pv 3) (aT dZ al (pv 3)))) ae)))) ?_
  refine ur _ rfl _ rfl pu (tI pc (nV u) (nV ps) rfl hu hc (λD2 hD=>lc_z2 (K:=K) (a1:=pu) (a2:=pc) (x1s:=nV u) (x2s:=nV ps) (by rw[aD,aD,hl]) (λi H'=>ao H H'∧H' D2=some (.lst (iV ((wtL u ps).take i))))
   ⟨ay hD,ac⟩ (λi H' _ q=>⟨q.1.seq hu,sqK q.1 hc⟩) ?_ ?_))
  ·rintro i y1 y2 T H' hy1 hy2 hT ⟨sm,hDl⟩;obtain⟨x,hx',rfl⟩:=jA hy1;obtain⟨p,hp',rfl⟩:=jA hy2;have hDT:D2≠T:=ai hDl hT;have hil:i<100:=by
    have:=(rE.mp hx').1;omega
   refine tO T _ rfl (uv (SqT.of ac) rfl _ _ rfl (tP _ _ rfl rfl rfl ?_));refine tL _ rfl rfl _ rfl ?_;have fin:∀z:Int,z=(if x=1 then (p:Int) else 10-(p:Int))→∃acc,(upd H' T (.tup [V.int (x:Int),V.int (p:Int)])) D2=some (.lst acc)∧acc.length<sizeLine∧ao H (upd (upd H' T (.tup [V.int (x:Int),V.int (p:Int)])) D2 (.lst (acc++[V.int z])))∧(upd (upd H' T (.tup [V.int (x:Int),V.int (p:Int)])) D2 (.lst (acc++[V.int z]))) D2=some (.lst (iV ((wtL u ps).take (i+1)))):=by
    intro z hz;refine ua _ (by rw[af hDT];exact hDl) ?_ (bp (sm.trans (ay hT)) hD) ?_
    ·rw[bG,rX];exact sA (Nat.min_le_left _ _) (rh hil (by decide))
    ·rw[ac,hz,jg (wtL_at hx' hp')]
   by_cases hx1:x=1
   ·refine bT (decide_eq_true (by rw[hx1];rfl)) ?_;exact tF _ rfl (fin _ (by rw[if_pos hx1]))
   ·refine bF (decide_eq_false (by intro e;injection e with e;omega)) ?_;exact tW _ rfl _ _ rfl rfl (fin _ (by rw[if_neg hx1]))
  ·rintro H' ⟨sm,hDl⟩;rw[aD,←wtL_len hl,tm]at hDl;refine tP D2 (wtL u ps) rfl (SqL.of hDl) (wtL_small hp) ?_;have e:i8 (wtL u ps)=((Lr.wt ps u:Nat):Int):=by
    unfold i8;rw[oH ps u 1 hl hp,Int.one_mul]
   rw[e];exact k H' sm
structure ca(H:Hp)(p:Addr)(rs:List Addr)(a:Su111.Abs)(s:List Nat)(us:List (List Nat)):Prop where
 lst:H p=some (.lst (rs.map V.ref))
 len:rs.length=us.length
 at_:∀(i:Nat) (r:Addr) (u:List Nat),rs[i]?=some r→us[i]?=some u→∃pu pw:Addr,H r=some (.tup [.ref pu,.ref pw,.int (Lr.wt a.chances u:Nat)])∧H pu=some (.lst (nV u))∧H pw=some (.lst (nV (wk a s u)))∧r≠p∧pu≠p∧pw≠p
theorem ca.same{H H':Hp}{p:Addr}{rs:List Addr}{a:Su111.Abs}{s:List Nat}{us:List (List Nat)}(h:ca H p rs a s us)(e:ao H H'):ca H' p rs a s us :=
 ⟨e _ _ h.lst,h.len,λi r u x y=>let ⟨pu,pw,h1,h2,h3,n⟩:=h.at_ i r u x y;⟨pu,pw,e _ _ h1,e _ _ h2,e _ _ h3,n⟩⟩
theorem ca.snoc{H H':Hp}{p r pu pw:Addr}{rs:List Addr}{a:Su111.Abs}{s:List Nat}{us:List (List Nat)}{u:List Nat}(h:ca H p rs a s us)(hp:H' p=some (.lst (rs.map V.ref++[V.ref r])))(hr:H' r=some (.tup [.ref pu,.ref pw,.int (Lr.wt a.chances u:Nat)]))(h1:H' pu=some (.lst (nV u)))(h2:H' pw=some (.lst (nV (wk a s u))))(e:∀b o,H b=some o→b≠p→H' b=some o)(n1:r≠p)(n2:pu≠p)(n3:pw≠p):ca H' p (rs++[r]) a s (us++[u]):=by
 have hlen:=h.len;refine⟨by rw[hp,sQ];rfl,by rw[r9,r9,hlen];rfl,λi r' u' x y=>?_⟩;by_cases hi:i<rs.length
 ·rw[rZ hi]at x;rw[rZ (by omega)]at y;obtain⟨qu,qw,g1,g2,g3,m1,m2,m3⟩:=h.at_ i r' u' x y;exact⟨qu,tJ qw (e _ _ g1 m1) (e _ _ g2 m2) (e _ _ g3 m3) m1 m2 m3⟩
 ·have hi':i=rs.length:=by
   have:=(rE.mp x).1;rw[r9,sk]at this;omega
  subst hi';rw[rY (rL _),sJ]at x;rw[rY (by omega),hlen,sJ]at y;simp at x y;subst x y;exact⟨pu,tJ pw hr h1 h2 n1 n2 n3⟩
theorem f6:∀m,Su111.states (rW m 1)=Su111.ups m
 |0=>rfl
 |m+1=>by
  rw[List.replicate_succ];unfold Su111.states Su111.ups;rw[f6 m];rfl
def o4(K:fG):Sp:=λvs H Q _=>∃(pc ph pf:Addr) (a:Su111.Abs) (s:List Nat),vs=[.ref pc,.ref ph,.ref pf]∧Sq K H pc (nV a.chances)∧Sq K H ph (nV a.rooms)∧Sq K H pf (nV s)∧Lr.a0 a∧s.length=a.rooms.length∧a.m≤4∧∀(H':Hp) (p:Addr) (rs:List Addr),ao H H'→ca H' p rs a s (Su111.ups a.m)→Q (.ref p) H'
abbrev nLikely:List Str:=["chances","holds","filling","hours","ups","chance"]
theorem f8:ap nLikely ["chances","holds","filling"] (ag fC):=⟨rfl,rfl,rfl,by decide +kernel,rfl,by decide +kernel,by decide +kernel⟩
theorem cg:∀m,(Su111.ups m).length=2^m
 |0=>rfl
 |m+1=>by
  rw[Lr.iT,r9,rR,rR,cg m,Nat.pow_succ];omega
theorem vol_ones(m:Nat):Lr.vol (rW m 1)=2^m:=by
 rw[←Lr.bu,f6,cg]
theorem mD{f:Addr}{fd:FuncData}(F:Fun K "likely_hours" "likely_hours" fC f fd)(DE:aN K mg "every_choice" kP ["limits"])(DW:aN K mg "who_works" sWho ["ups","holds","filling"])(DH:aN K mg "has_piece" sHas ["machine","filling"])(DG:aN K mg "weight_of" eP ["ups","chances"])(DP:aN K mg "product" ib ["numbers"])(hlen:mg "len" = none)(hrange:mg "range" = none)(hzip:mg "zip" = none):aZ P w K mg base CX0 3 f fd ["chances","holds","filling"] (o4 K):=by
 refine F.ok f8 (λvs H Q E h=>?_) (λcdv A outer s H vs Q E hr h=>?_)
 ·obtain⟨pc,ph,pf,a,s,rfl,_⟩:=h;rfl
 ·obtain⟨pc,ph,pf,a,l,rfl,hc,hh,hf,hv,hsl,hm4,k⟩:=h;have hr1:bP 1 _:=hr.mono (by decide);refine tF _ (ad (aC (i:=3) f8.nd rfl (Or.inl rfl) (aG ae))
   (ad (cn PassesOwn.never rfl (bZ (aJ (ok_each DE.F hrange) hr1 rfl DE.mgf DE.F.kp DE.b .nil az (aa (fi (own:=[("chance",5)]) rfl f8.nd (pi_seq 0 (pv 0)) (show db nLikely (ag fC) _ [("chance",5)] from⟨rfl,by decide +kernel,by decide +kernel,by decide +kernel,by decide +kernel⟩) (λ_ _ _ _ _=>aw (i:=5) f8.nd rfl (Or.inl rfl)) (λ_ _ _ _ _=>bY) (λ_ _ _ _ _=>al)) ae))) (aw (i:=4) f8.nd rfl (Or.inl rfl))
    (ah (bU (fP PySem.F.plainAttrs_list PySem.F.slot_list_append PySem.F.type_list_append ci (pv 3) (aa (nO (aa (pv 4) (aa (aJ (ok_who DW.F DH hlen hrange) hr rfl DW.mgf DW.F.kp DW.b .nil az (aa (pv 4) (aa (pv 1) (aa (pv 2) ae)))) (aa (aJ (ok_weight DG.F DP hzip) hr rfl DG.mgf DG.F.kp DG.b .nil az (aa (pv 4) (aa (pv 0) ae))) ae)))) ae)))))
   (ah (aj (pv 3))))) ?_
  have hml:a.chances.length=a.m:=rfl;have hrm:a.rooms.length+1=a.m:=hv.len.symm;refine⟨rO _,λho hho=>?_⟩;have s1:ao H (upd H ho (.lst [])):=ay hho;refine lc_seqU (K:=K) (n:=0) (g:=dq 5) (tt:=tYes) (te:=tC (V.int 1)) (vs:=[5]) (σ:=[some (.ref pc),some (.ref ph),some (.ref pf),some (.ref ho),none,none]) (a:=pc) (xs:=nV a.chances) rfl (sqS s1 hc) (λD i H'=>H'=upd (upd H ho (.lst [])) D (.lst (nV (rW i 1)))) (λD hD=>rfl) (λD i H' hD e=>by rw[e];exact ay hD) ?_ ?_
  ·rintro D i x H' hD hx rfl;refine uk rfl _ ac ?_ ?_
   ·have:=(rE.mp hx).1;rw[aD]at this;rw[aD,sf];exact rh (show i<4 by omega) (by decide)
   ·rw[bX,tf];unfold nV;rw[sQ];rfl
  ·rintro D H' hD rfl;have s2:=s1.trans (ay (o:=.lst (nV (rW (nV a.chances).length 1))) hD);have hvol:Lr.vol (rW (nV a.chances).length 1)≤10000:=by
    rw[vol_ones,aD,hml];exact rq (sZ (by omega) hm4) (by decide)
   refine tG D _ rfl (.inl (SqL.of ac)) hvol (by rw[sf,aD];omega) (λH1 ec rs sm1 L=>?_);rw[f6,aD,hml]at L;have hD0:D≠ho:=by
    intro z;rw[z,ac]at hD;cases hD
   have s3:=s2.trans sm1;have hho1:H1 ho=some (.lst []):=sm1 _ _ (by rw[af hD0.symm,ac]);refine tK ec rfl ⟨_,SqL.of L.lst⟩ (dS (K:=K) (a:=ec) (xs:=rs.map V.ref) (λi σ H'=>∃(hs:List Addr) (v4:Option V),σ=[some (.ref pc),some (.ref ph),some (.ref pf),some (.ref ho),v4,none]∧ao H H'∧(∀b o,H1 b=some o→b≠ho→H' b=some o)∧ca H' ho hs a l ((Su111.ups a.m).take i)) ?_ ?_ ?_ ?_)
   ·exact tP [] none rfl s3 (λb o e _=>e) ⟨hho1,rfl,λi r u x y=>by simp at x⟩
   ·rintro i σ H' _ ⟨hs,v4,_,_,kp,_⟩;refine SqL.of (kp _ _ L.lst (λz=>?_));have:=L.lst;rw[z,hho1]at this;injection this with this;injection this with this;have hl:=congrArg List.length this;rw[rR,L.len,cg]at hl;have:=Nat.pow_pos (n:=a.m) (show 0<2 by omega);rw[sx]at hl;omega
   ·rintro i y σ H' hy ⟨hs,v4,rfl,sm,kp,HA⟩;obtain⟨pu,hpu,rfl⟩:∃pu,rs[i]?=some pu∧y=V.ref pu:=by
     rw[r6]at hy;cases e:rs[i]? with
     |none=>rw[e]at hy;cases hy
     |some z=>rw[e]at hy;exact tF z rfl ((Option.some.inj hy).symm)
    have hil:i<(Su111.ups a.m).length:=by
     rw[←L.len];exact(rE.mp hpu).1
    obtain⟨u,hu⟩:∃u,(Su111.ups a.m)[i]?=some u:=⟨_,sG hil⟩
    have hul:u.length=a.m:=Lr.dg (r8 hu);have hpu1:=L.at_ i pu u hpu hu;have hpuo:pu≠ho:=by
     intro z;rw[z,hho1]at hpu1;injection hpu1 with h1;injection h1 with h1;have:=congrArg List.length h1;rw[aD,sx]at this;omega
    have hpu2:=kp _ _ hpu1 hpuo;have hcnt:(Su111.ups a.m).length≤16:=by
     rw[cg];exact rq (sZ (by omega) hm4) (by decide)
    refine tL _ rfl (.inl (uj rfl _ (SqL.of HA.lst))) _ rfl ?_;refine t0 _ rfl _ rfl (tR _ rfl pu ph pf (tM a l u rfl ⟨SqL.of hpu2,sqS sm hh,sqS sm hf,hul,hrm,hsl,hm4⟩ (λpw hpw=>?_)));have t1:ao H' (upd H' pw (.lst (nV (wk a l u)))):=ay hpw;refine tF _ rfl (tV _ rfl pu pc u a.chances (tN rfl (SqL.of (t1 _ _ hpu2)) (sqS (sm.trans t1) hc) (by rw[hul,hml]) (by omega) hv.chance (λH2 t2=>?_)));refine⟨(by show 3≤sizeLine;decide),λtp htp=>?_⟩;have t3:ao H' (upd H2 tp (.tup [.ref pu,.ref pw,.int (Lr.wt a.chances u:Nat)])):=(t1.trans t2).trans (ay htp);have npw:pw≠ho:=(ai HA.lst hpw).symm;have ntp:tp≠ho:=(ai ((t1.trans t2) _ _ HA.lst) htp).symm;have hpw2:(upd H2 tp (.tup [.ref pu,.ref pw,.int (Lr.wt a.chances u:Nat)])) pw=some (.lst (nV (wk a l u))):=by
     have e:=t2 _ _ (ac (H:=H') (a:=pw) (o:=.lst (nV (wk a l u))));rw[af (ai e htp)];exact e
    refine⟨ho,tG _ _ rfl rfl (t3 _ _ HA.lst) ?_ ?_⟩
    ·rw[rR,HA.len,rX];exact sA (show min i (Su111.ups a.m).length≤16 by omega) (by decide)
    ·refine tP (hs++[tp]) _ rfl (bp (sm.trans t3) hho) (λb o e hb=>by rw[af hb];exact t3 _ _ (kp b o e hb)) ?_;have et:(Su111.ups a.m).take (i+1)=(Su111.ups a.m).take i++[u]:=by
      rw[sI,hu];rfl
     rw[et];exact HA.snoc ac (by rw[af ntp,ac]) (by rw[af hpuo];exact t3 _ _ hpu2) (by rw[af npw];exact hpw2) (λb o e hb=>by rw[af hb];exact t3 _ _ e) ntp hpuo npw
   ·rintro σ H' ⟨hs,v4,rfl,sm,kp,HA⟩;rw[rR,L.len,tm]at HA;exact tF _ rfl (k H' ho hs sm HA)
end
abbrev ju:Stmt:=top 18
theorem for_enum{K:fG}{a:Addr}{xs:List V}{g:TG}{tb:TS}{D:hG}{σ:L2.St}{H:Hp}(Pv:Nat→L2.St→Hp→Prop)(h0:Pv 0 σ H)(hl:∀i σ H,i≤xs.length→Pv i σ H→SqL K H a xs)(hs:∀i x T σ H,xs[i]?=some x→H T=none→Pv i σ H→g (.ref T) σ (upd H T (.tup [.int (i:Nat),x])) λσ2 H2=>tb {D with nx:=Pv (i+1),ct:=Pv (i+1),bk:=D.nx} σ2 H2)(hd:∀σ H,Pv xs.length σ H→D.nx σ H):∃W:Nat→Nat→L2.St→Hp→Prop,(∃m,W 0 m σ H)∧∀i m σ H,W i m σ H →
   ((Ite K a).stop i H∧D.nx σ H)∨((Ite K a).go i H∧∃N:L2.St→Hp→Prop,(∀σ' H',N σ' H'→∃m',m'<m∧W (i+1) m' σ' H')∧∀x H',(Ite K a).yld i H x H'→g x σ H' λσ2 H2=>tb {D with nx:=N,ct:=N,bk:=D.nx} σ2 H2):=by
 refine tF (λi m σ H=>m=xs.length-i∧i≤xs.length∧Pv i σ H) (tK xs.length (by simp) (rO _) h0) ?_;rintro i m σ H ⟨rfl,hi,p⟩;have q:=hl i σ H hi p;by_cases hlt:i<xs.length
 ·refine .inr (tX (tO xs (xs[i]) q (by simp[hlt])) (Pv (i+1)) (λσ' H' p'=>ua (xs.length-(i+1)) (by omega) rfl hlt p') (λx H' y=>?_));obtain⟨T,x1,rfl,hT,rfl,hx⟩:=y;exact hs i x1 T σ H (hx xs q) hT p
 ·have e:i=xs.length:=by omega
  subst e;exact .inl ⟨(tF xs q (rL _)),hd σ H p⟩
def aq(s:List Nat):List Key:=s.map λ(n:Nat)=>Sum.inl (n:Int)
theorem fI(s:List Nat):(aq s).map kV=nV s:=by
 unfold aq nV;rw[sN];rfl
theorem cN:∀{s t:List Nat},aq s=aq t→s=t
 |[],[],_=>rfl
 |[],_::_,h=>by cases h
 |_::_,[],h=>by cases h
 |x::s,y::t,h=>by
  unfold aq at h;rw[rQ,rQ]at h;injection h with h1 h2;injection h1 with h1;rw[Int.ofNat_inj.mp h1,cN h2]
def kvs(l:List Nat)(i:Nat):List (List Key×V):=(rn i).map λj=>(aq (Lr.St l j),V.int (j:Int))
theorem kvs_put{l:List Nat}{i:Nat}(h:i<Lr.vol l):gf (kvs l i) (aq (Lr.St l i)) (V.int (i:Int))=kvs l (i+1):=by
 unfold gf;rw[if_neg ?_]
 ·unfold kvs;rw[sP,sQ];rfl
 ·intro hany;rw[List.any_eq_true]at hany;obtain⟨x,hx,he⟩:=hany;unfold kvs at hx;obtain⟨j,hj,rfl⟩:=sv.1 hx;have hj':=rp.1 hj;have e:=cN (of_decide_eq_true he);have e2:=congrArg (Lr.idx l) e;rw[Lr.bo (by omega),Lr.bo h]at e2;omega
theorem kvs_val{l s:List Nat}(h:Lr.cu l s):fT (kvs l (Lr.vol l)) (aq s)=some (V.int (Lr.idx l s:Int)):=by
 have main:∀n,Lr.idx l s<n→n≤Lr.vol l→fT (kvs l n) (aq s)=some (V.int (Lr.idx l s:Int)):=by
  intro n;induction n with
  |zero=>intro h1;omega
  |succ n ih =>
   intro h1 h2;have ek:kvs l (n+1)=kvs l n++[(aq (Lr.St l n),V.int (n:Int))]:=by
    unfold kvs;rw[sP,sQ];rfl
   unfold fT;rw[ek,List.find?_append];by_cases hlt:Lr.idx l s<n
   ·have:=ih hlt (by omega);unfold fT at this;cases hf:(kvs l n).find? λkv=>decide (kv.1=aq s) with
    |none=>rw[hf]at this;cases this
    |some x =>
     rw[hf]at this;exact this
   ·have hn:Lr.idx l s=n:=by omega
    have hno:(kvs l n).find? (λkv=>decide (kv.1=aq s))=none:=by
     rw[List.find?_eq_none];intro x hx hd;unfold kvs at hx;obtain⟨j,hj,rfl⟩:=sv.1 hx;have hj':=rp.1 hj;have e2:=congrArg (Lr.idx l) (cN (of_decide_eq_true hd));rw[Lr.bo (by omega)]at e2;omega
    have hst:Lr.St l n=s:=by rw[←hn,Lr.lJ h]
    rw[hno,List.find?_cons_of_pos (by rw[hst];exact decide_eq_true rfl),hn];rfl
 exact main _ (Lr.eE h) (rL _)
def mvN(a:Su111.Abs)(i:Nat)(us:List (List Nat))(j:Nat):Nat:=(us.map λu=>if Lr.idx a.rooms (a.next (Lr.St a.rooms i) u)=j then Lr.wt a.chances u else 0).sum
def mvL(a:Su111.Abs)(i:Nat)(us:List (List Nat)):List Int:=(rn (Lr.vol a.rooms)).map λj=>(mvN a i us j:Int)
theorem je(a:Su111.Abs)(i:Nat)(us:List (List Nat)):(mvL a i us).length=Lr.vol a.rooms:=by unfold mvL;simp
theorem oh{a:Su111.Abs}{i:Nat}{us:List (List Nat)}{j:Nat}(h:j<Lr.vol a.rooms):(mvL a i us)[j]?=some (mvN a i us j:Int):=by
 unfold mvL;rw[r6,sR h];rfl
theorem mvL_nil(a:Su111.Abs)(i:Nat):mvL a i []=rW (Lr.vol a.rooms) 0:=by
 apply sY;intro j;by_cases h:j<Lr.vol a.rooms
 ·rw[oh h,List.getElem?_replicate,if_pos h];rfl
 ·rw[su (by rw[je];omega),su (by rw[sf];omega)]
theorem mvL_snoc{a:Su111.Abs}{i:Nat}{us:List (List Nat)}{u:List Nat}(h:Lr.idx a.rooms (a.next (Lr.St a.rooms i) u)<Lr.vol a.rooms):(mvL a i us).set (Lr.idx a.rooms (a.next (Lr.St a.rooms i) u)) ((mvN a i us (Lr.idx a.rooms (a.next (Lr.St a.rooms i) u)):Int)+(Lr.wt a.chances u:Int))=mvL a i (us++[u]):=by
 apply sY;intro j;rw[List.getElem?_set];have hs:∀j,mvN a i (us++[u]) j=mvN a i us j+(if Lr.idx a.rooms (a.next (Lr.St a.rooms i) u)=j then Lr.wt a.chances u else 0):=by
  intro j;unfold mvN;rw[sQ,List.sum_append];simp
 by_cases hj:j<Lr.vol a.rooms
 ·rw[oh hj,oh hj,je,hs j];by_cases e:Lr.idx a.rooms (a.next (Lr.St a.rooms i) u)=j
  ·rw[if_pos e,if_pos h,if_pos e,e];rfl
  ·rw[if_neg e,if_neg e];rfl
 ·rw[if_neg (by omega),su (by rw[je];omega),su (by rw[je];omega)]
theorem mvN_P{a:Su111.Abs}(hv:Lr.a0 a){i j:Nat}(hi:i<Lr.vol a.rooms)(hj:j<Lr.vol a.rooms):mvN a i (Su111.ups a.m) j=Lr.P a i j:=by
 unfold mvN Lr.P;congr 1;refine sS (λu hu=>?_);have hf:=Lr.cx hv (Lr.cX hi) u;rw[Lr.d8 a (Lr.dg hu)];by_cases e:a.next (Lr.St a.rooms i) u=Lr.St a.rooms j
 ·rw[if_pos e,e,Lr.bo hj,if_pos rfl]
 ·rw[if_neg e,if_neg (λh=>e (by rw[←h,Lr.lJ hf]))]
structure dw(H:Hp)(p:Addr)(hs:List Addr)(a:Su111.Abs):Prop where
 lst:H p=some (.lst (hs.map V.ref))
 len:hs.length=Lr.vol a.rooms
 at_:∀(i:Nat) (h:Addr),hs[i]?=some h→∃rs,ca H h rs a (Lr.St a.rooms i) (Su111.ups a.m)
theorem dw.same{H H':Hp}{p:Addr}{hs:List Addr}{a:Su111.Abs}(h:dw H p hs a)(e:ao H H'):dw H' p hs a :=
 ⟨e _ _ h.lst,h.len,λi q hq=>let ⟨rs,hr⟩:=h.at_ i q hq;⟨rs,hr.same e⟩⟩
def aE(a:Su111.Abs):List (List Int):=(rn (Lr.vol a.rooms)).map λi=>(rn (Lr.vol a.rooms)).map λj=>(Lr.P a i j:Int)
theorem mvL_all{a:Su111.Abs}(hv:Lr.a0 a){i:Nat}(hi:i<Lr.vol a.rooms):mvL a i (Su111.ups a.m)=(rn (Lr.vol a.rooms)).map λj=>(Lr.P a i j:Int):=by
 unfold mvL;refine sS (λj hj=>?_);rw[mvN_P hv hi (rp.1 hj)]
theorem LLI.snoc{H H':Hp}{p r:Addr}{rs:List Addr}{ls:List (List Int)}{l:List Int}(h:LLI H p rs ls)(hp:H' p=some (.lst (rs.map V.ref++[V.ref r])))(hr:H' r=some (.lst (iV l)))(e:∀b o,H b=some o→b≠p→H' b=some o)(nr:r≠p):LLI H' p (rs++[r]) (ls++[l]):=by
 have hlen:=h.len;refine⟨by rw[hp,sQ];rfl,by rw[r9,r9,hlen];rfl,λi q m a b=>?_,λq hq=>?_⟩
 ·by_cases hi:i<rs.length
  ·rw[rZ hi]at a;rw[rZ (by omega)]at b;exact e _ _ (h.at_ i q m a b) (h.ne q (r8 a))
  ·have h1:i=rs.length:=by
    have:=(rE.mp a).1;rw[r9,sk]at this;omega
   subst h1;rw[rY (rL _),sJ]at a;rw[rY (by omega),hlen,sJ]at b;simp at a b;subst a b;exact hr
 ·rcases rD.1 hq with z|z
  ·exact h.ne q z
  ·simp at z;rw[z];exact nr
section
variable {P:Program} {w:World} {K:fG} {mg:Str→Option Value} {base:Heap}
def spMoves(K:fG):Sp:=λvs H Q _=>∃(pf ph:Addr) (fs hs:List Addr) (a:Su111.Abs),vs=[.ref pf,.ref ph]∧LL H pf fs (Su111.states a.rooms)∧dw H ph hs a∧Lr.a0 a∧Lr.vol a.rooms≤27∧a.m≤4∧∀(H':Hp) (q:Addr) (rs:List Addr),ao H H'→LLI H' q rs (aE a)→Q (.ref q) H'
abbrev nMoves:List Str:=["fillings","hours","places","place","filling","moves","its_hours","move","ups","works","weight","after","other"]
theorem cK:ap nMoves ["fillings","hours"] (ag ju):=⟨rfl,rfl,rfl,by decide +kernel,rfl,by decide +kernel,by decide +kernel⟩
theorem ok_moves{f:Addr}{fd:FuncData}(F:Fun K "move_weights" "move_weights" ju f fd)(DA:aN K mg "filling_after" gb ["works","filling"])(hlen:mg "len" = none)(hrange:mg "range" = none)(hzip:mg "zip" = none)(henum:mg "enumerate" = none)(htup:mg "tuple" = none):aZ P w K mg base CX0 2 f fd ["fillings","hours"] (spMoves K):=by
 refine F.ok cK (λvs H Q E h=>?_) (λcdv A outer s H vs Q E hr h=>?_)
 ·obtain⟨pf,ph,fs,hs,a,rfl,_⟩:=h;rfl
 ·obtain⟨pf,ph,fs,hs,a,rfl,L,AH,hv,hvol,hm4,k⟩:=h;have hu:=hu_of hr;refine tF _ (ad (aC (i:=2) cK.nd rfl (Or.inl rfl) pD)
   (ad (cn PassesOwn.never rfl (pi_enum rfl henum (aa (pv 0) ae)) (dD rfl (aS (aw (i:=3) cK.nd rfl (Or.inl rfl)) (aS (aw (i:=4) cK.nd rfl (Or.inl rfl)) cM)))
    (ah (ps_dput hu (pv 2) (da cy rfl htup (by decide +kernel) (aa (pv 4) ae)) (pv 3) rfl)))
   (ad (aC (i:=5) cK.nd rfl (Or.inl rfl) (aG ae))
   (ad (cn PassesOwn.never rfl (nM .lst .lst rfl hzip (aa (pv 0) (aa (pv 1) ae))) (dD rfl (aS (aw (i:=4) cK.nd rfl (Or.inl rfl)) (aS (aw (i:=6) cK.nd rfl (Or.inl rfl)) cM)))
    (ad (kW (i:=7) (own:=[("other",12)]) rfl cK.nd rfl rfl rfl (bZ (pv 0)) (show db nMoves (ag ju) _ [("other",12)] from⟨rfl,by decide +kernel,by decide +kernel,by decide +kernel,by decide +kernel⟩) (λ_ _ _ _ _=>aw (i:=12) cK.nd rfl (Or.inl rfl)) (λ_ _ _ _ _=>bY) (λ_ _ _ _ _=>al))
    (ad (cn PassesOwn.never rfl (bZ (pv 6)) (dD rfl (aS (aw (i:=8) cK.nd rfl (Or.inl rfl)) (aS (aw (i:=9) cK.nd rfl (Or.inl rfl)) (aS (aw (i:=10) cK.nd rfl (Or.inl rfl)) cM))))
     (ad (aC (i:=11) cK.nd rfl (Or.inl rfl) (pe_dget hu (pv 2) (da cy rfl htup (by decide +kernel) (aa (aJ (k7 DA.F hlen hrange) hr rfl DA.mgf DA.F.kp DA.b .nil az (aa (pv 9) (aa (pv 4) ae))) ae)) (λ_ _=>rfl)))
     (ah (iw (aT cB (aU aA (pv 7) (pv 11) (λ_ _=>rfl)) (pv 10)) (iy (pv 7) (pv 11) eA)))))
    (ah (bU (fP PySem.F.plainAttrs_list PySem.F.slot_list_append PySem.F.type_list_append ci (pv 5) (aa (pv 7) ae)))))))
   (ah (aj (pv 5))))))) ?_
  have hn:fs.length=Lr.vol a.rooms:=by rw[L.len,Lr.bu]
  have hfl:∀i,i<Lr.vol a.rooms→∃q,fs[i]?=some q∧H q=some (.lst (nV (Lr.St a.rooms i))):=by
   intro i hi;have h1:i<fs.length:=by omega
   exact tF (fs[i]) (sG h1) (L.at_ i _ _ (sG h1) (Lr.du hi))
  refine λpl hpl=>?_;have s1:ao H (upd H pl (.dT [])):=ay hpl;refine tW _ rfl pf _ rfl (SqL.of (s1 _ _ L.lst)) (for_enum (K:=K) (a:=pf) (xs:=fs.map V.ref) (λi σ H'=>∃v3 v4:Option V,σ=[some (.ref pf),some (.ref ph),some (.ref pl),v3,v4,none,none,none,none,none,none,none,none]∧ao H H'∧H' pl=some (.dT (kvs a.rooms i)))
   (tH none none rfl s1 ac) (λi σ H' _ ⟨_,_,_,sm,_⟩=>SqL.of (sm _ _ L.lst)) ?_ ?_)
  ·rintro i y T σ H' hy hT ⟨v3,v4,rfl,sm,hd⟩;have hil:i<Lr.vol a.rooms:=by
    have:=(rE.mp hy).1;rw[rR,hn]at this;exact this
   obtain⟨q,hq,hq2⟩:=hfl i hil;have ey:y=V.ref q:=by
    rw[r6,hq]at hy;exact(Option.some.inj hy).symm
   subst ey;have st:=sm.trans (ay (o:=.tup [.int (i:Nat),V.ref q]) hT);refine uy T _ rfl (SqT.of ac) rfl _ (tW _ rfl _ _ rfl rfl ?_);refine t0 _ rfl _ rfl (uo _ rfl q _ rfl (.inl ⟨SqL.of (st _ _ hq2),λtp htp=>?_⟩));have hplT:pl≠T:=ai hd hT;have hd2:(upd H' T (.tup [.int (i:Nat),V.ref q])) pl=some (.dT (kvs a.rooms i)):=by rw[af hplT];exact hd
   have hpltp:pl≠tp:=ai hd2 htp;have hd3:(upd (upd H' T (.tup [.int (i:Nat),V.ref q])) tp (.tup (nV (Lr.St a.rooms i)))) pl=some (.dT (kvs a.rooms i)):=by rw[af hpltp];exact hd2
   refine tH pl _ rfl (DPut.t (k:=aq (Lr.St a.rooms i)) hd3 (by rw[fI];exact ac) ?_) ?_
   ·unfold kvs;rw[rR,sO];exact rh (show i<27 by omega) (by decide)
   ·rw[kvs_put hil];exact tH _ _ rfl (bp (st.trans (ay htp)) hpl) ac
  ·rintro σ H1 ⟨v3,v4,rfl,sm1,hd1⟩;rw[rR,hn]at hd1;refine⟨rO _,λmo hmo=>?_⟩;have s2:=sm1.trans (ay (o:=.lst []) hmo);have hd2:(upd H1 mo (.lst [])) pl=some (.dT (kvs a.rooms (Lr.vol a.rooms))):=ay hmo _ _ hd1;have hL2:=L.same s2;have hA2:=AH.same s2;refine ur _ rfl _ rfl pf (tI ph _ _ rfl (SqL.of hL2.lst) (SqL.of hA2.lst) (for_z2 (K:=K) (k1:=.lst) (k2:=.lst) (a1:=pf) (a2:=ph) (x1s:=fs.map V.ref) (x2s:=hs.map V.ref) (by rw[rR,rR,hn,AH.len]) (λi σ H'=>∃(rs:List Addr) (v3 v4 v6 v7 v8 v9 v10 v11:Option V),σ=[some (.ref pf),some (.ref ph),some (.ref pl),v3,v4,some (.ref mo),v6,v7,v8,v9,v10,v11,none]∧ao H1 H'∧LLI H' mo rs ((aE a).take i))
    (tZ [] v3 v4 none none none (tM none none none rfl (ay hmo) ⟨ac,rfl,λi r l x y=>by simp at x,λr hr=>by simp at hr⟩)) (λi σ H' _ ⟨_,_,_,_,_,_,_,_,_,_,sm,_⟩=>⟨SqL.of (sm _ _ (sm1 _ _ L.lst)),SqL.of (sm _ _ (sm1 _ _ AH.lst))⟩) ?_ ?_))
   ·rintro i y1 y2 T σ H' hy1 hy2 hT ⟨rs,v3,v4,v6,v7,v8,v9,v10,v11,rfl,sm,LM⟩;have hil:i<Lr.vol a.rooms:=by
     have:=(rE.mp hy1).1;rw[rR,hn]at this;exact this
    obtain⟨q,hq,hq2⟩:=hfl i hil;have ey:y1=V.ref q:=by
     rw[r6,hq]at hy1;exact(Option.some.inj hy1).symm
    subst ey;obtain⟨hi,hhi,ey2⟩:∃hi,hs[i]?=some hi∧y2=V.ref hi:=by
     rw[r6]at hy2;cases e:hs[i]? with
     |none=>rw[e]at hy2;cases hy2
     |some z=>rw[e]at hy2;exact tF z rfl ((Option.some.inj hy2).symm)
    subst ey2;obtain⟨hrs,HA⟩:=AH.at_ i hi hhi;have sT:ao H1 (upd H' T (.tup [V.ref q,V.ref hi])):=sm.trans (ay hT);have nT:mo≠T:=ai LM.lst hT;generalize hH2:upd H' T (.tup [V.ref q,V.ref hi])=H2 at sT;have LM2:LLI H2 mo rs ((aE a).take i):=LM.same (by rw[←hH2];exact ay hT);have hT2:H2 T=some (.tup [V.ref q,V.ref hi]):=by rw[←hH2];exact ac
    have HA2:=HA.same (sm1.trans sT);have hq3:=sT _ _ (sm1 _ _ hq2);have hd3:=sT _ _ hd1;have hfit:=Lr.cX hil;refine uy T _ rfl (SqT.of hT2) rfl _ (tW _ rfl _ _ rfl rfl ?_);refine uq _ rfl pf rfl ⟨_,SqL.of (sT _ _ (sm1 _ _ L.lst))⟩ (λmv hmv=>d6 (K:=K) (a:=pf) (xs:=fs.map V.ref) (λt H''=>H''=upd H2 mv (.lst (iV (rW t 0)))) rfl
     (λt H'' _ e=>by rw[e];exact SqL.of (ay hmv _ _ (sT _ _ (sm1 _ _ L.lst)))) ?_ ?_)
    ·rintro t x H'' hx rfl;refine uk rfl _ ac ?_ ?_
     ·have:=(rE.mp hx).1;rw[rR,hn]at this;rw[bG,sf];exact rh (show t<27 by omega) (by decide)
     ·rw[bX,tf];unfold iV;rw[sQ];rfl
    ·rintro H'' rfl;rw[rR,hn,←mvL_nil a i];have smv:ao H2 (upd H2 mv (.lst (iV (mvL a i [])))):=ay hmv;refine uq _ rfl hi rfl ⟨_,SqL.of (smv _ _ HA2.lst)⟩ (dS (K:=K) (a:=hi) (xs:=hrs.map V.ref) (λt σ H''=>∃v8 v9 v10 v11:Option V,σ=[some (.ref pf),some (.ref ph),some (.ref pl),v3,some (.ref q),some (.ref mo),some (.ref hi),some (.ref mv),v8,v9,v10,v11,none]∧ao H2 H''∧H'' mv=some (.lst (iV (mvL a i ((Su111.ups a.m).take t)))))
      ⟨v8,tM v9 v10 v11 rfl smv ac⟩ (λt σ H'' _ ⟨_,_,_,_,_,s5,_⟩=>SqL.of (s5 _ _ HA2.lst)) ?_ ?_)
     ·rintro t y σ H3 hy ⟨v8,v9,v10,v11,rfl,s5,hM⟩;obtain⟨r,hr2,ey⟩:∃r,hrs[t]?=some r∧y=V.ref r:=by
       rw[r6]at hy;cases e:hrs[t]? with
       |none=>rw[e]at hy;cases hy
       |some z=>rw[e]at hy;exact tF z rfl ((Option.some.inj hy).symm)
      subst ey;have htl:t<(Su111.ups a.m).length:=by
       rw[←HA.len];exact(rE.mp hr2).1
      obtain⟨u,hu2⟩:∃u,(Su111.ups a.m)[t]?=some u:=⟨_,sG htl⟩
      obtain⟨pu,pw,g1,g2,g3,_⟩:=HA2.at_ t r u hr2 hu2;have hnf:=Lr.cx hv hfit u;have hix:=Lr.eE hnf;refine uy r _ rfl (SqT.of (s5 _ _ g1)) rfl _ (tQ _ rfl _ _ (uB rfl _ _ rfl rfl ?_));refine tF _ rfl (tT _ rfl _ rfl pw q (tM a (Lr.St a.rooms i) u rfl ⟨.inl (SqL.of (s5 _ _ g3)),.inl (SqL.of (s5 _ _ hq3)),hv.len.symm,hfit.len,hm4⟩ (λna hna=>?_)));have s6:ao H3 (upd H3 na (.lst (nV (a.next (Lr.St a.rooms i) u)))):=ay hna;refine tO na _ rfl (.inl ⟨SqL.of ac,λtp htp=>?_⟩);have s7:=s6.trans (ay (o:=.tup (nV (a.next (Lr.St a.rooms i) u))) htp);refine tH pl (V.int (Lr.idx a.rooms (a.next (Lr.St a.rooms i) u):Int)) rfl ?_ ?_
      ·have g:=DGet.t (k:=aq (a.next (Lr.St a.rooms i) u)) (s7 _ _ (s5 _ _ hd3)) (show(upd (upd H3 na (.lst (nV (a.next (Lr.St a.rooms i) u)))) tp (.tup (nV (a.next (Lr.St a.rooms i) u)))) tp=some (.tup ((aq (a.next (Lr.St a.rooms i) u)).map kV)) by rw[fI];exact ac);rw[kvs_val hnf]at g;exact g
      ·-- move[after]=move[after]+weight
       have hM2:=s7 _ _ hM;refine tT _ rfl _ rfl mv _ (tG _ _ rfl rfl (SqL.of hM2) (mI (oh hix)) ?_);refine tW _ rfl _ _ rfl rfl ?_;refine tT _ rfl _ rfl mv _ (tG _ _ rfl rfl hM2 (fJ (by rw[bG,je];exact hix)) ?_);refine⟨_,tM _ _ _ rfl (bp (s5.trans s7) hmv) ?_⟩;have et:(Su111.ups a.m).take (t+1)=(Su111.ups a.m).take t++[u]:=by
        rw[sI,hu2];rfl
       rw[ac,et,←mvL_snoc hix];unfold iV;rw[List.map_set]
     ·rintro σ H3 ⟨v8,v9,v10,v11,rfl,s5,hM⟩;rw[rR,HA.len,tm,mvL_all hv hil]at hM;have nmv:mv≠mo:=(ai LM2.lst hmv).symm;have LM3:=LM2.same s5;have hlenM:((aE a).take i).length=i:=by
       rw[rX];unfold aE;rw[rR,sO];omega
      refine⟨_,t9 rfl (.inl (uj rfl _ (SqL.of LM3.lst))) _ rfl mo _ (t8 _ rfl rfl LM3.lst ?_ ?_)⟩
      ·rw[rR,LM3.len,hlenM];exact rh (show i<27 by omega) (by decide)
      ·refine tZ (rs++[mv]) _ _ _ _ _ (tM _ _ _ rfl (bp (sT.trans s5) hmo) ?_);have et:(aE a).take (i+1)=(aE a).take i++[(rn (Lr.vol a.rooms)).map λj=>(Lr.P a i j:Int)]:=by
        rw[sI];congr 1;unfold aE;rw[r6,sR hil];rfl
       rw[et];exact LM3.snoc ac (by rw[af nmv];exact hM) (λb o e hb=>by rw[af hb];exact e) nmv
   ·rintro σ H' ⟨rs,v3,v4,v6,v7,v8,v9,v10,v11,rfl,sm,LM⟩;rw[rR,hn]at LM;have:(aE a).take (Lr.vol a.rooms)=aE a:=sn (by unfold aE;simp);rw[this]at LM;exact tF _ rfl (k H' mo rs (sm1.trans sm) LM)
end
abbrev sBal:Stmt:=top 19
theorem qP{a:Su111.Abs}{i:Nat}(h:i<Lr.vol a.rooms):(aE a)[i]?=some ((rn (Lr.vol a.rooms)).map λj=>(Lr.P a i j:Int)):=by
 unfold aE;rw[r6,sR h];rfl
theorem my{a:Su111.Abs}{i j:Nat}(h:j<Lr.vol a.rooms):((rn (Lr.vol a.rooms)).map λj=>(Lr.P a i j:Int))[j]?=some (Lr.P a i j:Int):=by
 rw[r6,sR h];rfl
def cS(a:Su111.Abs)(i t:Nat):List Int:=(rn t).map λj=>-(Lr.P a (j+1) (i+1):Int)
theorem eC(a:Su111.Abs)(i t:Nat):(cS a i t).length=t:=by unfold cS;simp
theorem mE{a:Su111.Abs}{i t j:Nat}(h:j<t):(cS a i t)[j]?=some (-(Lr.P a (j+1) (i+1):Int)):=by
 unfold cS;rw[r6,sR h];rfl
theorem row_eq{a:Su111.Abs}{i:Nat}(h:i+1<Lr.vol a.rooms):(cS a i (Lr.vol a.rooms-1)).set i (-(Lr.P a (i+1) (i+1):Int)+((10^a.m:Nat):Int))++[(Lr.P a 0 (i+1):Int)]=bQ (Lr.Ap a) (Lr.vol a.rooms-1) 0 i:=by
 apply sY;intro j;have hl:((cS a i (Lr.vol a.rooms-1)).set i (-(Lr.P a (i+1) (i+1):Int)+((10^a.m:Nat):Int))).length=Lr.vol a.rooms-1:=by rw[si,eC]
 by_cases hj:j<Lr.vol a.rooms-1
 ·rw[rZ (by rw[hl];exact hj),List.getElem?_set,gc (by omega)];show _=some (Lr.Ap a i j);unfold Lr.Ap;rw[if_neg (show ¬j+1=Lr.vol a.rooms by omega)];by_cases e:i=j
  ·subst e;rw[if_pos rfl,if_pos (by rw[eC];exact hj),if_pos rfl];congr 1;omega
  ·rw[if_neg e,mE hj,if_neg e];congr 1;omega
 ·by_cases hj2:j=Lr.vol a.rooms-1
  ·subst hj2;rw[rY (by rw[hl];exact rL _),hl,sJ,gc (by omega)];show _=some (Lr.Ap a i _);unfold Lr.Ap;rw[if_pos (by omega)];rfl
  ·rw[su (by rw[r9,hl,sk];omega),su (by rw[bE];omega)]
section
variable {P:Program} {w:World} {K:fG} {mg:Str→Option Value} {base:Heap}
def spBal(K:fG):Sp:=λvs H Q _=>∃(pm:Addr) (ms:List Addr) (a:Su111.Abs),vs=[.ref pm,.int ((10^a.m:Nat):Int)]∧LLI H pm ms (aE a)∧Lr.vol a.rooms≤27∧∀(H':Hp) (q:Addr) (rs:List Addr),ao H H'→LLI H' q rs (bR (Lr.Ap a) (Lr.vol a.rooms-1) 0)→Q (.ref q) H'
abbrev nBal:List Str:=["moves","cases","rows","after","row","before"]
theorem scBal:ap nBal ["moves","cases"] (ag sBal):=⟨rfl,rfl,rfl,by decide +kernel,rfl,by decide +kernel,by decide +kernel⟩
theorem ok_bal{f:Addr}{fd:FuncData}(F:Fun K "balance_rows" "balance_rows" sBal f fd)(hlen:mg "len" = none)(hrange:mg "range" = none):aZ P w K mg base CX0 1 f fd ["moves","cases"] (spBal K):=by
 refine F.ok scBal (λvs H Q E h=>?_) (λcdv A outer s H vs Q E hr h=>?_)
 ·obtain⟨pm,ms,a,rfl,_⟩:=h;rfl
 ·obtain⟨pm,ms,a,rfl,L,hvol,k⟩:=h;refine tF _ (ad (aC (i:=2) scBal.nd rfl (Or.inl rfl) (aG ae))
   (ad (cn PassesOwn.never rfl (gS rfl hrange (aa al (aa (aM au (by rfl) hlen PySem.boot_len (aa (pv 0) ae)) ae))) (aw (i:=3) scBal.nd rfl (Or.inr rfl))
    (ad (kW (i:=4) (own:=[("before",5)]) rfl scBal.nd rfl rfl rfl (gS rfl hrange (aa al (aa (aM au (by rfl) hlen PySem.boot_len (aa (pv 0) ae)) ae))) (show db nBal (ag sBal) _ [("before",5)] from⟨rfl,by decide +kernel,by decide +kernel,by decide +kernel,by decide +kernel⟩)
     (λ_ _ _ _ _=>aw (i:=5) scBal.nd rfl (Or.inl rfl)) (λ_ _ _ _ _=>bY) (λ_ _ _ _ _=>jX fY (aU (r:=rIxL K) aA (aU (r:=rIxL K) aA (pv 0) (pv 5) (λ_ _=>rfl)) (pv 3) (λ_ _=>rfl))))
    (ad (iw (aT cB (aU aA (pv 4) (aT dZ (pv 3) al) (λ_ _=>rfl)) (pv 1)) (iy (pv 4) (aT dZ (pv 3) al) eA))
    (ad (bU (fP PySem.F.plainAttrs_list PySem.F.slot_list_append PySem.F.type_list_append ci (pv 4) (aa (aU aA (aU aA (pv 0) al (λ_ _=>rfl)) (pv 3) (λ_ _=>rfl)) ae)))
    (ah (bU (fP PySem.F.plainAttrs_list PySem.F.slot_list_append PySem.F.type_list_append ci (pv 2) (aa (pv 4) ae))))))))
   (ah (aj (pv 2))))) ?_
  have hn:((ms.map V.ref).length:Int)=(Lr.vol a.rooms:Int):=by
   rw[rR,L.len];unfold aE;simp
  have hv0:=Lr.bK a.rooms;have hget:∀i,i<Lr.vol a.rooms→∃r,ms[i]?=some r∧H r=some (.lst (iV ((rn (Lr.vol a.rooms)).map λj=>(Lr.P a i j:Int)))):=λi hi=>L.get (qP hi);refine⟨rO _,λro hro=>?_⟩;have s1:ao H (upd H ro (.lst [])):=ay hro;refine tQ _ rfl pm _ (ue rfl (.inl (SqL.of (s1 _ _ L.lst))) 1 ((ms.map V.ref).length:Int) rfl (ud (by omega) (by omega) (by omega) (by omega)) (ft (lo:=1) (n:=(((ms.map V.ref).length:Int)-1).toNat) (λi σ H'=>∃(rs:List Addr) (v3 v4:Option V),σ=[some (.ref pm),some (.int ((10^a.m:Nat):Int)),some (.ref ro),v3,v4,none]∧ao H H'∧LLI H' ro rs ((bR (Lr.Ap a) (Lr.vol a.rooms-1) 0).take i))
   (tM [] none none rfl s1 ⟨ac,rfl,λi r l x y=>by simp at x,λr hr=>by simp at hr⟩) ?_ ?_))
  ·rintro i σ H' hi ⟨rs,v3,v4,rfl,sm,LM⟩;have hi':i+1<Lr.vol a.rooms:=by omega
   have ei:(1:Int)+(i:Nat)=((i+1:Nat):Int):=by omega
   rw[ei];refine tQ _ rfl pm _ (ue rfl (.inl (SqL.of (sm _ _ L.lst))) 1 ((ms.map V.ref).length:Int) rfl (ud (by omega) (by omega) (by omega) (by omega)) (λrw hrw=>lp (lo:=1) (n:=(((ms.map V.ref).length:Int)-1).toNat) (λt H''=>H''=upd H' rw (.lst (iV (cS a i t)))) rfl ?_ ?_))
   ·rintro t H'' ht rfl;have ht':t+1<Lr.vol a.rooms:=by omega
    have et:(1:Int)+(t:Nat)=((t+1:Nat):Int):=by omega
    obtain⟨r,hr1,hr2⟩:=hget (t+1) ht';have st:ao H (upd H' rw (.lst (iV (cS a i t)))):=sm.trans (ay hrw);refine⟨rfl,?_⟩;refine tT _ rfl _ rfl pm _ (tG _ _ rfl rfl (SqL.of (st _ _ L.lst)) (by rw[et];exact aR (j:=t+1) (v:=V.ref r) (by rw[r6,hr1];rfl)) ?_);refine tQ _ rfl r _ (tG _ _ rfl rfl (SqL.of (st _ _ hr2)) (mI (i:=i+1) (my hi')) ?_);refine uq _ rfl _ ac ?_ ?_
    ·rw[bG,eC];exact rh (show t<27 by omega) (by decide)
    ·rw[bX];congr 2;unfold cS;rw[sP,sQ];unfold iV;rw[sQ];rfl
   ·rintro H'' rfl;have eN:(((ms.map V.ref).length:Int)-1).toNat=Lr.vol a.rooms-1:=by omega
    rw[eN];have st:ao H' (upd H' rw (.lst (iV (cS a i (Lr.vol a.rooms-1))))):=ay hrw;have nrw:rw≠ro:=(ai LM.lst hrw).symm;have ej:((i+1:Nat):Int)-1=(i:Int):=by omega
    refine tT _ rfl _ rfl _ _ (uu rfl rfl rw _ _ (t8 _ rfl rfl (SqL.of ac) (by rw[ej];exact mI (i:=i) (mE (by omega))) ?_));refine tW _ rfl _ _ rfl rfl ?_;refine tT _ rfl _ rfl _ _ (uu rfl rfl rw _ _ (t8 i rfl rfl ac (by rw[ej];exact fJ (by rw[bG,eC];omega)) ?_));rw[bX];have eset:(iV (cS a i (Lr.vol a.rooms-1))).set i (V.int (-(Lr.P a (i+1) (i+1):Int)+((10^a.m:Nat):Int)))=iV ((cS a i (Lr.vol a.rooms-1)).set i (-(Lr.P a (i+1) (i+1):Int)+((10^a.m:Nat):Int))):=by
     unfold iV;rw[List.map_set]
    have eset':(iV (cS a i (Lr.vol a.rooms-1))).set i ((λi j=>V.int (i+j)) (-(Lr.P a (i+1) (i+1):Int)) ((10^a.m:Nat):Int))=iV ((cS a i (Lr.vol a.rooms-1)).set i (-(Lr.P a (i+1) (i+1):Int)+((10^a.m:Nat):Int))):=eset;rw[eset'];obtain⟨r0,h01,h02⟩:=hget 0 hv0;have st2:ao H' (upd H' rw (.lst (iV ((cS a i (Lr.vol a.rooms-1)).set i (-(Lr.P a (i+1) (i+1):Int)+((10^a.m:Nat):Int)))))):=ay hrw;refine⟨_,t9 rfl (.inl (uj rfl _ (SqL.of ac))) _ rfl pm _ (tG _ _ rfl rfl (SqL.of (st2 _ _ (sm _ _ L.lst))) (aR (j:=0) (v:=V.ref r0) (by rw[r6,h01];rfl)) ?_)⟩;refine tQ _ rfl r0 _ (tG _ _ rfl rfl (SqL.of (st2 _ _ (sm _ _ h02))) (mI (i:=i+1) (my hi')) ?_);refine⟨rw,tG _ _ rfl rfl ac ?_ ?_⟩
    ·rw[bG,si,eC];exact rh (show Lr.vol a.rooms-1<27 by omega) (by decide)
    ·rw[bX];have eapp:iV ((cS a i (Lr.vol a.rooms-1)).set i (-(Lr.P a (i+1) (i+1):Int)+((10^a.m:Nat):Int)))++[V.int (Lr.P a 0 (i+1):Int)]=iV (bQ (Lr.Ap a) (Lr.vol a.rooms-1) 0 i):=by
      rw[←row_eq hi'];unfold iV;rw[sQ];rfl
     rw[eapp];have st3:ao H' (upd H' rw (.lst (iV (bQ (Lr.Ap a) (Lr.vol a.rooms-1) 0 i)))):=ay hrw;refine⟨_,t9 rfl (.inl (uj rfl _ (SqL.of (st3 _ _ LM.lst)))) _ rfl ro _ (t8 _ rfl rfl (st3 _ _ LM.lst) ?_ ?_)⟩
     ·rw[rR,LM.len,rX,fD];exact sA (Nat.min_le_right _ _) (rh (show Lr.vol a.rooms-1<27 by omega) (by decide))
     ·refine tM (rs++[rw]) _ _ rfl (bp (sm.trans st3) hro) ?_;have etk:(bR (Lr.Ap a) (Lr.vol a.rooms-1) 0).take (i+1)=(bR (Lr.Ap a) (Lr.vol a.rooms-1) 0).take i++[bQ (Lr.Ap a) (Lr.vol a.rooms-1) 0 i]:=by
       rw[sI];congr 1;unfold bR;rw[r6,sR (by omega)];rfl
      rw[etk];exact(LM.same st3).snoc ac (by rw[af nrw,ac]) (λb o e hb=>by rw[af hb];exact e) nrw
  ·rintro σ H' ⟨rs,v3,v4,rfl,sm,LM⟩;have eN:(((ms.map V.ref).length:Int)-1).toNat=Lr.vol a.rooms-1:=by omega
   rw[eN,sn (by rw[fD];exact rL _)]at LM;exact tF _ rfl (k H' ro rs sm LM)
end
abbrev iq:Stmt:=top 10
section
variable {P:Program} {w:World} {K:fG} {mg:Str→Option Value} {base:Heap}
theorem tens(n:Nat):i8 (rW n 10)=((10^n:Nat):Int):=by
 unfold i8;have:∀(n:Nat) (c:Int),(rW n (10:Int)).foldl (λx y=>x*y) c=c*((10^n:Nat):Int):=by
  intro n;induction n with
  |zero=>intro c;simp
  |succ n ih =>
   intro c;rw[List.replicate_succ,List.foldl_cons,ih,Nat.pow_succ,tw,Int.mul_assoc,Int.mul_comm (10:Int)];rfl
 rw[this,Int.one_mul]
def spCases(K:fG):Sp:=λvs H Q _=>∃(pc:Addr) (ps:List Nat),vs=[.ref pc]∧Sq K H pc (nV ps)∧ps.length≤4∧∀H',ao H H'→Q (.int ((10^ps.length:Nat):Int)) H'
abbrev nCases:List Str:=["chances","chance"]
theorem nE:ap nCases ["chances"] (ag iq):=⟨rfl,rfl,rfl,by decide +kernel,rfl,by decide +kernel,by decide +kernel⟩
theorem pP{f:Addr}{fd:FuncData}(F:Fun K "hour_cases" "hour_cases" iq f fd)(DP:aN K mg "product" ib ["numbers"]):aZ P w K mg base CX0 2 f fd ["chances"] (spCases K):=by
 refine F.ok nE (λvs H Q E h=>?_) (λcdv A outer s H vs Q E hr h=>?_)
 ·obtain⟨pc,ps,rfl,_⟩:=h;rfl
 ·obtain⟨pc,ps,rfl,hc,hl,k⟩:=h;refine tF _ (ah (aj (aJ (nS DP.F) hr rfl DP.mgf DP.F.kp DP.b .nil az (aa (fi (own:=[("chance",1)]) rfl nE.nd (pi_seq 0 (pv 0)) (show db nCases (ag iq) _ [("chance",1)] from⟨rfl,by decide +kernel,by decide +kernel,by decide +kernel,by decide +kernel⟩) (λ_ _ _ _ _=>aw (i:=1) nE.nd rfl (Or.inl rfl)) (λ_ _ _ _ _=>bY) (λ_ _ _ _ _=>al)) ae)))) ?_;refine lc_seqU (K:=K) (n:=0) (g:=dq 1) (tt:=tYes) (te:=tC (V.int 10)) (vs:=[1]) (σ:=[some (.ref pc),none]) (a:=pc) (xs:=nV ps) rfl hc (λD i H'=>H'=upd H D (.lst (iV (rW i 10)))) (λD hD=>rfl) (λD i H' hD e=>by rw[e];exact ay hD) ?_ ?_
  ·rintro D i x H' hD hx rfl;refine uk rfl _ ac ?_ ?_
   ·have:=(rE.mp hx).1;rw[aD]at this;rw[bG,sf];exact rh (show i<4 by omega) (by decide)
   ·rw[bX,tf];unfold iV;rw[sQ];rfl
  ·rintro D H' hD rfl;rw[aD];refine tP D (rW ps.length 10) rfl (SqL.of ac) (λn hn=>?_) ?_
   ·rw[(List.mem_replicate.1 hn).2];decide
   ·rw[tens];exact k _ (ay hD)
end
abbrev f9:Stmt:=inClass (top 20) 0
def But(p:Addr)(H H':Hp):Prop:=∀b o,H b=some o→b≠p→H' b=some o
def plain:HO→Bool
 |.lst _=>true
 |.tup _=>true
 |_=>false
theorem But.of{p:Addr}{H H':Hp}{C dx:Addr}{fs:List (Str×V)}(e:But p H H')(hp:H p=some (.ins C dx fs)){b:Addr}{o:HO}(hb:H b=some o)(ho:plain o=true):H' b=some o:=by
 refine e b o hb (λz=>?_);rw[z,hp]at hb;injection hb with hb;subst hb;cases ho
theorem But.set{p:Addr}{H:Hp}{o:HO}:But p H (upd H p o):=λb u e hb=>by
 rw[af hb];exact e
theorem But.trans{p:Addr}{H H1 H2:Hp}(a:But p H H1)(b:But p H1 H2):But p H H2:=λc o h n=>b c o (a c o h n) n
theorem But.same{p:Addr}{H H1 H2:Hp}(a:But p H H1)(b:ao H1 H2):But p H H2:=λc o h n=>b c o (a c o h n)
theorem LL.but{p:Addr}{H H':Hp}{C dx:Addr}{fs:List (Str×V)}{q:Addr}{rs:List Addr}{ls:List (List Nat)}(h:LL H q rs ls)(e:But p H H')(hp:H p=some (.ins C dx fs)):LL H' q rs ls :=
 ⟨e.of hp h.lst rfl,h.len,λi r l a b=>e.of hp (h.at_ i r l a b) rfl⟩
theorem ca.but{p:Addr}{H H':Hp}{C dx:Addr}{fs:List (Str×V)}{q:Addr}{rs:List Addr}{a:Su111.Abs}{s:List Nat}{us:List (List Nat)}(h:ca H q rs a s us)(e:But p H H')(hp:H p=some (.ins C dx fs)):ca H' q rs a s us :=
 ⟨e.of hp h.lst rfl,h.len,λi r u x y=>let ⟨pu,pw,h1,h2,h3,n⟩:=h.at_ i r u x y;⟨pu,pw,e.of hp h1 rfl,e.of hp h2 rfl,e.of hp h3 rfl,n⟩⟩
theorem dw.but{p:Addr}{H H':Hp}{C dx:Addr}{fs:List (Str×V)}{q:Addr}{hs:List Addr}{a:Su111.Abs}(h:dw H q hs a)(e:But p H H')(hp:H p=some (.ins C dx fs)):dw H' q hs a :=
 ⟨e.of hp h.lst rfl,h.len,λi r hr=>let ⟨rs,x⟩:=h.at_ i r hr;⟨rs,x.but e hp⟩⟩
theorem nV_ref{l:List Nat}{hs:List Addr}(hl:0<l.length):nV l≠hs.map V.ref:=by
 intro e;cases l with
 |nil=>simp at hl
 |cons x l =>
  cases hs with
  |nil=>unfold nV at e;simp at e
  |cons y hs =>
   unfold nV at e;rw[rQ,rQ]at e;injection e with e1 _;cases e1
theorem ca.upd{H:Hp}{h D:Addr}{rs hs:List Addr}{a:Su111.Abs}{s:List Nat}{ys:List V}(x:ca H h rs a s (Su111.ups a.m))(hm:0<a.m)(hD:H D=some (.lst (hs.map V.ref)))(hl:∀y,y∈hs→∃l,H y=some (.lst l)):ca (L2.upd H D (.lst ys)) h rs a s (Su111.ups a.m)∧h≠D:=by
 have hup:0<(Su111.ups a.m).length:=by
  rw[cg];exact Nat.pow_pos (by omega)
 have ne:h≠D:=by
  intro z;have e:=x.lst;rw[z,hD]at e;injection e with e;injection e with e;have hr0:0<rs.length:=by rw[x.len];exact hup
  obtain⟨pu,pw,g1,_⟩:=x.at_ 0 rs[0] _ (sG hr0) (sG hup);have hlen:rs.length=hs.length:=by
   have:=congrArg List.length e;rw[rR,rR]at this;exact this.symm
  have e0:=congrArg (λl:List V=>l[0]?) e;rw[r6,r6,sG hr0,sG (show 0<hs.length by omega)]at e0;injection e0 with e0;injection e0 with e0;obtain⟨l,hl0⟩:=hl _ (List.getElem_mem (show 0<hs.length by omega));rw[e0,g1]at hl0;cases hl0
 refine⟨⟨by rw[af ne];exact x.lst,x.len,λi r u a1 a2=>?_⟩,ne⟩;obtain⟨pu,pw,g1,g2,g3,n⟩:=x.at_ i r u a1 a2;have hul:=Lr.dg (r8 a2);have nr:r≠D:=a9 g1 hD (by intro z;cases z);have nu:pu≠D:=by
  intro z;rw[z,hD]at g2;injection g2 with g2;injection g2 with g2;exact nV_ref (by omega) g2.symm
 have nw:pw≠D:=by
  intro z;rw[z,hD]at g3;injection g3 with g3;injection g3 with g3;exact nV_ref (by rw[dA];omega) g3.symm
 exact tP pu pw (by rw[af nr];exact g1) (by rw[af nu];exact g2) (by rw[af nw];exact g3) n
def runF(c f h s:V):List (Str×V):=a7 "shares" s (a7 "hours" h (a7 "fillings" f (a7 "cases" c [])))
structure cW(C:Addr)(H:Hp)(p:Addr)(a:Su111.Abs):Prop where
 ex:∃(dx pf ph ps:Addr) (fs hs:List Addr) (d:Int) (Z:Nat→Int),H p=some (.ins C dx (runF (.int ((10^a.m:Nat):Int)) (.ref pf) (.ref ph) (.ref ps)))∧LL H pf fs (Su111.states a.rooms)∧dw H ph hs a∧H ps=some (.lst (iV (d::(rn (Lr.vol a.rooms-1)).map Z)))∧Lr.lP a d Z
structure lM(K:fG)(mg:Str→Option Value)(C:Addr):Prop where
 cl:Cls K C
 n1:c7 K C "cases"
 n2:c7 K C "fillings"
 n3:c7 K C "hours"
 n4:c7 K C "shares"
 mgC:mg "LongRun" = some (.ref C)
section
variable {P:Program} {w:World} {K:fG} {mg:Str→Option Value} {base:Heap}
def mi(K:fG)(C:Addr):Sp:=λvs H Q _=>∃(p dx pc ph:Addr) (a:Su111.Abs),vs=[.ref p,.ref pc,.ref ph]∧H p=some (.ins C dx [])∧Sq K H pc (nV a.chances)∧Sq K H ph (nV a.rooms)∧Lr.a0 a∧Lr.vol a.rooms≤27∧a.m≤4∧∀H',cW C H' p a→But p H H'→Q .non H'
abbrev pU:List Str:=["self","chances","holds","filling"]
theorem jt:ap pU ["self","chances","holds"] (ag f9):=⟨rfl,rfl,rfl,by decide +kernel,rfl,by decide +kernel,by decide +kernel⟩
theorem qL{f C:Addr}{fd:FuncData}(F:Fun K "__init__" "LongRun.__init__" f9 f fd)(T:lM K mg C)(DP:aN K mg "product" ib ["numbers"])(DN:aN K mg "hour_cases" iq ["chances"])(DE:aN K mg "every_choice" kP ["limits"])(DL:aN K mg "likely_hours" fC ["chances","holds","filling"])(DW:aN K mg "who_works" sWho ["ups","holds","filling"])(DH:aN K mg "has_piece" sHas ["machine","filling"])(DG:aN K mg "weight_of" eP ["ups","chances"])(DS:aN K mg "solution" sSol ["rows"])(DT:aN K mg "triangle" sTri ["rows"])(DC:aN K mg "cleared" ga ["row","by","place","divisor"])(DB:aN K mg "balance_rows" sBal ["moves","cases"])(DM:aN K mg "move_weights" ju ["fillings","hours"])(DA:aN K mg "filling_after" gb ["works","filling"])(hlen:mg "len" = none)(hrange:mg "range" = none)(hzip:mg "zip" = none)(henum:mg "enumerate" = none)(htup:mg "tuple" = none)(hlist:mg "list" = none)(hsum:mg "sum" = none):aZ P w K mg base CX0 4 f fd ["self","chances","holds"] (mi K C):=by
 refine F.ok jt (λvs H Q E h=>?_) (λcdv A outer s H vs Q E hr h=>?_)
 ·obtain⟨p,dx,pc,ph,a,rfl,_⟩:=h;rfl
 ·obtain⟨p,dx,pc,ph,a,rfl,hp,hc,hh,hv,hvol,hm4,k⟩:=h;have hr1:bP 1 _:=hr.mono (by decide);have hr2:bP 2 _:=hr.mono (by decide);refine tF _ (ad (cR (pv 0) (aJ (pP DN.F DP) hr2 rfl DN.mgf DN.F.kp DN.b .nil az (aa (pv 1) ae)) rfl)
   (ad (cR (pv 0) (aJ (ok_each DE.F hrange) hr1 rfl DE.mgf DE.F.kp DE.b .nil az (aa (pv 2) ae)) rfl)
   (ad (cR (pv 0) (fi (own:=[("filling",3)]) rfl jt.nd (bZ (ax (pv 0) rfl)) (show db pU (ag f9) _ [("filling",3)] from⟨rfl,by decide +kernel,by decide +kernel,by decide +kernel,by decide +kernel⟩) (λ_ _ _ _ _=>aw (i:=3) jt.nd rfl (Or.inl rfl)) (λ_ _ _ _ _=>bY)
    (te:=tCall (o4 K) [] E0 (ia (dc 1) (ia (dc 2) (ia (dc 3) tNil)))) (λ_ _ _ _ _=>aJ (mD DL.F DE DW DH DG DP hlen hrange hzip) hr rfl DL.mgf DL.F.kp DL.b .nil az (aa (pv 1) (aa (pv 2) (aa (pv 3) ae))))) rfl)
   (ah (cR (pv 0) (aJ (ok_sol DS.F DT DC hlen hrange hlist hzip hsum) hr rfl DS.mgf DS.F.kp DS.b .nil az (aa (aJ (ok_bal DB.F hlen hrange) hr1 rfl DB.mgf DB.F.kp DB.b .nil az (aa (aJ (ok_moves DM.F DA hlen hrange hzip henum htup) hr2 rfl DM.mgf DM.F.kp DM.b .nil az (aa (ax (pv 0) rfl) (aa (ax (pv 0) rfl) ae))) (aa (ax (pv 0) rfl) ae))) ae)) rfl))))) ?_
  have hml:a.chances.length=a.m:=rfl;have hm0:0<a.m:=by have:=hv.len;omega
  refine tF _ rfl (tP pc a.chances rfl hc (by rw[hml];exact hm4) (λH0 s1=>?_))
  ·rw[hml]
   ·skip
    refine tR _ rfl p C dx (tJ _ rfl (s1 _ _ hp) T.cl T.n1 (by show 0<1000;decide) ?_);generalize hH1:upd H0 p (.ins C dx (a7 "cases" (.int ((10^a.m:Nat):Int)) []))=H1;have b1:But p H H1:=by rw[←hH1];exact λb o e hb=>by rw[af hb];exact s1 _ _ e
    have hp1:H1 p=some (.ins C dx (a7 "cases" (.int ((10^a.m:Nat):Int)) [])):=by rw[←hH1];exact ac
    have sqB:∀{H2:Hp} {b:Addr} {xs:List V},But p H H2→Sq K H b xs→Sq K H2 b xs:=by
     intro H2 b xs e h;rcases h with h|h
     ·refine .inl ?_;rcases h with h|h
      ·rcases h with h|⟨o,h⟩
       ·exact .inl (.inl (e.of hp h rfl))
       ·refine .inl (.inr ⟨o,e _ _ h (λz=>?_)⟩);rw[z,hp]at h;cases h
      ·exact .inr h
     ·refine .inr ?_;rcases h with h|h
      ·rcases h with h|⟨o,h⟩
       ·exact .inl (.inl (e.of hp h rfl))
       ·refine .inl (.inr ⟨o,e _ _ h (λz=>?_)⟩);rw[z,hp]at h;cases h
      ·exact .inr h
    refine tF _ rfl (tG ph a.rooms rfl (sqB b1 hh) (by omega) (by have:=hv.len;omega) (λH2 pf fs s2 LF=>?_));refine tR _ rfl p C dx (tJ _ rfl (s2 _ _ hp1) T.cl T.n2 (by show 1<1000;decide) ?_);generalize hH3:upd H2 p (.ins C dx (a7 "fillings" (.ref pf) (a7 "cases" (.int ((10^a.m:Nat):Int)) [])))=H3;have b3':But p H2 H3:=by rw[←hH3];exact But.set
    have b3:But p H H3:=(b1.same s2).trans b3';have hp3:H3 p=some (.ins C dx (a7 "fillings" (.ref pf) (a7 "cases" (.int ((10^a.m:Nat):Int)) []))):=by rw[←hH3];exact ac
    have LF3:=LF.but b3' (s2 _ _ hp1);have hfn:fs.length=Lr.vol a.rooms:=by rw[LF.len,Lr.bu]
    refine tR _ rfl p C dx (tG _ _ rfl hp3 T.cl T.n2 (uk (by rw[bj,if_pos rfl]) pf rfl ⟨_,SqL.of LF3.lst⟩ (λDh hDh=>d6 (K:=K) (a:=pf) (xs:=fs.map V.ref) (λi H'=>∃hs:List Addr,ao H3 H'∧H' Dh=some (.lst (hs.map V.ref))∧hs.length=i∧∀(j:Nat) (h:Addr),hs[j]?=some h→∃rs,ca H' h rs a (Lr.St a.rooms j) (Su111.ups a.m))
     (ua [] (ay hDh) ac rfl (λj h x=>by simp at x)) (λi H' _ ⟨_,s4,_⟩=>SqL.of (s4 _ _ LF3.lst)) ?_ ?_)))
    ·rintro i y H' hy ⟨hs,s4,hD4,hlen4,hat⟩;have hil:i<Lr.vol a.rooms:=by
      have:=(rE.mp hy).1;rw[rR,hfn]at this;exact this
     have hq:=LF3.at_ i fs[i] _ (sG (by omega)) (Lr.du hil);have ey:y=V.ref fs[i]:=by
      rw[r6,sG (show i<fs.length by omega)]at hy;exact(Option.some.inj hy).symm
     subst ey;refine⟨rfl,?_⟩;refine tF _ rfl (tT _ rfl _ rfl pc ph (t6 (fs[i]) a (Lr.St a.rooms i) rfl (tN (sqS s4 (sqB b3 hc)) (sqS s4 (sqB b3 hh)) (.inl (SqL.of (s4 _ _ hq))) hv ((Lr.cX hil).len) hm4 (λH5 q5 rs5 s5 HA5=>?_))));have hD5:=s5 _ _ hD4;have hls:∀y,y∈hs→∃l,H5 y=some (.lst l):=by
      intro y hy;obtain⟨j,hj⟩:=sM hy;obtain⟨rs,hx⟩:=hat j y hj;exact⟨_,s5 _ _ hx.lst⟩
     refine tK (hs.map V.ref) hD5 ?_ (ua (hs++[q5]) (bp (s4.trans s5) hDh) ?_ (by rw[r9,hlen4];rfl) (λj h hj=>?_))
     ·rw[rR,hlen4];exact rh (show i<27 by omega) (by decide)
     ·rw[ac,sQ];rfl
     ·by_cases hjl:j<hs.length
      ·rw[rZ hjl]at hj;obtain⟨rs,hx⟩:=hat j h hj;exact⟨rs,((hx.same s5).upd hm0 hD5 hls).1⟩
      ·have hj2:j=hs.length:=by
        have:=(rE.mp hj).1;rw[r9,sk]at this;omega
       subst hj2;rw[rY (rL _),sJ]at hj;simp at hj;subst hj;rw[hlen4];exact⟨rs5,(HA5.upd hm0 hD5 hls).1⟩
    ·rintro H4 ⟨hs,s4,hD4,hlen4,hat⟩;rw[rR,hfn]at hlen4;have AH4:dw H4 Dh hs a:=⟨hD4,hlen4,hat⟩
     refine tR _ rfl p C dx (tJ _ rfl (s4 _ _ hp3) T.cl T.n3 (by show 2<1000;decide) ?_);generalize hH6:upd H4 p (.ins C dx (a7 "hours" (.ref Dh) (a7 "fillings" (.ref pf) (a7 "cases" (.int ((10^a.m:Nat):Int)) []))))=H6;have b6':But p H4 H6:=by rw[←hH6];exact But.set
     have b6:But p H H6:=(b3.same s4).trans b6';have hp6:H6 p=some (.ins C dx (a7 "hours" (.ref Dh) (a7 "fillings" (.ref pf) (a7 "cases" (.int ((10^a.m:Nat):Int)) [])))):=by rw[←hH6];exact ac
     have LF6:=(LF3.same s4).but b6' (s4 _ _ hp3);have AH6:=AH4.but b6' (s4 _ _ hp3);have lk:∀(g:Str),(a7 "hours" (V.ref Dh) (a7 "fillings" (V.ref pf) (a7 "cases" (V.int ((10^a.m:Nat):Int)) []))).lookup g=if g="hours" then some (V.ref Dh) else if g="fillings" then some (V.ref pf) else if g="cases" then some (V.int ((10^a.m:Nat):Int)) else none:=by
      intro g;rw[bj,bj,bj];rfl
     refine tV _ rfl p C dx _ (tJ _ rfl hp6 T.cl T.n2 (by rw[lk,if_neg (by decide),if_pos rfl]) (tV _ rfl p C dx _ (tJ _ rfl hp6 T.cl T.n3 (by rw[lk,if_pos rfl]) (uA pf Dh fs hs a (tN rfl LF6 AH6 hv hvol hm4 (λH7 pm ms s7 LM=>?_))))));refine tV _ rfl p C dx _ (tJ _ rfl (s7 _ _ hp6) T.cl T.n1 (by rw[lk,if_neg (by decide),if_neg (by decide),if_pos rfl]) (tI pm ms a rfl LM hvol (λH8 pb bs s8 LB=>?_)));obtain⟨d,Z,Fd,Sl⟩:=sol_of hv hvol hm4;refine tY pb bs (Lr.Ap a) (Lr.vol a.rooms-1) (tG d Z rfl LB (by omega) Sl (λH9 pz s9 hz=>?_));have s69:=(s7.trans s8).trans s9;refine tR _ rfl p C dx (tJ _ rfl (s69 _ _ hp6) T.cl T.n4 (by show 3<1000;decide) ?_);have bf:But p H9 (upd H9 p (.ins C dx (runF (.int ((10^a.m:Nat):Int)) (.ref pf) (.ref Dh) (.ref pz)))):=But.set;refine k _ ⟨dx,pf,Dh,pz,fs,hs,d,Z,ac,(LF6.same s69).but bf (s69 _ _ hp6),(AH6.same s69).but bf (s69 _ _ hp6),?_,Fd⟩ ((b6.same s69).trans But.set);exact bf.of (s69 _ _ hp6) hz rfl
end
end My
end
section
namespace My
open PySem PySem.Spec PyProof.Rows L2
open PySem.W (CodeHd tabObj kla_fn kla_obj envX fnX fnMade)
abbrev cO(o:Obj):HO:=.frz o (.ext λ_=>True)
theorem jh{P:Program}{w:World}{H:Hp}{h:Heap}{a:Addr}{o:Obj}(e:h.get? a=some o):bI P w H h a (cO o):=ud e trivial ⟨o,e⟩ (λ_ _ _ _=>trivial)
theorem cG{P:Program}{w:World}{H:Hp}{h:Heap}{a:Addr}{o:Obj}(ok:HOk P w H h)(e:H a=some (cO o)):h.get? a=some o:=(ok a _ e).1
def hid(H:Hp)(cs:List Addr):Hp:=λb=>if b∈cs then none else H b
theorem fK{H:Hp}{cs:List Addr}{b:Addr}(h:b∈cs):hid H cs b=none:=if_pos h
theorem aV{H:Hp}{cs:List Addr}{b:Addr}(h:b∉cs):hid H cs b=H b:=if_neg h
theorem dl{H:Hp}{cs:List Addr}{b:Addr}{o:HO}(h:hid H cs b=some o):b∉cs∧H b=some o:=by
 unfold hid at h;by_cases e:b∈cs
 ·rw[if_pos e]at h;cases h
 ·rw[if_neg e]at h;exact⟨e,h⟩
theorem fk{H:Hp}{cs:List Addr}{b:Addr}(h:H b=none):hid H cs b=none:=by
 unfold hid;split
 ·rfl
 ·exact h
structure fw(H:Hp)(f:Addr)(fd:FuncData)(cl:List (Str×Addr))(fv:List Str)(fvs:List V):Prop where
 fn:∃o,H f=some (cO o)∧o.data=.func fd
 code:∃(c':Addr) (oc:Obj) (vs:Array Value) (t:Tok),fd.code=.ref c'∧H c'=some (cO oc)∧oc.data=.fields vs∧vs[1]?=some (.str fd.qualname t)
 cells:∀(i:Nat) (x:Str),fv[i]?=some x→∃(c:Addr) (o:Obj) (u:Value) (v:V),cl.lookup x=some c∧H c=some (cO o)∧o.data=.cell (some u)∧fvs[i]?=some v∧bg v u
 own:∀x c,cl.lookup x=some c→x∈fv
 inj:∀x y c,cl.lookup x=some c→cl.lookup y=some c→x=y
 len:fvs.length=fv.length
def bi(cl:List (Str×Addr)):List Addr:=cl.map (·.2)
def lR(cl:List (Str×Addr)):Prop:=∀p∈cl,cl.lookup p.1=some p.2
theorem pY{cl:List (Str×Addr)}{x:Str}{c:Addr}(h:cl.lookup x=some c):c∈bi cl:=sv.mpr (tF (x,c) (PySem.mem_of_lookup h) rfl)
structure iN(N ps fv:List Str)(sc:Scope):Prop where
 kind:sc.kind=.function
 co:sc.isCoroutine=false
 gen:sc.isGenerator=false
 nd:N.Nodup
 eq:N=ps++fv
 par:∀x∈ps,sc.names.lookup x=some .local
 nocell:∀y∈sc.names,y.2≠.cell
 fre:∀y∈sc.names,y.2=.free→y.1∈fv
 frl:∀x∈fv,sc.names.lookup x=some .free
def lC(P:Program)(w:World)(K:fG)(mg:Str→Option Value)(base:Heap)(N:List Str)(qual:Str)(scope:Scope)(f:Addr)(cd:Value)(cl:List (Str×Addr))(A:Around)(outer:List Env)(s:Shared)(H:Hp):Cx where
 prog:=P
 w:=w
 K:=K
 mg:=mg
 base:=base
 A:=A.deeper (envX qual scope s.heap.objs.size f cd cl)
 N:=N
 s_0:=s
 H_0:=H
 env:=envX qual scope s.heap.objs.size f cd cl
 outer:=outer
 stack:=envX qual scope s.heap.objs.size f cd cl::outer
 ex:=[]
 calm:=true
 fn:=λ_=>false
 pn:=[]
 xe:=λ_ _=>False
theorem kR{x:Str}{v:Value}:∀{ps:List Str} {us:List Value} {i:Nat},ps.Nodup→ps[i]?=some x→us[i]?=some v→(ps.zip us).reverse.lookup x=some v
 |[],_,_,_,h,_=>by simp at h
 |_::_,[],_,_,_,h=>by simp at h
 |p::ps,u::us,0,nd,h1,h2=>by
  simp at h1 h2;subst h1 h2;have hn:(ps.zip us).reverse.lookup p=none:=by
   rw[List.lookup_eq_none_iff];intro q hq;have hq:=List.mem_reverse.mp hq;have:=(List.of_mem_zip (show(q.1,q.2)∈ps.zip us from hq)).1;have hne:p≠q.1:=λz=>(rV.mp nd).1 (z ▸ this);simpa using hne
  rw[List.zip_cons_cons,List.reverse_cons,List.lookup_append,hn];simp
 |p::ps,u::us,i+1,nd,h1,h2=>by
  have ih:=kR (x:=x) (v:=v) (ps:=ps) (us:=us) (i:=i) (rV.mp nd).2 (by simpa using h1) (by simpa using h2);rw[List.zip_cons_cons,List.reverse_cons,List.lookup_append,ih];rfl
section
variable {P:Program} {w:World} {K:fG} {mg:Str→Option Value} {base:Heap}
theorem hid_ok{H:Hp}{h:Heap}{cs:List Addr}(ok:HOk P w H h)(hc:∀c∈cs,∃o,H c=some (cO o)):HOk P w (hid H cs) h:=λa o e=>by
 obtain⟨_,e⟩:=dl e;have nc:∀b u,H b=some u→(∀o',u≠cO o')→b∉cs:=λb u hb hu z=>by
  obtain⟨o',q⟩:=hc b z;rw[hb]at q;exact hu o' (Option.some.inj q)
 exact(ok a o e).stay (λ_ _ _ q=>q) (λb q=>by rw[aV (nc b _ q λ_ z=>nomatch z)];exact q) λb xs q=>by rw[aV (nc b _ q λ_ z=>nomatch z)];exact q
theorem mS{N ps fv:List Str}{qual:Str}{scope:Scope}{f:Addr}{fd:FuncData}{cl:List (Str×Addr)}{A:Around}{outer:List Env}{s:Shared}{H:Hp}{us:List Value}{vs fvs:List V}{h1:Heap}{tk:Tok}(S:iN N ps fv scope)(hd:A.handled=none)(e0:Env0 P w K mg base A outer s H)(hl:vs.length=ps.length)(r:aW vs us)(C:fw H f fd cl fv fvs)(hcl:lR cl)(hns:h1.Ns s.heap.objs.size (λx=>(ps.zip us).reverse.lookup x))(hk:∀b o,s.heap.get? b=some o→h1.get? b=some o):Inv (lC P w K mg base N qual scope f fd.code cl A outer s (hid H (bi cl))) [] ((vs++fvs).map some) (hid H (bi cl)) {s with heap:=h1,toks:=tk}:=by
 have hcs:∀c∈bi cl,∃o,H c=some (cO o):=λc hc=>by
  obtain⟨p,hp,rfl⟩:=sv.mp hc;have hlk:=hcl p hp;obtain⟨i,hi⟩:=sM (C.own _ _ hlk);obtain⟨c',o,u,v,h1,h2,_⟩:=C.cells i _ hi;rw[hlk]at h1;cases h1;exact⟨o,h2⟩
 have noA:∀b:Addr,b∉(lC P w K mg base N qual scope f fd.code cl A outer s (hid H (bi cl))).ex:=λb z=>absurd (show b∈([]:List Addr) from z) (by simp);have isc:∀(i:Nat) (x:Str),fv[i]?=some x→∃(c:Addr) (u:Value) (v:V),cl.lookup x=some c∧s.heap.IsCell c (some u)∧fvs[i]?=some v∧bg v u:=λi x hx=>by
  obtain⟨c,o,u,v,g1,g2,g3,g4,g5⟩:=C.cells i x hx;exact tI c u v g1 (tF o (cG e0.hok g2) g3) g4 g5
 have keepC:∀{c:Addr} {v:Option Value},s.heap.IsCell c v→h1.IsCell c v:=λ⟨o,ho,hd⟩=>tF o (hk _ _ ho) hd
 refine⟨⟨e0.mod,S.kind,rfl,rfl,rL _,C.inj,λx hx=>?_,λx c z _=>sC (show false=true from z),λ_=>hd,Around.frames_deeper e0.frames,.inr ⟨rfl,rfl⟩,λb z=>absurd z (noA b),λb o e=>⟨(e0.bs b o e).1,fk (e0.bs b o e).2⟩,e0.bsz,λb _ _=>noA b,λb z=>absurd z (noA b),e0.funs,λb hb=>fk (e0.frf b hb)⟩,
  rfl,e0.bare,Un.kept hk,(tF _ hns (λi x v g1 g2 g3=>?_)),λx c e=>?_,fk (e0.hok.fresh (rL _)),λx c e=>fK (pY e),λp hp=>absurd (show p∈([]:List (Addr×Obj)) from hp) (by simp),(hid_ok e0.hok hcs).kept hk,?_⟩
 ·have hx:scope.names.lookup x=some .cell∨scope.names.lookup x=some .free:=hx;rcases hx with hx|hx
  ·exact absurd rfl (S.nocell _ (PySem.mem_of_lookup hx))
  ·obtain⟨i,hi⟩:=sM (S.fre _ (PySem.mem_of_lookup hx) rfl);obtain⟨c,u,v,h1,_⟩:=isc i x hi;exact⟨c,h1⟩
 ·have g1:N[i]?=some x:=g1;rw[S.eq]at g1;have ndP:ps.Nodup:=by
   have:=S.nd;rw[S.eq]at this;exact(List.nodup_append.mp this).1
  rw[r6]at g2;by_cases hi:i<ps.length
  ·rw[rZ hi]at g1;rw[rZ (by omega)]at g2;cases ev:vs[i]? with
   |none=>rw[ev]at g2;cases g2
   |some v' =>
    rw[ev]at g2;simp at g2;subst g2;obtain⟨u,hu,rv⟩:=r.get ev;exact tF u rv (.inl ⟨S.par x (r8 g1),kR ndP g1 hu⟩)
  ·rw[rY (by omega)]at g1;rw[rY (by omega),hl]at g2;obtain⟨c,u,v',q1,q2,q3,q4⟩:=isc _ x g1;rw[q3]at g2;simp at g2;subst g2;exact tF u q4 (.inr (tX (.inr (S.frl x (r8 g1))) c q1 (keepC q2)))
 ·obtain⟨i,hi⟩:=sM (C.own _ _ e);obtain⟨c',u,v,q1,q2,_⟩:=isc i x hi;have e:cl.lookup x=some c:=e;rw[e]at q1;cases q1;exact⟨_,keepC q2⟩
 ·show((vs++fvs).map some).length=N.length;rw[rR,r9,S.eq,r9,hl,C.len]
theorem clo_end{N:List Str}{qual:Str}{scope:Scope}{f:Addr}{cd:Value}{cl:List (Str×Addr)}{A:Around}{outer:List Env}{s s':Shared}{H:Hp}{σ:L2.St}{Q:VK}{v:V}{u:Value}(e0:Env0 P w K mg base A outer s H)(hcs:∀c∈bi cl,∃o,H c=some (cO o))(J:Inv (lC P w K mg base N qual scope f cd cl A outer s (hid H (bi cl))) [] σ (hid H (bi cl)) s')(rv:bg v u)(q:Q v H):CE outer P w H s Q u s':=by
 have nfr:∀b o,H b=some o→b∉frs outer:=λb o e z=>by rw[e0.frf b z]at e;cases e
 have nx:∀b:Addr,b∉([]:List Addr):=λb z=>by simp at z
 have JB:Un (frs outer) [] (hid H (bi cl)) (hid H (bi cl)) s.heap s'.heap:=J.base;have JK:HOk P w (hid H (bi cl)) s'.heap:=J.hok;refine⟨v,tJ H J.os J.bare ⟨λb o e n h1 h2=>JB.keep b o e (fk n) h1 h2,λb o e n h1 h2=>JB.slot b o e (fk n) h1 h2,λb o e n _=>n,λb o e h=>JB.there b o e h,λ_ _ e=>e,λ_ _ _ e=>e,λb ps e=>⟨#[],by rw[e];simp⟩⟩ (λa o e=>?_) rv q⟩;by_cases ha:a∈bi cl
 ·obtain⟨o',e'⟩:=hcs a ha;rw[e]at e';cases e';exact jh (JB.keep a o' (cG e0.hok e) (fK ha) (nfr _ _ e) (nx a))
 ·refine(JK a o (by rw[aV ha];exact e)).stay (λ_ _ _ z=>z) (λb z=>(dl z).2) λb xs z=>(dl z).2
theorem fw.frozen{H:Hp}{f:Addr}{fd:FuncData}{cl:List (Str×Addr)}{fv:List Str}{fvs:List V}(C:fw H f fd cl fv fvs)(hcl:lR cl):∀c∈bi cl,∃o,H c=some (cO o):=λc hc=>by
 obtain⟨p,hp,rfl⟩:=sv.mp hc;have hlk:=hcl p hp;obtain⟨i,hi⟩:=sM (C.own _ _ hlk);obtain⟨c',o,u,v,h1,h2,_⟩:=C.cells i _ hi;rw[hlk]at h1;cases h1;exact⟨o,h2⟩
theorem fn_lam{k:Nat}{f:Addr}{fd:FuncData}{body:Expr}{cl:List (Str×Addr)}{N ps fv:List Str}{fvs:List V}{sp:Sp}(hb:fd.body=.expr body)(hg:fd.globals=mainGlobals)(hbn:fd.builtins=builtinsNs)(hc:fd.closure=cl)(hcl:lR cl)(S:iN N ps fv fd.scope)(len:∀vs H Q E,sp vs H Q E→vs.length=ps.length)(hbody:∀(A:Around) (outer:List Env) (s:Shared) (H:Hp) (vs:List V) (Q:VK) (E:XK),bP k (A.deeper (envX fd.qualname fd.scope s.heap.objs.size f fd.code cl))→sp vs H Q E →
   fw H f fd cl fv fvs∧∃t,PE (lC P w K mg base N fd.qualname fd.scope f fd.code cl A outer s (hid H (bi cl))) body t∧t ((vs++fvs).map some) (hid H (bi cl)) (λv H'=>H'=hid H (bi cl)∧Q v H)):aZ P w K mg base CX0 (k+1) f fd ps sp:=by
 refine⟨len,λA outer s H args us vs Q E hr e0 hbd r hsp=>?_⟩;have hl:=len _ _ _ _ hsp;obtain⟨C,t,ht,hq⟩:=hbody A outer s H vs Q E (hr.deeper _) hsp;have lim:s.heap.NoLimit:=e0.mod.nolimit.keeps λb o e=>(e0.bs b o e).1;obtain⟨o,ho,hod⟩:=C.fn;obtain⟨c',oc,cvs,ct,e1,e2,e3,e4⟩:=C.code;have hrec:s.heap.CodeRec fd.code fd.qualname:=⟨c',tI oc cvs ct e1 (cG e0.hok e2) e3 e4⟩
 refine PySem.W.kla_callFunE hr.depth (cG e0.hok ho) hod S.co S.gen hb hrec (hbd _ _ _ _ ?_);rw[hg,hbn,hc];refine wpAny_newFunctionEnv (λy hy=>S.nocell y hy) (λy hy=>S.par _ (List.of_mem_zip (show(y.1,y.2)∈ps.zip us from hy)).1) (λh1 hns hsb=>⟨lim.fresh _ hsb,?_⟩) S.kind;have hk:∀b o,s.heap.get? b=some o→h1.get? b=some o:=λb o e=>hsb.extBut b o (rm (rg e)) (rJ _ e);show codeAny _ _ (.expr body (envX fd.qualname fd.scope s.heap.objs.size f fd.code cl)) _ _;have I:=mS (qual:=fd.qualname) (tk:=s.toks+(ps.zip us).length) S hr.hd e0 hl r C hcl hns hk;refine PySem.W.kla_codeExpr (wpAny_mono (ht [] _ _ _ _ I hq) (λu s' hs=>?_) λe s' hs=>False.elim hs);obtain⟨v,H',J,rv,eH,q⟩:=hs;subst eH;exact clo_end e0 (C.frozen hcl) J rv q
theorem fn_def{k:Nat}{f:Addr}{fd:FuncData}{body:List Stmt}{cl:List (Str×Addr)}{N ps fv:List Str}{fvs:List V}{sp:Sp}(hb:fd.body=.stmts body)(hg:fd.globals=mainGlobals)(hbn:fd.builtins=builtinsNs)(hc:fd.closure=cl)(hcl:lR cl)(S:iN N ps fv fd.scope)(len:∀vs H Q E,sp vs H Q E→vs.length=ps.length)(hbody:∀(A:Around) (outer:List Env) (s:Shared) (H:Hp) (vs:List V) (Q:VK) (E:XK),bP k (A.deeper (envX fd.qualname fd.scope s.heap.objs.size f fd.code cl))→sp vs H Q E →
   fw H f fd cl fv fvs∧∃t,PSs (lC P w K mg base N fd.qualname fd.scope f fd.code cl A outer s (hid H (bi cl))) body t∧t {nx:=λ_ _=>False,rt:=λv H'=>H'=hid H (bi cl)∧Q v H} ((vs++fvs).map some) (hid H (bi cl))):aZ P w K mg base CX0 (k+1) f fd ps sp:=by
 refine⟨len,λA outer s H args us vs Q E hr e0 hbd r hsp=>?_⟩;have hl:=len _ _ _ _ hsp;obtain⟨C,t,ht,hq⟩:=hbody A outer s H vs Q E (hr.deeper _) hsp;have lim:s.heap.NoLimit:=e0.mod.nolimit.keeps λb o e=>(e0.bs b o e).1;obtain⟨o,ho,hod⟩:=C.fn;obtain⟨c',oc,cvs,ct,e1,e2,e3,e4⟩:=C.code;have hrec:s.heap.CodeRec fd.code fd.qualname:=⟨c',tI oc cvs ct e1 (cG e0.hok e2) e3 e4⟩
 refine codeAny_call_function hr.depth (cG e0.hok ho) hod S.co S.gen hb hrec (hbd _ _ _ _ ?_);rw[hg,hbn,hc];refine wpAny_newFunctionEnv (λy hy=>S.nocell y hy) (λy hy=>S.par _ (List.of_mem_zip (show(y.1,y.2)∈ps.zip us from hy)).1) (λh1 hns hsb=>⟨lim.fresh _ hsb,?_⟩) S.kind;have hk:∀b o,s.heap.get? b=some o→h1.get? b=some o:=λb o e=>hsb.extBut b o (rm (rg e)) (rJ _ e);show codeAny _ _ (.func body (envX fd.qualname fd.scope s.heap.objs.size f fd.code cl)) _ _;have I:=mS (qual:=fd.qualname) (tk:=s.toks+(ps.zip us).length) S hr.hd e0 hl r C hcl hns hk;refine codeAny_func (wpAny_mono (ht [] _ _ _ _ I hq) (λfl s' hs=>?_) λe s' hs=>False.elim hs);cases fl with
 |ret u =>
  obtain⟨v,σ',H',J,rv,eH,q⟩:=hs;subst eH;exact clo_end e0 (C.frozen hcl) J rv q
 |next=>obtain⟨_,_,_,q⟩:=hs;exact False.elim q
 |brk=>obtain⟨_,_,_,q⟩:=hs;exact False.elim q
 |cont=>obtain⟨_,_,_,q⟩:=hs;exact False.elim q
end
def FnIn(H:Hp)(f:Addr):Prop:=∃o fd,H f=some (cO o)∧o.data=.func fd
theorem FnIn.at{P:Program}{w:World}{H:Hp}{h:Heap}{f:Addr}(x:FnIn H f)(ok:HOk P w H h):PySem.W.FnAt f h:=by
 obtain⟨⟨oc,od,dt,sl⟩,fd,e,hd⟩:=x;cases hd;exact tY oc od fd sl (cG ok e)
def tCallV(P:Program)(w:World)(K:fG)(mg:Str→Option Value)(base:Heap)(k:Nat)(ps:List Str)(i:Nat)(t:TA):TE:=λσ H Q=>∃f,σ[i]?=some (some (.ref f))∧FnIn H f∧t σ H λvs H1=>FnIn H1 f∧∃fd sp,aZ P w K mg base CX0 k f fd ps sp∧ck K fd ps []∧sp vs H1 Q E0
theorem pF{X:Cx}{k i:Nat}{ps:List Str}{x:Str}{e:Expr}{es:List Expr}{t:TA}{p pos:Pos}(hv:PE X (.Name x p) (dc i))(hr:bP k X.A)(ha:PA X (e::es) t)(he:starEach (e::es) X.env=(false,eval e X.env)::starEach es X.env:=by rfl)(hpl:(backTo pos (starEach es X.env)).any (·.1)=false:=by rfl):PE X (.Call (.Name x p) (e::es) [] pos) (tCallV X.prog X.w X.K X.mg X.base k ps i t):=by
 intro pins s σ H Q I h;obtain⟨f,hf,hF,h⟩:=h;refine wpAny_Call_Name_kw (thn (hv pins s σ H (λv H'=>v=.ref f∧H'=H) I (tK _ hf rfl rfl)) λu s1 ⟨v,H',I1,rv,ev,eH⟩=>?_);subst ev eH;obtain rfl:u=Value.ref f:=rv;refine PySem.W.callWith_F (first:=[]) (hF.at I1.hok) (thn (ha pos pins s1 σ _ _ I1 h) λus s2 ⟨vs,H2,I2,r,hF2,fd,sp,F,hb,q⟩=>⟨hF2.at I2.hok,?_⟩) he hpl;exact nG (dvs:=[]) (ds:=[]) F hr hb .nil az I2 r (by rw[rT];exact q)
def eW(H:Hp)(c':Addr)(q:Str):Prop:=∃(o:Obj) (vs:Array Value) (t:Tok),H c'=some (cO o)∧o.data=.fields vs∧vs[1]?=some (.str q t)
def jm(H:Hp)(P:Addr)(q:Str):Prop:=∃ps:Array Value,H P=some (.tbl ps)∧TriplesOk ps.toList∧∀pos cv,codeAmong pos ps.toList=some cv→∃c',cv=.ref c'∧eW H c' q
def fQ:HO→Bool
 |.tbl _=>true
 |_=>false
def de(H H':Hp):Prop:=∀b o,H b=some o→fQ o=false→H' b=some o
def iO(H H':Hp):Prop:=∀b,H' b=none→H b=none
theorem ao.back{H H':Hp}(e:ao H H'):iO H H':=λ_ h=>e.free h
theorem iO.trans{H H1 H2:Hp}(a:iO H H1)(b:iO H1 H2):iO H H2:=λc h=>a c (b c h)
theorem ao.mild{H H':Hp}(e:ao H H'):de H H':=λb o h _=>e b o h
theorem de.trans{H H1 H2:Hp}(a:de H H1)(b:de H1 H2):de H H2:=λc o h n=>b c o (a c o h n) n
theorem fw.mild{H H':Hp}{f:Addr}{fd:FuncData}{cl:List (Str×Addr)}{fv:List Str}{fvs:List V}(x:fw H f fd cl fv fvs)(e:de H H'):fw H' f fd cl fv fvs :=
 ⟨let ⟨o,h,d⟩:=x.fn;⟨o,e _ _ h rfl,d⟩,let ⟨c,oc,vs,t,h1,h2,r⟩:=x.code;⟨c,oc,vs,t,h1,e _ _ h2 rfl,r⟩,
  λi y hy=>let ⟨c,o,u,v,h1,h2,r⟩:=x.cells i y hy;⟨c,o,u,v,h1,e _ _ h2 rfl,r⟩,x.own,x.inj,x.len⟩
theorem eW.mild{H H':Hp}{c:Addr}{q:Str}(h:eW H c q)(e:de H H'):eW H' c q:=let ⟨o,vs,t,h1,r⟩:=h;⟨o,vs,t,e _ _ h1 rfl,r⟩
theorem eW.same{H H':Hp}{c:Addr}{q:Str}(h:eW H c q)(e:ao H H'):eW H' c q:=let ⟨o,vs,t,h1,r⟩:=h;⟨o,vs,t,e _ _ h1,r⟩
theorem jm.same{H H':Hp}{P:Addr}{q:Str}(h:jm H P q)(e:ao H H'):jm H' P q :=
 let ⟨ps,h1,h2,h3⟩:=h;⟨ps,e _ _ h1,h2,λpos cv x=>let ⟨c,e1,h4⟩:=h3 pos cv x;⟨c,e1,h4.same e⟩⟩
theorem lI{pos2:Pos}{a b:Int}{t u:Tok}{c cv:Value}:∀(l:List Value),TriplesOk l→codeAmong pos2 (l++[.int a t,.int b u,c])=some cv→codeAmong pos2 l=some cv∨cv=c
 |[],_,h=>by
  rw[List.nil_append]at h;unfold codeAmong at h;split at h
  ·exact .inr (Option.some.inj h).symm
  ·unfold codeAmong at h;cases h
 |.int x _::.int y _::d::r,ht,h=>by
  have ht:TriplesOk r:=ht;simp only[List.cons_append]at h;unfold codeAmong at h ⊢;split at h
  ·rename_i hc;rw[if_pos hc];exact .inl h
  ·rename_i hc;rw[if_neg hc];exact lI r ht h
theorem iU{a b:Int}{t u:Tok}{c:Value}:∀(l:List Value),TriplesOk l→TriplesOk (l++[.int a t,.int b u,c])
 |[],_=>trivial
 |.int x _::.int y _::d::r,ht=>by
  have ht:TriplesOk r:=ht;show TriplesOk (r++_);exact iU r ht
def BAt(mg:Str→Option Value)(base:Heap):Prop:=∃bm ob,mg "__builtins__" = some (.ref bm)∧bm≠builtinsNs∧base.get? bm=some ob∧ob.cls=.type "module"∧ob.dict=some builtinsNs∧ob.data=.plain
structure Made(H H':Hp)(T f c':Addr)(q:Str)(o:Obj):Prop where
 keep:∀b u,H b=some u→b≠T→H' b=some u
 fresh:H f=none
 fn:H' f=some (cO o)
 code:eW H' c' q
 tab:jm H' T q
def aQ(tabs:List (Addr×Str))(H:Hp):Prop:=∀t∈tabs,jm H t.1 t.2
def Func(tabs:List (Addr×Str)):Prop:=∀t∈tabs,∀u∈tabs,t.1=u.1→t.2=u.2
theorem aQ.same{tabs:List (Addr×Str)}{H H':Hp}(h:aQ tabs H)(e:ao H H'):aQ tabs H':=λt ht=>(h t ht).same e
theorem aQ.keep{tabs:List (Addr×Str)}{H H':Hp}(h:aQ tabs H)(e:∀b o,H b=some o→(fQ o=true∨∃u,o=cO u)→H' b=some o):aQ tabs H':=λt ht=>by
 obtain⟨ps,h1,h2,h3⟩:=h t ht;refine tK ps (e _ _ h1 (.inl rfl)) h2 (λpos cv x=>?_);obtain⟨c,e1,o,vs,tk,h4,r⟩:=h3 pos cv x;exact tF c e1 (t6 o vs tk (e _ _ h4 (.inr ⟨_,rfl⟩)) r)
theorem Made.mild{H H':Hp}{T f c':Addr}{q:Str}{o:Obj}(M:Made H H' T f c' q o){q':Str}(hT:jm H T q'):de H H':=λb u e n=>M.keep b u e λz=>by
 obtain⟨ps,h,_⟩:=hT;rw[z,h]at e;cases e;cases n
theorem aQ.made{tabs:List (Addr×Str)}{H H':Hp}{T f c':Addr}{q:Str}{o:Obj}(h:aQ tabs H)(hf:Func tabs)(hm:(T,q)∈tabs)(M:Made H H' T f c' q o):aQ tabs H':=λt ht=>by
 by_cases e:t.1=T
 ·have:=hf t ht (T,q) hm e;rw[e,this];exact M.tab
 ·obtain⟨ps,h1,h2,h3⟩:=h t ht;refine tK ps (M.keep _ _ h1 e) h2 (λpos cv x=>?_);obtain⟨c,e1,cf⟩:=h3 pos cv x;exact tF c e1 (cf.mild (M.mild (h _ hm)))
structure dy(K:fG)(tabs:List (Addr×Str))(fd:FuncData)(q:Str):Prop where
 ex:∃c T,fd.code=.ref c∧PySem.W.codeHdIn K c T=true∧(T,q)∈tabs
section
variable {X:Cx} {pins:List (Addr×Obj)} {σ:L2.St} {H:Hp} {s:Shared}
theorem bat_of(I:Inv X pins σ H s)(hB:BAt X.mg X.base){T:Addr}{ps:Array Value}(hT:H T=some (.tbl ps)):s.heap.BuiltinsAt X.mg T∧mainGlobals≠T:=by
 obtain⟨bm,ob,h1,h2,h3,h4,h5,h6⟩:=hB;have hg:=I.mod.glob;obtain⟨o,es,ep,e,hd,_⟩:=id hg;refine⟨(tO bm ob h1 (tN h2 (λq=>?_) (λq=>?_) (I.bk _ _ h3) h4 h5 h6)),λq=>?_⟩
 ·rw[q,e]at h3;cases h3;rw[hd]at h6;cases h6
 ·have z:=(I.bs _ _ h3).2;rw[q,hT]at z;cases z
 ·have z:=(I.bs _ _ e).2;rw[q,hT]at z;cases z
theorem pZ{T c':Addr}{ps:Array Value}{q:Str}{l1 l2:Value}{i1 i2:Int}{t1 t2:Tok}{fo:Obj}{h':Heap}{tk:Nat}(hfo:fo.isFreed=false)(I:Inv X pins σ H s)(hT:H T=some (.tbl ps))(ht:TriplesOk ps.toList)(hc:∀pos cv,codeAmong pos ps.toList=some cv→∃c',cv=.ref c'∧eW H c' q)(e1:l1=.int i1 t1)(e2:l2=.int i2 t2)(hx:Heap.ExtBut T s.heap h')(hge:s.heap.objs.size≤c')(hlt:c'<h'.objs.size)(hrec:h'.CodeRec (.ref c') q)(htb:h'.get? T=some (tabObj (ps ++ #[l1,l2,.ref c']))):∃H',Inv X pins σ H' {s with heap:=h'.push fo,toks:=tk}∧Made H H' T h'.objs.size c' q fo:=by
 obtain⟨c2,oc,vs,t,ec,hoc,hd,hv⟩:=hrec;cases ec;have nT:∀b u,H b=some u→fQ u=false→b≠T:=λb u e hn z=>by
  rw[z,hT]at e;cases e;cases hn
 have sz:s.heap.objs.size≤h'.objs.size:=rq hge (Nat.le_of_lt hlt);have fc:∀b u,H b=some u→b≠c':=λb u e=>rm (rh (I.hok.lt e) hge);have ff:∀b u,H b=some u→b≠h'.objs.size:=λb u e=>rm (rh (I.hok.lt e) sz);have hcT:c'≠T:=(fc T _ hT).symm;have hfT:h'.objs.size≠T:=(ff T _ hT).symm;have hfc:h'.objs.size≠c':=rH hlt;have kp:∀b o,b≠T→s.heap.get? b=some o→(h'.push fo).get? b=some o:=λb o hb e=>rJ _ (hx b o hb e);generalize hH':upd (upd (upd H T (.tbl (ps ++ #[l1,l2,.ref c']))) c' (cO oc)) h'.objs.size (cO fo)=H';have g1:H' h'.objs.size=some (cO fo):=by rw[←hH'];exact ac
 have g2:H' c'=some (cO oc):=by rw[←hH',af hfc.symm];exact ac
 have g3:H' T=some (.tbl (ps ++ #[l1,l2,.ref c'])):=by rw[←hH',af hfT.symm,af hcT.symm];exact ac
 have g4:∀b,b≠T→b≠c'→b≠h'.objs.size→H' b=H b:=λb z1 z2 z3=>by rw[←hH',af z3,af z2,af z1]
 have g5:∀b u,H b=some u→b≠T→H' b=some u:=λb u e hb=>by rw[g4 b hb (fc b u e) (ff b u e)];exact e
 have old:∀b o,s.heap.get? b=some o→b≠c'∧b≠h'.objs.size:=λb o e=>⟨rm (rh (rg e) hge),rm (rh (rg e) sz)⟩
 have nN:∀b,H b=none→b≠T:=λb e z=>by rw[z,hT]at e;cases e
 have hun:Un X.fs [] H H' s.heap (h'.push fo):=by
  refine⟨λb o e n _ _=>kp b o (nN b n) e,λb o e n _ _=>⟨o.slots,kp b o (nN b n) e⟩,λb o e n _=>by rw[g4 b (nN b n) (old b o e).1 (old b o e).2];exact n,λb o e _=>?_,λb xs e=>g5 b _ e (nT b _ e rfl),λb o u e=>g5 b _ e (nT b _ e rfl),λb qs e=>?_⟩
  ·by_cases hb:b=T
   ·subst hb;exact⟨_,rJ _ htb⟩
   ·exact⟨o,kp b o hb e⟩
  ·by_cases hb:b=T
   ·subst hb;rw[hT]at e;cases e;exact⟨_,g3⟩
   ·exact⟨#[],by rw[g5 b _ e hb];simp⟩
 have hok:HOk X.prog X.w H' (h'.push fo):=λa o e=>by
  by_cases z1:a=h'.objs.size
  ·subst z1;rw[g1]at e;cases e;exact jh (rK _ hfo)
  ·by_cases z2:a=c'
   ·subst z2;rw[g2]at e;cases e;exact jh (rJ _ hoc)
   ·by_cases z3:a=T
    ·subst z3;rw[g3]at e;cases e;show(h'.push fo).get? a=some _;exact rJ _ htb
    ·rw[g4 a z3 z2 z1]at e;refine(I.hok a o e).stay (λb u hb q=>kp b u ?_ q) (λb q=>g5 b _ q (nT b _ q rfl)) λb xs q=>g5 b _ q (nT b _ q rfl);rcases hb with hb|hb
     ·rw[hb];exact z3
     ·exact nT b _ hb rfl
 have cf:eW H' c' q:=tM oc vs t g2 hd hv
 refine tF H' (I.un (t':=tk) hun hok) ⟨g5,I.hok.fresh sz,g1,cf,_,g3,?_,λpos cv x=>?_⟩
 ·rw[Array.toList_append,e1,e2];exact iU _ ht
 ·rw[Array.toList_append,e1,e2]at x;rcases lI _ ht x with x|x
  ·obtain⟨c2,h1,o2,vs2,t2,h2,r⟩:=hc pos cv x;exact tF c2 h1 (t6 o2 vs2 t2 (g5 _ _ h2 (nT _ _ h2 rfl)) r)
  ·exact tF c' x cf
theorem p4{T c':Addr}{q:Str}{fo:Obj}{h':Heap}{tk:Nat}(hfo:fo.isFreed=false)(I:Inv X pins σ H s)(hT:jm H T q)(hc:eW H c' q)(hk:∀b o,s.heap.get? b=some o→h'.get? b=some o)(sz:s.heap.objs.size≤h'.objs.size):∃H',Inv X pins σ H' {s with heap:=h'.push fo,toks:=tk}∧Made H H' T h'.objs.size c' q fo:=by
 have hn:H h'.objs.size=none:=I.hok.fresh sz;have e:ao H (upd H h'.objs.size (cO fo)):=λb u e=>by rw[af (ai e hn)];exact e
 refine tF _ (I.laid (o:=cO fo) (t':=tk) (λb u q=>rJ _ (hk b u q)) sz (jh (rK _ hfo))) ⟨λb u z _=>e _ _ z,hn,ac,hc.same e,hT.same e⟩
end
def tLam(T:Addr)(q:Str)(params:Arguments)(body:Expr)(scope:Scope)(cells:List (Str×Addr))(pm:Value):TE:=λσ H Q=>jm H T q ∧
 ∀(f c':Addr) (ctv:Value) (H':Hp),Made H H' T f c' q (kla_obj "<lambda>" q params body scope (aX cells scope.names []) pm c' ctv)→Q (.ref f) H'
theorem iz{X:Cx}{c T:Addr}{params:Arguments}{body:Expr}{scope:Scope}{pos:Pos}{q:Str}(hB:BAt X.mg X.base)(hc:X.env.code=.ref c)(hT:PySem.W.codeHdIn X.K c T=true)(hq:X.env.qual++"<lambda>" = q)(hfr:∀y∈scope.names,y.2=.free→X.env.scope.names.lookup y.1=some .cell∨X.env.scope.names.lookup y.1=some .free)(hdef:defaultsOf params X.env=([],[]):=by rfl):PE X (.Lambda params body scope pos) (tLam T q params body scope X.env.cells ((X.mg "__name__").getD .none)):=by
 intro pins s σ H Q I h;obtain⟨tab,h⟩:=h;obtain⟨ps,hTb,ht,hcs⟩:=id tab;obtain⟨hb,hgT⟩:=bat_of I hB hTb;have hcl:closureFor scope X.env=pure (aX X.env.cells scope.names []):=iJ λy hy e=>I.ok.has _ (hfr y hy e);have CH:CodeHd s.heap c T:=PySem.W.codeHd_of_K I.kIn hT;have hP:s.heap.get? T=some (tabObj ps):=I.hok T _ hTb;have hns:=I.mod.glob.keeps I.bk;refine PySem.W.kla_eval hdef ?_;rw[hq];cases hf:codeAmong pos ps.toList with
 |none =>
  refine PySem.W.kla_makeFunction (mg:=X.mg) hcl I.ok.glob hns hc CH hP ht hf hgT hb λc' ctv h' tk hx hge hlt hrec htb=>?_;obtain⟨H',I',M⟩:=pZ (tk:=tk) (fo:=kla_obj "<lambda>" q params body scope (aX X.env.cells scope.names []) ((X.mg "__name__").getD .none) c' ctv) rfl I hTb ht hcs rfl rfl hx hge hlt hrec htb;exact tH (.ref h'.objs.size) H' I' rfl (h _ c' ctv H' M)
 |some cv =>
  obtain⟨c',rfl,cf⟩:=hcs pos cv hf;refine PySem.W.kla_makeFunctionHit (mg:=X.mg) hcl I.ok.glob hns hc CH hP ht hf hb λctv h' tk hk hsz=>?_;obtain⟨H',I',M⟩:=p4 (tk:=tk) (fo:=kla_obj "<lambda>" q params body scope (aX X.env.cells scope.names []) ((X.mg "__name__").getD .none) c' ctv) rfl I tab cf hk hsz;exact tH (.ref h'.objs.size) H' I' rfl (h _ c' ctv H' M)
def sDef(T:Addr)(i:Nat)(name q:Str)(params:Arguments)(body:List Stmt)(scope:Scope)(cells:List (Str×Addr))(pm:Value):TS:=λD σ H=>jm H T q ∧
 ∀(f c':Addr) (ctv doc:Value) (H':Hp),Made H H' T f c' q (fnMade name q params body scope (aX cells scope.names []) doc pm c' ctv)→D.nx (σ.set i (some (.ref f))) H'
theorem ps_def{X:Cx}{i:Nat}{c T:Addr}{name:Str}{params:Arguments}{body:List Stmt}{scope:Scope}{pos:Pos}{q:Str}(nd:X.N.Nodup)(hi:X.N[i]?=some name)(hk:X.env.scope.names.lookup name=some .local)(hB:BAt X.mg X.base)(hc:X.env.code=.ref c)(hT:PySem.W.codeHdIn X.K c T=true)(hq:qualnameIn X.env name name=q)(hfr:∀y∈scope.names,y.2=.free→X.env.scope.names.lookup y.1=some .cell∨X.env.scope.names.lookup y.1=some .free)(hd0:params.defaults=[]:=by rfl)(hk0:params.kw_defaults=[]:=by rfl)(ha:annTrees params none X.env=[]:=by rfl):PS X (.FunctionDef name params body [] none [] scope none name pos) (sDef T i name q params body scope X.env.cells ((X.mg "__name__").getD .none)):=by
 intro pins s σ H D I h;obtain⟨tab,h⟩:=h;obtain⟨ps,hTb,ht,hcs⟩:=id tab;obtain⟨hb,hgT⟩:=bat_of I hB hTb;have hcl:closureFor scope X.env=pure (aX X.env.cells scope.names []):=iJ λy hy e=>I.ok.has _ (hfr y hy e);have CH:CodeHd s.heap c T:=PySem.W.codeHd_of_K I.kIn hT;have hP:s.heap.get? T=some (tabObj ps):=I.hok T _ hTb;have hns:=I.mod.glob.keeps I.bk;refine PySem.W.nestDef_K hd0 hk0 ha ?_;rw[hq];cases hf:codeAmong pos ps.toList with
 |none =>
  refine PySem.W.makeFunction_K (mg:=X.mg) hcl I.ok.glob hns hc CH hP ht hf hgT hb λc' ctv doc h' tk hx hge hlt hrec htb=>?_;obtain⟨H',I',M⟩:=pZ (tk:=tk) (fo:=fnMade name q params body scope (aX X.env.cells scope.names []) doc ((X.mg "__name__").getD .none) c' ctv) rfl I hTb ht hcs rfl rfl hx hge hlt hrec htb;exact iX I' nd hi (.inl hk) (v:=.ref h'.objs.size) rfl (λs' I2=>tO _ H' I2 (h _ c' ctv doc H' M)) (.inr hk)
 |some cv =>
  obtain⟨c',rfl,cf⟩:=hcs pos cv hf;refine PySem.W.makeFunction_hit (mg:=X.mg) hcl I.ok.glob hns hc CH hP ht hf hb λctv doc h' tk hk hsz=>?_;obtain⟨H',I',M⟩:=p4 (tk:=tk) (fo:=fnMade name q params body scope (aX X.env.cells scope.names []) doc ((X.mg "__name__").getD .none) c' ctv) rfl I tab cf hk hsz;exact iX I' nd hi (.inl ‹_›) (v:=.ref h'.objs.size) rfl (λs' I2=>tO _ H' I2 (h _ c' ctv doc H' M)) (.inr ‹_›)
structure eU(cells:List (Str×Addr))(cap:List (Str×Nat))(σ:L2.St)(H2 H3:Hp):Prop where
 same:ao H2 H3
 inj:∀x y c,cells.lookup x=some c→cells.lookup y=some c→x=y
 at_:∀p∈cap,∀v,σ[p.2]?=some (some v)→∃(c:Addr) (o:Obj) (u:Value),cells.lookup p.1=some c∧H2 c=none∧H3 c=some (cO o)∧o.data=.cell (some u)∧bg v u
def cT(cells:List (Str×Addr))(cap:List (Str×Nat)):List Addr:=cap.filterMap λp=>cells.lookup p.1
theorem hid_nil(H:Hp):hid H []=H:=by
 funext b;exact aV (by simp)
theorem fM{cells:List (Str×Addr)}{cap:List (Str×Nat)}{σ:L2.St}{H1 H3:Hp}{f c':Addr}{q:Str}{o:Obj}{fd:FuncData}{scope:Scope}{N ps:List Str}{vs:List V}(S:iN N ps (cap.map (·.1)) scope)(hfn:H1 f=some (cO o))(hcf:eW H1 c' q)(hd:o.data=.func fd)(hq:fd.qualname=q)(hcode:fd.code=.ref c')(Sh:eU cells cap σ H1 H3)(hvs:∀(i:Nat) (p:Str×Nat),cap[i]?=some p→∃v,vs[i]?=some v∧σ[p.2]?=some (some v))(hl:vs.length=cap.length):fw H3 f fd (aX cells scope.names []) (cap.map (·.1)) vs∧lR (aX cells scope.names [])∧∀c∈bi (aX cells scope.names []),H1 c=none:=by
 have find:∀x∈cap.map (·.1),∃(i:Nat) (p:Str×Nat) (v:V) (c:Addr) (oc:Obj) (u:Value),cap[i]?=some p∧p.1=x∧vs[i]?=some v∧cells.lookup x=some c∧H3 c=some (cO oc)∧oc.data=.cell (some u)∧bg v u:=λx hx=>by
  obtain⟨p,hp,rfl⟩:=sv.mp hx;obtain⟨i,hi⟩:=sM hp;obtain⟨v,h1,h2⟩:=hvs i p hi;obtain⟨c,oc,u,g1,_,g3,g4,g5⟩:=Sh.at_ p hp v h2;exact tZ i p v c oc u (tN hi rfl h1 g1 g3 g4 g5)
 have memF:∀x c,(x,c)∈aX cells scope.names []→x∈cap.map (·.1)∧cells.lookup x=some c:=λx c h=>by
  rcases dU h with h|⟨h1,h2⟩
  ·cases h
  ·have hx:=S.fre _ h1 rfl;obtain⟨_,_,_,c0,_,_,_,_,_,g,_⟩:=find x hx;rw[g]at h2;exact⟨hx,by rw[g,h2];rfl⟩
 have look:∀x∈cap.map (·.1),∀c,cells.lookup x=some c→(aX cells scope.names []).lookup x=some c:=λx hx c hc=>by
  have h1:=eS (cells:=cells) (acc:=[]) (PySem.mem_of_lookup (S.frl x hx));obtain⟨c2,h2⟩:=fF h1;have h3:=(memF x c2 (PySem.mem_of_lookup h2)).2;rw[hc]at h3;cases h3;exact h2
 refine tS ⟨(tF o (Sh.same _ _ hfn) hd),?_,λi x hi=>?_,λx c h=>(memF x c (PySem.mem_of_lookup h)).1,λx y c h1 h2=>Sh.inj x y c (memF x c (PySem.mem_of_lookup h1)).2 (memF y c (PySem.mem_of_lookup h2)).2,by rw[hl,rR]⟩ (λp hp=>?_) (λc hc=>?_)
 ·obtain⟨oc,cvs,t,h1,h2,h3⟩:=hcf;exact⟨c',tI oc cvs t hcode (Sh.same _ _ h1) h2 (by rw[hq];exact h3)⟩
 ·rw[r6]at hi;cases e:cap[i]? with
  |none=>rw[e]at hi;cases hi
  |some p =>
   rw[e]at hi;have hi:p.1=x:=Option.some.inj hi;subst hi;obtain⟨v,h1,h2⟩:=hvs i p e;obtain⟨c,oc,u,g1,_,g3,g4,g5⟩:=Sh.at_ p (r8 e) v h2;exact tU c oc (tG u v (look p.1 (sv.mpr (tF p (r8 e) rfl)) c g1) g3 g4 h1 g5)
 ·obtain⟨h1,h2⟩:=memF p.1 p.2 hp;exact look p.1 h1 p.2 h2
 ·obtain⟨p,hp,rfl⟩:=sv.mp hc;obtain⟨h1,h2⟩:=memF p.1 p.2 hp;obtain⟨pc,hpc,epc⟩:=sv.mp h1;obtain⟨i,hi⟩:=sM hpc;obtain⟨v,_,h4⟩:=hvs i pc hi;obtain⟨c,oc,u,g1,g2,_⟩:=Sh.at_ pc hpc v h4;have epc:pc.1=p.1:=epc;rw[epc,h2]at g1;cases g1;exact g2
theorem eU.none{cells:List (Str×Addr)}{cap:List (Str×Nat)}{σ:L2.St}{H2 H3:Hp}(Sh:eU cells cap σ H2 H3)(hσ:∀p∈cap,∃v,σ[p.2]?=some (some v)):∀c∈cT cells cap,H2 c=none∧∃o,H3 c=some (cO o)∧∃v,o.data=.cell v:=λc hc=>by
 obtain⟨p,hp,e⟩:=rM.mp hc;obtain⟨v,hv⟩:=hσ p hp;obtain⟨c',o,u,g1,g2,g3,g4,_⟩:=Sh.at_ p hp v hv;rw[e]at g1;cases g1;exact uj g2 o (uj g3 _ g4)
theorem eU.back{cells:List (Str×Addr)}{cap:List (Str×Nat)}{σ:L2.St}{H2 H3 H4:Hp}(Sh:eU cells cap σ H2 H3)(hσ:∀p∈cap,∃v,σ[p.2]?=some (some v))(e:ao H3 H4):ao H2 (hid H4 (cT cells cap)):=λb o h=>by
 rw[aV λz=>by rw[(Sh.none hσ b z).1]at h;cases h];exact e _ _ (Sh.same _ _ h)
theorem eU.backB{cells:List (Str×Addr)}{cap:List (Str×Nat)}{σ:L2.St}{H2 H3 H4:Hp}(Sh:eU cells cap σ H2 H3)(hσ:∀p∈cap,∃v,σ[p.2]?=some (some v))(e:iO H3 H4):iO H2 (hid H4 (cT cells cap)):=λb h=>by
 by_cases hb:b∈cT cells cap
 ·exact(Sh.none hσ b hb).1
 ·rw[aV hb]at h;exact Sh.same.free (e _ h)
theorem eU.backM{cells:List (Str×Addr)}{cap:List (Str×Nat)}{σ:L2.St}{H2 H3 H4:Hp}(Sh:eU cells cap σ H2 H3)(hσ:∀p∈cap,∃v,σ[p.2]?=some (some v))(e:de H3 H4):de H2 (hid H4 (cT cells cap)):=λb o h n=>by
 rw[aV λz=>by rw[(Sh.none hσ b z).1]at h;cases h];exact e _ _ (Sh.same _ _ h) n
theorem o7{H H':Hp}{cs:List Addr}(h:∀c∈cs,H c=none)(e:ao H H'):ao H (hid H' cs):=λb o q=>by
 rw[aV λz=>by rw[h b z]at q;cases q];exact e _ _ q
theorem li{H H':Hp}(cs:List Addr)(e:de H H'):de (hid H cs) (hid H' cs):=λb o q n=>by
 obtain⟨h1,h2⟩:=dl q;rw[aV h1];exact e _ _ h2 n
theorem fm{H:Hp}{cs:List Addr}(h:∀c∈cs,∃o,H c=some (cO o)){b:Addr}{o:HO}(e:H b=some o)(n:∀u,o≠cO u):hid H cs b=some o:=by
 rw[aV λz=>?_]
 ·exact e
 ·obtain⟨u,q⟩:=h b z;rw[e]at q;exact n u (Option.some.inj q)
theorem aQ.hid{tabs:List (Addr×Str)}{H:Hp}{cs:List Addr}(t:aQ tabs H)(h:∀c∈cs,∃o,H c=some (cO o)∧∃v,o.data=.cell v):aQ tabs (hid H cs):=λx hx=>by
 obtain⟨ps,h1,h2,h3⟩:=t x hx;refine tK ps ?_ h2 (λpos cv z=>?_)
 ·rw[aV λhb=>?_]
  ·exact h1
  ·obtain⟨o,e,_⟩:=h _ hb;rw[h1]at e;cases e
 ·obtain⟨c,e1,o,vs,tk,h4,h5,r⟩:=h3 pos cv z;refine tF c e1 (tM o vs tk ?_ h5 r);rw[aV λhb=>?_]
  ·exact h4
  ·obtain⟨o',e,v,hv⟩:=h _ hb;rw[h4]at e;cases e;rw[h5]at hv;cases hv
theorem Made.there{H H':Hp}{T f c':Addr}{q:Str}{o:Obj}(M:Made H H' T f c' q o){b:Addr}(h:H' b=none):H b=none:=by
 cases e:H b with
 |none=>rfl
 |some u =>
  by_cases z:b=T
  ·subst z;obtain⟨ps,h1,_⟩:=M.tab;rw[h1]at h;cases h
  ·rw[M.keep b u e z]at h;cases h
theorem Made.back{H H':Hp}{T f c':Addr}{q:Str}{o:Obj}(M:Made H H' T f c' q o):iO H H':=λ_ h=>M.there h
section
variable {X:Cx} {k:Nat} {f C:Addr} {fd:FuncData} {ps:List Str} {sp:Sp} {m:Str} {pos apos:Pos} {e o:Expr} {es:List Expr} {ta:TE} {t:TA}
theorem run_fnF{pins:List (Addr×Obj)}{σ:L2.St}{H:Hp}{s:Shared}{Q:VK}{us:List Value}{vs:List V}{cap:List (Str×Nat)}(hcap:∀p∈cap,X.N[p.2]?=some p.1∧X.env.scope.names.lookup p.1=some .cell∧X.fn p.1=true)(F:aZ X.prog X.w X.K X.mg X.base CX0 k f fd ps sp)(hr:bP k X.A)(hb:ck X.K fd ps [])(I:Inv X pins σ H s)(r:aW vs us)(h:∀H3,eU X.env.cells cap σ H H3→sp vs H3 (λv H4=>(∀c∈cT X.env.cells cap,H4 c=H3 c)→Q v (hid H4 (cT X.env.cells cap))) E0):wpAny (model X.prog X.w) X.A (call (.ref f) us) (EP X pins σ Q) X.xe s:=by
 have hcell:∀c∈cT X.env.cells cap,(∃x,X.env.cells.lookup x=some c)∧H c=none∧∃o v,s.heap.get? c=some o∧o.data=.cell v:=λc hc=>by
  obtain⟨p,hp,e⟩:=rM.mp hc;obtain⟨v,o,ho,hd⟩:=I.cell p.1 c e;exact uv ⟨p.1,e⟩ (I.freeC p.1 c e) o v ho hd
 generalize hH3:(λb=>if b∈cT X.env.cells cap then (s.heap.get? b).map cO else H b:Hp)=H3;have in3:∀c∈cT X.env.cells cap,∃o v,s.heap.get? c=some o∧o.data=.cell v∧H3 c=some (cO o):=λc hc=>by
  obtain⟨_,_,o,v,ho,hd⟩:=hcell c hc;refine tH o v ho hd ?_;rw[←hH3];show(if c∈cT X.env.cells cap then _ else _)=_;rw[if_pos hc,ho];rfl
 have out3:∀b,b∉cT X.env.cells cap→H3 b=H b:=λb hb=>by
  rw[←hH3];exact if_neg hb
 have hsame:ao H H3:=λb u e=>by
  rw[out3 b (λz=>by rw[(hcell b z).2.1]at e;cases e)];exact e
 have hsh:eU X.env.cells cap σ H H3:=by
  refine⟨hsame,I.ok.inj,λp hp v hv=>?_⟩;obtain⟨h1,h2,_⟩:=hcap p hp;obtain⟨mm,hn,hl⟩:=I.loc;obtain⟨u,rv,lk⟩:=hl p.2 p.1 v h1 hv (.inr (.inl h2));rcases lk with⟨kk,_⟩|⟨_,c,hc,oc,hoc,hocd⟩
  ·have kk:X.env.scope.names.lookup p.1=some .local:=kk;rw[h2]at kk;cases kk
  ·have hmem:c∈cT X.env.cells cap:=rM.mpr (tF p hp hc);obtain⟨o',v',ho',hd',h3⟩:=in3 c hmem;rw[hoc]at ho';cases ho';exact⟨c,tG oc u hc ((hcell c hmem).2.1) h3 hocd rv⟩
 have hok3:HOk X.prog X.w H3 s.heap:=λa o' e=>by
  by_cases ha:a∈cT X.env.cells cap
  ·obtain⟨o2,v2,h1,_,h3⟩:=in3 a ha;rw[h3]at e;cases e;exact jh h1
  ·rw[out3 a ha]at e;exact(I.hok a o' e).stay (λ_ _ _ z=>z) (λb z=>hsame _ _ z) λb xs z=>hsame _ _ z
 have E3:Env0 X.prog X.w X.K X.mg X.base X.A X.stack s H3:=by
  have E:=I.env0;refine⟨E.frames,E.mod,λb o' e=>⟨(E.bs b o' e).1,?_⟩,E.bsz,E.funs,λb hb=>?_,hok3,E.bare⟩
  ·rw[out3 b λz=>?_]
   ·exact(E.bs b o' e).2
   ·obtain⟨p,hp,e2⟩:=rM.mp z;have h1:=I.ok.cab p.1 b (hcap p hp).2.2 e2;exact absurd (rh (rg e) (rq I.ok.bsz h1)) (rk _)
  ·rw[out3 b λz=>?_]
   ·exact E.frf b hb
   ·obtain⟨p,hp,e2⟩:=rM.mp z;have h1:=I.ok.cab p.1 b (hcap p hp).2.2 e2;rcases rC.mp (I.stkSub b hb) with z2|z2
    ·exact I.cne p.1 b e2 z2
    ·obtain⟨_,of,hof,_⟩:=I.ok.funs.mem z2;exact absurd (rh (rg hof) h1) (rk _)
 have hl:us.length=ps.length:=by rw[←r.length];exact F.len _ _ _ _ (h H3 hsh)
 refine wpAny_call (codeAny_mono (F.run X.A X.stack s H3 ⟨us,[]⟩ us vs _ E0 hr E3 (by have:=hb s us I.kIn (by rw[rT];exact hl);rw[rT]at this;exact this) r (h H3 hsh)) λr s' hq=>?_);cases r with
 |error e=>exact False.elim hq
 |ok fl =>
  cases fl with
  |ret u =>
   obtain⟨v,H4,os,bare,un,hok4,rv,q⟩:=hq;have in4:∀c∈cT X.env.cells cap,∃o,H4 c=some (cO o)∧H3 c=some (cO o):=λc hc=>by
    obtain⟨o,_,_,_,h3⟩:=in3 c hc;exact tF o (un.frzs c _ _ h3) h3
   have q:=q λc hc=>let ⟨o,z4,z3⟩:=in4 c hc;z4.trans z3.symm;have nc:∀b u,H b=some u→b∉cT X.env.cells cap:=λb u e z=>by rw[(hcell b z).2.1]at e;cases e
   have nx:∀b:Addr,b∉([]:List Addr):=λb z=>by simp at z
   have hun:Un (frs X.stack) [] H (hid H4 (cT X.env.cells cap)) s.heap s'.heap:=by
    refine⟨λb o e n hf hx=>?_,λb o e n hf hx=>?_,λb o e n hx=>?_,λb o e hx=>un.there b o e hx,λb xs e=>?_,λb o' u' e=>?_,λb qs e=>?_⟩
    ·by_cases hb:b∈cT X.env.cells cap
     ·obtain⟨o2,z4,z3⟩:=in4 b hb;have e3:=cG hok3 z3;rw[e]at e3;cases e3;exact cG hok4 z4
     ·exact un.keep b o e (by rw[out3 b hb];exact n) hf hx
    ·by_cases hb:b∈cT X.env.cells cap
     ·obtain⟨o2,z4,z3⟩:=in4 b hb;have e3:=cG hok3 z3;rw[e]at e3;cases e3;exact⟨o.slots,cG hok4 z4⟩
     ·exact un.slot b o e (by rw[out3 b hb];exact n) hf hx
    ·by_cases hb:b∈cT X.env.cells cap
     ·exact fK hb
     ·exact fk (un.free b o e (by rw[out3 b hb];exact n) hx)
    ·rw[aV (nc b _ e)];exact un.tups b xs (hsame _ _ e)
    ·rw[aV (nc b _ e)];exact un.frzs b o' u' (hsame _ _ e)
    ·obtain⟨more,z⟩:=un.tbls b qs (hsame _ _ e);exact⟨more,by rw[aV (nc b _ e)];exact z⟩
   have hokF:HOk X.prog X.w (hid H4 (cT X.env.cells cap)) s'.heap:=hid_ok hok4 λc hc=>let ⟨o,z,_⟩:=in4 c hc;⟨o,z⟩;exact⟨v,_,I.call' (ch:=[]) os hun hokF bare (λb z=>absurd z (by simp)),rv,q⟩
  |next=>exact False.elim hq
  |brk=>exact False.elim hq
  |cont=>exact False.elim hq
def tMethF(C:Addr)(m:Str)(sp:Sp)(cells:List (Str×Addr))(cap:List (Str×Nat))(ta:TE)(t:TA):TE:=λσ H Q=>ta σ H λx H1=>∃a dx fs,x=.ref a∧H1 a=some (.ins C dx fs)∧fs.lookup m=none ∧
 t σ H1 λvs H2=>∀H3,eU cells cap σ H2 H3→sp (x::vs) H3 (λv H4=>(∀c∈cT cells cap,H4 c=H3 c)→Q v (hid H4 (cT cells cap))) E0
theorem dj{pl:Sem Bool}(cap:List (Str×Nat))(hcap:∀p∈cap,X.N[p.2]?=some p.1∧X.env.scope.names.lookup p.1=some .cell∧X.fn p.1=true)(he:PE X o ta)(c:Cls X.K C)(hm:Meth X.K C m f)(F:aZ X.prog X.w X.K X.mg X.base CX0 k f fd ps sp)(hr:bP k X.A)(hb:ck X.K fd ps [])(ha:PA X (e::es) t)(hst:starEach (e::es) X.env=(false,eval e X.env)::starEach es X.env:=by rfl)(hpl:(backTo pos (starEach es X.env)).any (·.1)=false:=by rfl)(ht:eval (.Call (.Attribute o m apos) (e::es) [] pos) X.env=(do
   let ov ←eval o X.env
   standAt apos.atName
   let (f,first) ←holding [ov] (getMethod ov m pl)
   callWith pos f first (backTo pos (starEach (e::es) X.env)) (backToKw pos (keywordEach [] X.env))):=by rfl):PE X (.Call (.Attribute o m apos) (e::es) [] pos) (tMethF C m sp X.env.cells cap ta t):=by
 intro pins s σ H Q I h;refine PySem.W.methodCall_KW (pl:=pl) (thn (he pins s σ H _ I h) λu s1 ⟨x,H1,I1,rx,a,dx,fs,ex,ea,l,q⟩=>?_) ht;subst ex;obtain rfl:u=Value.ref a:=rx;refine iG I1 ea c hm l ?_;refine PySem.W.callWith_K (first:=[.ref a]) (h₀:=X.base) I.ok.mod.kin hm.kp (thn (ha pos pins s1 σ H1 _ I1 q) λus s2 ⟨vs,H2,I2,r,q2⟩=>⟨I2.kIn,?_⟩) hst hpl;exact run_fnF (us:=.ref a::us) (vs:=.ref a::vs) hcap F hr hb I2 (.cons rfl r) q2
end
section
variable {P:Program} {w:World} {K:fG} {mg:Str→Option Value} {base:Heap}
theorem gz{x qual:Str}{st:Stmt}{f:Addr}{fd:FuncData}{N ps:List Str}{k:Nat}{sp:Sp}(F:Fun K x qual st f fd)(S:ap N ps (ag st))(len:∀vs H Q E,sp vs H Q E→vs.length=ps.length)(hbody:∀(A:Around) (outer:List Env) (s:Shared) (H:Hp) (vs:List V) (Q:VK) (E:XK),bP k (A.deeper (envOfC qual (ag st) s.heap.objs.size f fd.code))→sp vs H Q E →
   ∃t,PSs (cxOf CX0 P w K mg base N qual (ag st) f fd.code A outer s H E).nox (b9 st) t∧t {nx:=λ_ H'=>Q .non H',rt:=Q} (start N vs) H):aZ P w K mg base CX0 (k+1) f fd ps sp:=by
 obtain⟨oc,od,kV,doc,pm,an,cdv,ct,osl,rfl,lk,hcd⟩:=F.ex;refine fn_of lk hcd S len λA outer s H vs Q E hr hsp=>?_;obtain⟨t,h,q⟩:=hbody A outer s H vs Q E hr hsp;exact tF t h.nox q
end
end My
end
section
namespace Lr
open Su111
def j9(a:Abs)(f:List Nat→List Nat→Int)(s:List Nat):Int:=((ups a.m).map λu=>(wt a.chances u:Int)*f s u).sum
def look(a:Abs)(S:Nat→Int)(T:Nat)(f:List Nat→List Nat→Int):Fr:=low (bL (vol a.rooms) λi=>S i*j9 a f (St a.rooms i)) (T*10^a.m)
theorem sum_hap(a:Abs)(g:List Nat→List Nat→Bool)(s:List Nat):∀l:List (List Nat),(∀u,u∈l→u.length=a.m) →
  (l.map λu=>(wt a.chances u:Int)*(if g s u=true then 1 else 0)).sum=(((l.filter λu=>g s u).map a.weight).sum:Nat)
 |[],_=>rfl
 |u::l,h=>by
  have ih:=sum_hap a g s l (λv hv=>h v (rB _ hv));rw[rQ,sW,ih,List.filter_cons];by_cases e:g s u=true
  ·rw[if_pos e,if_pos e,rQ,sW,d8 a (h u rA)];omega
  ·rw[if_neg e,if_neg e];omega
theorem wsum_hap(a:Abs)(g:List Nat→List Nat→Bool)(i:Nat):j9 a (λs u=>if g s u=true then 1 else 0) (St a.rooms i)=(hap a g i:Int):=by
 unfold j9 hap;exact sum_hap a g _ _ (λu hu=>dg hu)
theorem ma(c:Int)(f:List Nat→Nat):∀l:List (List Nat),(l.map λu=>(f u:Int)*c).sum=(((l.map f).sum:Nat):Int)*c
 |[]=>by simp
 |u::l=>by
  rw[rQ,sW,ma c f l,rQ,sW];grind
theorem qo{a:Abs}(hv:a0 a)(g:List Nat→Int)(s:List Nat):j9 a (λs _=>g s) s=((10^a.m:Nat):Int)*g s:=by
 unfold j9;have e:a.m=a.chances.length:=rfl;rw[ma (g s) (wt a.chances) (ups a.m),e,ic hv.chance]
theorem low_scale(x:Int){n k:Nat}(hn:0<n)(hk:0<k):low ((k:Int)*x) (n*k)=low x (n*1):=by
 rw[gs _ (Nat.mul_pos hn hk),gs _ (show 0<n*1 by omega),Nat.mul_one];congr 1;have h1:=bO hn;have h2:=bO hk;rw[Rat.intCast_mul,Rat.natCast_mul];have e:(((k:Nat):Int):Rat)=(k:Rat):=rfl;rw[e];grind
theorem oW(c:Int)(f:Nat→Int):∀n,bL n (λi=>c*f i)=c*bL n f
 |0=>by simp[bL]
 |n+1=>by
  unfold bL;rw[oW c f n];grind
theorem iC{a:Abs}(hv:a0 a){S:Nat→Int}{T:Nat}(hT:0<T)(g:List Nat→Int):look a S T (λs _=>g s)=low (bL (vol a.rooms) λi=>S i*g (St a.rooms i)) (T*1):=by
 unfold look;have e:(bL (vol a.rooms) λi=>S i*j9 a (λs _=>g s) (St a.rooms i))=((10^a.m:Nat):Int)*bL (vol a.rooms) λi=>S i*g (St a.rooms i):=by
  rw[←oW];refine dB (λi _=>?_);rw[qo hv];grind
 rw[e];exact low_scale _ hT (fz a.m)
theorem iB{a:Abs}(hv:a0 a){S:Nat→Int}{T:Nat}(h:Bal a S T)(g:List Nat→List Nat→Bool):look a S T (λs u=>if g s u=true then 1 else 0)=a.often g:=by
 rw[often_bal hv h g];unfold look;congr 1;refine dB (λi _=>?_);rw[wsum_hap]
theorem look_mean{a:Abs}(hv:a0 a){S:Nat→Int}{T:Nat}(h:Bal a S T)(r:Nat):look a S T (λs _=>(s.getD r 0:Int))=a.mean r:=by
 rw[iC hv h.pos (λs=>(s.getD r 0:Int)),mean_bal hv h r]
theorem look_some{a:Abs}(hv:a0 a){S:Nat→Int}{T:Nat}(h:Bal a S T)(p:List Nat→Prop)[DecidablePred p]:look a S T (λs _=>if decide (p s)=true then 1 else 0)=((a.states.zip a.long).map λx=>if p x.1 then x.2 else (0,1)).foldl plus (0,1):=by
 rw[iC hv h.pos (λs=>if decide (p s)=true then 1 else 0),some_bal hv h p];congr 1;refine dB (λi _=>?_);by_cases e:p (St a.rooms i)
 ·rw[if_pos (decide_eq_true e),if_pos e]
 ·rw[if_neg (by simpa using e),if_neg e]
theorem md(S:Nat→Int)(j:Nat):∀n,bL n (λi=>S i*(if i=j then 1 else 0))=if j<n then S j else 0
 |0=>by simp[bL]
 |n+1=>by
  unfold bL;rw[md S j n];dsimp only;by_cases e:n=j
  ·subst e;rw[if_neg (by omega),if_pos rfl,if_pos (by omega)];omega
  ·rw[if_neg e];by_cases h:j<n
   ·rw[if_pos h,if_pos (by omega)];omega
   ·rw[if_neg h,if_neg (by omega)];omega
theorem qX{a:Abs}(hv:a0 a){S:Nat→Int}{T:Nat}(h:Bal a S T){w:List Nat}(hs:cu a.rooms w):look a S T (λs _=>if decide (s=w)=true then 1 else 0)=a.long.getD (a.states.idxOf w) (0,1):=by
 rw[iC hv h.pos (λs=>if decide (s=w)=true then 1 else 0),share_bal hv h hs];have e:(bL (vol a.rooms) λi=>S i*(if decide (St a.rooms i=w)=true then 1 else 0))=bL (vol a.rooms) λi=>S i*(if i=idx a.rooms w then 1 else 0):=by
  refine dB (λi hi=>?_);by_cases e:i=idx a.rooms w
  ·rw[if_pos (decide_eq_true (by rw[e,lJ hs])),if_pos e]
  ·rw[if_neg e,if_neg];intro z;have z:=of_decide_eq_true z;apply e;rw[←z,bo hi]
 rw[e,md,if_pos (eE hs),Nat.mul_one]
abbrev Mv:=Nat×List Nat×Nat
def lastW(a:Abs)(s u:List Nat):Nat:=if (a.works s u).getD (a.m-1) false then 1 else 0
def fU(a:Abs)(s:List Nat)(c:Nat):List Mv:=(ups a.m).map λu=>(lastW a s u,a.next s u,c*wt a.chances u)
def aE(a:Abs)(W:List (List Nat×Nat)):List Mv:=W.flatMap λp=>fU a p.1 p.2
def eB(W:List (List Nat×Nat))(s:List Nat)(c:Nat):List (List Nat×Nat):=match W with
 |[]=>[(s,c)]
 |(t,d)::r=>if t=s then (t,d+c)::r else (t,d)::eB r s c
def c6(M:List Mv):List (List Nat×Nat):=M.foldl (λW x=>eB W x.2.1 x.2.2) []
def eJ(g:List Nat→Nat)(W:List (List Nat×Nat)):Nat:=(W.map λp=>p.2*g p.1).sum
def outW(M:List Mv):Nat:=(M.map λx=>x.1*x.2.2).sum
theorem oX(g:List Nat→Nat)(s:List Nat)(c:Nat):∀W,eJ g (eB W s c)=eJ g W+c*g s
 |[]=>by simp[eJ,eB]
 |(t,d)::r=>by
  have ih:=oX g s c r;unfold eB;by_cases e:t=s
  ·subst e;rw[if_pos rfl];simp only[eJ,rQ,sW];grind
  ·rw[if_neg e];simp only[eJ,rQ,sW]at ih ⊢;omega
theorem me(g:List Nat→Nat):∀(M:List Mv) (W:List (List Nat×Nat)),eJ g (M.foldl (λW x=>eB W x.2.1 x.2.2) W)=eJ g W+(M.map λx=>x.2.2*g x.2.1).sum
 |[],W=>by simp
 |x::M,W=>by
  rw[List.foldl_cons,me g M,oX,rQ,sW];omega
theorem kH(g:List Nat→Nat)(M:List Mv):eJ g (c6 M)=(M.map λx=>x.2.2*g x.2.1).sum:=by
 unfold c6;rw[me];simp[eJ]
theorem fZ{α β:Type}(f:β→Nat)(g:α→List β):∀l:List α,((l.flatMap g).map f).sum=(l.map λx=>((g x).map f).sum).sum
 |[]=>rfl
 |x::l=>by
  rw[List.flatMap_cons,sQ,List.sum_append,fZ f g l,rQ,sW]
theorem gK{α:Type}(c:Nat)(f:α→Nat):∀l:List α,(l.map λx=>c*f x).sum=c*(l.map f).sum
 |[]=>by simp
 |x::l=>by
  rw[rQ,sW,gK c f l,rQ,sW,Nat.mul_add]
theorem kF{α:Type}(f g:α→Nat):∀l:List α,(l.map λx=>f x+g x).sum=(l.map f).sum+(l.map g).sum
 |[]=>by simp
 |x::l=>by
  simp only[rQ,sW,kF f g l];omega
theorem jr{α:Type}{f g:α→Nat}:∀{l:List α},(∀x,x∈l→f x=g x)→(l.map f).sum=(l.map g).sum
 |[],_=>rfl
 |x::l,h=>by
  rw[rQ,sW,rQ,sW,h x rA,jr λy hy=>h y (rB _ hy)]
theorem qH(a:Abs)(n:Nat)(s:List Nat)(c:Nat):c*a.pieces (n+1) s=((fU a s c).map λx=>x.1*x.2.2).sum*10^(a.m*n)+((fU a s c).map λx=>x.2.2*a.pieces n x.2.1).sum:=by
 unfold fU;rw[sN,sN];show c*((ups a.m).map λu=>a.weight u*((if (a.works s u).getD (a.m-1) false then 10^(a.m*n) else 0)+a.pieces n (a.next s u))).sum=_;rw[←gK];rw[Nat.mul_comm _ (10^(a.m*n)),←gK,←kF];refine jr (λu hu=>?_);dsimp only [Function.comp];rw[d8 a (dg hu)];unfold lastW;by_cases e:(a.works s u).getD (a.m-1) false=true
 ·rw[if_pos e,if_pos e];grind
 ·rw[if_neg e,if_neg e];grind
theorem pA(a:Abs)(n:Nat)(W:List (List Nat×Nat)):eJ (a.pieces (n+1)) W=outW (aE a W)*10^(a.m*n)+eJ (a.pieces n) (c6 (aE a W)):=by
 rw[kH];unfold outW aE;rw[fZ,fZ,Nat.mul_comm _ (10^(a.m*n)),←gK,←kF];unfold eJ;refine jr (λp _=>?_);rw[qH];grind
theorem nL(a:Abs)(n:Nat)(s:List Nat):eJ (a.pieces n) [(s,1)]=a.pieces n s:=by simp[eJ]
theorem qI(a:Abs)(W:List (List Nat×Nat)):eJ (a.pieces 0) W=0:=by
 unfold eJ;induction W with
 |nil=>rfl
 |cons p W ih =>
  rw[rQ,sW,ih];simp[Abs.pieces]
end Lr
end
section
namespace My
open PySem PySem.Spec PyProof.Rows L2
abbrev kO:Stmt:=inClass (top 20) 1
abbrev psW:List Str:=["filling","ups","works"]
def spWorth(a:Su111.Abs)(CH:Hp→Prop)(g:List Nat→List Nat→V):Sp:=λvs H Q _=>∃(pf pu pw:Addr) (s u:List Nat),vs=[.ref pf,.ref pu,.ref pw]∧H pf=some (.lst (nV s))∧H pu=some (.lst (nV u))∧H pw=some (.lst (nV (wk a s u)))∧s.length=a.rooms.length∧u.length=a.m∧CH H∧Q (g s u) H
structure m6(P:Program)(w:World)(K:fG)(mg:Str→Option Value)(base:Heap)(k:Nat)(f:Addr)(a:Su111.Abs)(CH:Hp→Prop)(g:List Nat→List Nat→V):Prop where
 ex:∃fd,ck K fd psW []∧aZ P w K mg base CX0 k f fd psW (spWorth a CH g)
 fn:∀H,CH H→FnIn H f
 mild:∀H H',CH H→de H H'→CH H'
def fA(a:Su111.Abs)(d:Int)(Z:Nat→Int):List Int:=d::(rn (Lr.vol a.rooms-1)).map Z
def cQ(d:Int)(Z:Nat→Int)(i:Nat):Int:=if i=0 then d else Z (i-1)
theorem qE(a:Su111.Abs)(d:Int)(Z:Nat→Int):(fA a d Z).length=Lr.vol a.rooms:=by
 have:=Lr.bK a.rooms;unfold fA;rw[rP,rR,sO];omega
theorem shareL_at{a:Su111.Abs}{d:Int}{Z:Nat→Int}{i:Nat}(h:i<Lr.vol a.rooms):(fA a d Z)[i]?=some (cQ d Z i):=by
 unfold fA cQ;cases i with
 |zero=>rfl
 |succ i =>
  rw[List.getElem?_cons_succ,r6,sR (by omega),if_neg (by omega)];rfl
theorem kL(a:Su111.Abs)(d:Int)(Z:Nat→Int):(fA a d Z).sum=d+Lr.bL (Lr.vol a.rooms-1) Z:=by
 unfold fA;rw[sW,Lr.js]
theorem lV{a:Su111.Abs}{d:Int}{Z:Nat→Int}(F:Lr.lP a d Z){i:Nat}(h:i<Lr.vol a.rooms):0≤cQ d Z i:=by
 unfold cQ;by_cases e:i=0
 ·rw[if_pos e];have:=F.pos;omega
 ·rw[if_neg e];exact F.nonneg _ (by omega)
theorem nz{a:Su111.Abs}{d:Int}{Z:Nat→Int}(F:Lr.lP a d Z)(hv:Lr.vol a.rooms≤27)(hm:a.m≤4){i:Nat}(h:i<Lr.vol a.rooms):Sml 500 (cQ d Z i):=by
 have hb:=Lr.big_lt hv hm;unfold cQ Sml;by_cases e:i=0
 ·rw[if_pos e];exact sA F.leD hb
 ·rw[if_neg e];exact sA (F.leZ _ (by omega)) hb
def e8(a:Su111.Abs)(d:Int)(Z:Nat→Int):Nat:=(d+Lr.bL (Lr.vol a.rooms-1) Z).toNat
theorem mK{a:Su111.Abs}{d:Int}{Z:Nat→Int}(F:Lr.lP a d Z):Lr.Bal a (cQ d Z) (e8 a d Z):=F.bal
theorem sumZ_le{f:Nat→Int}{c:Int}:∀{n:Nat},(∀i,i<n→f i≤c)→Lr.bL n f≤n*c
 |0,_=>by simp[Lr.bL]
 |n+1,h=>by
  have ih:=sumZ_le (n:=n) λi hi=>h i (by omega);have h1:=h n (by omega);unfold Lr.bL;have:((n+1:Nat):Int)*c=(n:Int)*c+c:=by
   rw[Int.natCast_add,Int.add_mul];simp
  omega
theorem below_ok{a:Su111.Abs}{d:Int}{Z:Nat→Int}(F:Lr.lP a d Z)(hv:Lr.vol a.rooms≤27)(hm:a.m≤4):((e8 a d Z:Nat):Int)=d+Lr.bL (Lr.vol a.rooms-1) Z∧e8 a d Z<2^510:=by
 have h0:=Lr.eO (f:=Z) (n:=Lr.vol a.rooms-1) F.nonneg;have hp:=F.pos;have hb:=Lr.big_lt hv hm;have h1:d≤(Lr.big a:Int):=by have:=F.leD;omega
 have h2:Lr.bL (Lr.vol a.rooms-1) Z≤((Lr.vol a.rooms-1:Nat):Int)*(Lr.big a:Int):=sumZ_le λi hi=>by
  have:=F.leZ i hi;have:=F.nonneg i hi;omega
 have h3:((Lr.vol a.rooms-1:Nat):Int)*(Lr.big a:Int)≤26*(Lr.big a:Int):=Int.mul_le_mul_of_nonneg_right (by omega) (by omega);unfold e8;have e:(2:Nat)^510=1024*2^500:=by decide
 rw[e];omega
theorem jM(a:Su111.Abs)(g:List Nat→List Nat→Int)(s:List Nat):∀l:List (List Nat),(∀u,u∈l→0≤g s u∧g s u≤1000)→0≤(l.map λu=>(Lr.wt a.chances u:Int)*g s u).sum∧(l.map λu=>(Lr.wt a.chances u:Int)*g s u).sum≤(((l.map (Lr.wt a.chances)).sum:Nat):Int)*1000
 |[],_=>by simp
 |u::l,h=>by
  have ih:=jM a g s l λv hv=>h v (rB _ hv);obtain⟨h1,h2⟩:=h u rA;simp only[rQ,sW];have h3:0≤(Lr.wt a.chances u:Int)*g s u:=Int.mul_nonneg (by omega) h1;have h4:(Lr.wt a.chances u:Int)*g s u≤(Lr.wt a.chances u:Int)*1000:=Int.mul_le_mul_of_nonneg_left h2 (by omega);rw[Int.natCast_add,Int.add_mul];omega
theorem kz{a:Su111.Abs}(hv:Lr.a0 a)(hm:a.m≤4){g:List Nat→List Nat→Int}{s:List Nat}(h:∀u,u∈Su111.ups a.m→0≤g s u∧g s u≤1000):0≤Lr.j9 a g s∧Sml 64 (Lr.j9 a g s):=by
 obtain⟨h1,h2⟩:=jM a g s _ h;have e:a.m=a.chances.length:=rfl;have h3:((Su111.ups a.m).map (Lr.wt a.chances)).sum=10^a.m:=by rw[e];exact Lr.ic hv.chance
 rw[h3]at h2;have h4:10^a.m≤10^4:=sZ (by omega) hm;have h5:(10:Nat)^4=10000:=by decide
 refine⟨h1,?_⟩;unfold Sml;have h6:(2:Nat)^64=18446744073709551616:=by decide
 rw[h6];unfold Lr.j9;omega
theorem fH{α:Type}(f:α→Nat){x:α}:∀{l:List α},x∈l→f x≤(l.map f).sum
 |y::l,h=>by
  rw[rQ,sW];rcases rC.mp h with rfl|h
  ·omega
  ·have:=fH f h;omega
theorem oG{a:Su111.Abs}(hv:Lr.a0 a)(hm:a.m≤4){u:List Nat}(hu:u∈Su111.ups a.m):Sml 64 (Lr.wt a.chances u:Nat):=by
 have h1:=fH (Lr.wt a.chances) hu;have e:a.m=a.chances.length:=rfl;have h3:((Su111.ups a.m).map (Lr.wt a.chances)).sum=10^a.m:=by rw[e];exact Lr.ic hv.chance
 have h4:10^a.m≤10^4:=sZ (by omega) hm;have h5:(10:Nat)^4=10000:=by decide
 unfold Sml;have h6:(2:Nat)^64=18446744073709551616:=by decide
 rw[h6];omega
section
variable {P:Program} {w:World} {K:fG} {mg:Str→Option Value} {base:Heap}
def spLook(P:Program)(w:World)(K:fG)(mg:Str→Option Value)(base:Heap)(C:Addr)(kw:Nat):Sp:=λvs H Q _=>∃(p f:Addr) (a:Su111.Abs) (CH:Hp→Prop) (g:List Nat→List Nat→Int),vs=[.ref p,.ref f]∧cW C H p a∧Lr.a0 a∧Lr.vol a.rooms≤27∧a.m≤4 ∧
 m6 P w K mg base kw f a CH (λs u=>.int (g s u))∧CH H∧(∀s u,Lr.cu a.rooms s→0≤g s u∧g s u≤1000) ∧
 ∀(S:Nat→Int) (T:Nat),Lr.Bal a S T→∀(H':Hp) (q:Addr),ao H H'→H' q=some (.lst (iV (fr (Lr.look a S T g))))→H q=none→Q (.ref q) H'
abbrev nLook:List Str:=["self","worth","above","filling","share","its_hours","ups","works","weight"]
theorem eY:ap nLook ["self","worth"] (ag kO):=⟨rfl,rfl,rfl,by decide +kernel,rfl,by decide +kernel,by decide +kernel⟩
theorem ok_look{f C:Addr}{fd:FuncData}{kw:Nat}(F:Fun K "looked_for" "LongRun.looked_for" kO f fd)(T:lM K mg C)(DL:aN K mg "lowest" sLow ["above","below"])(DGc:aN K mg "common_measure" sGcd ["one","other"])(hzip:mg "zip" = none)(hsum:mg "sum" = none):aZ P w K mg base CX0 (kw+3) f fd ["self","worth"] (spLook P w K mg base C kw):=by
 refine F.ok (k:=kw+2) eY (λvs H Q E h=>?_) (λcdv A outer s H vs Q E hr h=>?_)
 ·obtain⟨p,f,a,CH,g,rfl,_⟩:=h;rfl
 ·obtain⟨p,f,a,CH,g,rfl,R,hv,hvol,hm4,W,hCH,hg,k⟩:=h;have hr2:bP 2 _:=hr.mono (by omega);have hrw:bP kw _:=hr.mono (by omega);refine tF _ (ad (aC (i:=2) eY.nd rfl (Or.inl rfl) al)
   (ad (cn PassesOwn.never rfl (pi_zip3 .lst .lst .lst rfl hzip (aa (ax (pv 0) rfl) (aa (ax (pv 0) rfl) (aa (ax (pv 0) rfl) ae)))) (dD rfl (aS (aw (i:=3) eY.nd rfl (Or.inr rfl)) (aS (aw (i:=4) eY.nd rfl (Or.inl rfl)) (aS (aw (i:=5) eY.nd rfl (Or.inl rfl)) cM))))
    (ah (aC (i:=2) eY.nd rfl (Or.inl rfl) (aT cB (pv 2) (aT dk (pv 4) (aM (jF rfl) (by rfl) hsum (by decide +kernel) (aa (fi (own:=[("ups",6),("works",7),("weight",8)]) rfl eY.nd (bZ (pv 5)) (show db nLook (ag kO) _ [("ups",6),("works",7),("weight",8)] from⟨rfl,by decide +kernel,by decide +kernel,by decide +kernel,by decide +kernel⟩)
     (g:=gTup K 3 (fq (dq 6) (fq (dq 7) (fq (dq 8) gNil)))) (λ_ _ _ _ _=>dD rfl (aS (aw (i:=6) eY.nd rfl (Or.inl rfl)) (aS (aw (i:=7) eY.nd rfl (Or.inl rfl)) (aS (aw (i:=8) eY.nd rfl (Or.inl rfl)) cM)))) (λ_ _ _ _ _=>bY)
     (te:=tOp (rI CMulB λi j=>.int (i*j)) (dc 8) (tCallV P w K mg base kw psW 1 (ia (dc 3) (ia (dc 6) (ia (dc 7) tNil)))))
     (λ_ _ _ _ _=>aT dk (pv 8) (pF (k:=kw) (ps:=psW) (i:=1) (pv 1) hrw (aa (pv 3) (aa (pv 6) (aa (pv 7) ae)))))) ae)))))))
   (ah (aj (aJ (ok_low DL.F DGc) hr2 rfl DL.mgf DL.F.kp DL.b .nil az (aa (pv 2) (aa (aT dk (aM (jF rfl) (by rfl) hsum (by decide +kernel) (aa (ax (pv 0) rfl) ae)) (ax (pv 0) rfl)) ae))))))) ?_
  obtain⟨dx,pf,ph,ps,fs,hs,d,Z,hp,LF,AH,hps,FD⟩:=R.ex;have hps:H ps=some (.lst (iV (fA a d Z))):=hps;have hml:a.chances.length=a.m:=rfl;have hfn:fs.length=Lr.vol a.rooms:=by rw[LF.len,Lr.bu]
  have lk:∀(g:Str),(runF (.int ((10^a.m:Nat):Int)) (.ref pf) (.ref ph) (.ref ps)).lookup g=if g="shares" then some (V.ref ps) else if g="hours" then some (V.ref ph) else if g="fillings" then some (V.ref pf) else if g="cases" then some (V.int ((10^a.m:Nat):Int)) else none:=by
   intro g;unfold runF;rw[bj,bj,bj,bj];rfl
  refine tV _ rfl p C dx _ (tJ _ rfl hp T.cl T.n2 (by rw[lk,if_neg (by decide),if_neg (by decide),if_pos rfl]) (tV _ rfl p C dx _ (tJ _ rfl hp T.cl T.n4 (by rw[lk,if_pos rfl]) (tV _ rfl p C dx _ (tJ _ rfl hp T.cl T.n3 (by rw[lk,if_neg (by decide),if_pos rfl]) (tY (
   pf) ps ph _ (tG _ _ rfl (SqL.of LF.lst) (SqL.of hps) (SqL.of AH.lst) (for_z3 (K:=K) (k1:=.lst) (k2:=.lst) (k3:=.lst) (a1:=pf) (a2:=ps) (a3:=ph) (x1s:=fs.map V.ref) (x2s:=iV (fA a d Z)) (x3s:=hs.map V.ref) (by rw[rR,bG,qE,hfn]) (by rw[rR,rR,hfn,AH.len])
    (λi σ H'=>∃(v3 v4 v5:Option V),σ=[some (.ref p),some (.ref f),some (.int (Lr.bL i λj=>cQ d Z j*Lr.j9 a g (Lr.St a.rooms j))),v3,v4,v5,none,none,none]∧ao H H')
    (t6 none none none rfl (λ_ _ e=>e)) (λi σ H' _ ⟨_,_,_,_,sm⟩=>tS (SqL.of (sm _ _ LF.lst)) (SqL.of (sm _ _ hps)) (SqL.of (sm _ _ AH.lst))) ?_ ?_))))))))
  ·rintro i y1 y2 y3 T1 σ H' hy1 hy2 hy3 hT ⟨v3,v4,v5,rfl,sm⟩;have hil:i<Lr.vol a.rooms:=by
    have:=(rE.mp hy1).1;rw[rR,hfn]at this;exact this
   have hq:=LF.at_ i fs[i] _ (sG (by omega)) (Lr.du hil);have ey:y1=V.ref fs[i]:=by
    rw[r6,sG (show i<fs.length by omega)]at hy1;exact(Option.some.inj hy1).symm
   subst ey;have ey2:y2=V.int (cQ d Z i):=by
    unfold iV at hy2;rw[r6,shareL_at hil]at hy2;exact(Option.some.inj hy2).symm
   subst ey2;obtain⟨hi,hhi,ey3⟩:∃hi,hs[i]?=some hi∧y3=V.ref hi:=by
    rw[r6]at hy3;cases e:hs[i]? with
    |none=>rw[e]at hy3;cases hy3
    |some z=>rw[e]at hy3;exact tF z rfl ((Option.some.inj hy3).symm)
   subst ey3;obtain⟨hrs,HA⟩:=AH.at_ i hi hhi;have sT:ao H (upd H' T1 (.tup [V.ref fs[i],V.int (cQ d Z i),V.ref hi])):=sm.trans (ay hT);generalize hH2:upd H' T1 (.tup [V.ref fs[i],V.int (cQ d Z i),V.ref hi])=H2 at sT;have hT2:H2 T1=some (.tup [V.ref fs[i],V.int (cQ d Z i),V.ref hi]):=by rw[←hH2];exact ac
   have HA2:=HA.same sT;have hfit:=Lr.cX hil;refine uy T1 _ rfl (SqT.of hT2) rfl _ (tQ _ rfl _ _ (uB rfl _ _ rfl rfl ?_));refine t0 _ rfl _ rfl (uq _ rfl hi rfl ⟨_,SqL.of HA2.lst⟩ (λD hD=>d6 (K:=K) (a:=hi) (xs:=hrs.map V.ref) (λt H3=>ao H2 H3∧H3 D=some (.lst (iV (((Su111.ups a.m).take t).map λu=>(Lr.wt a.chances u:Int)*g (Lr.St a.rooms i) u))))
    ⟨ay hD,ac⟩ (λt H3 _ ⟨s3,_⟩=>SqL.of (s3 _ _ HA2.lst)) ?_ ?_))
   ·rintro t y H3 hy ⟨s3,hD3⟩;obtain⟨r,hr2',ey⟩:∃r,hrs[t]?=some r∧y=V.ref r:=by
     rw[r6]at hy;cases e:hrs[t]? with
     |none=>rw[e]at hy;cases hy
     |some z=>rw[e]at hy;exact tF z rfl ((Option.some.inj hy).symm)
    subst ey;have htl:t<(Su111.ups a.m).length:=by
     rw[←HA.len];exact(rE.mp hr2').1
    obtain⟨u,hu2⟩:∃u,(Su111.ups a.m)[t]?=some u:=⟨_,sG htl⟩
    obtain⟨pu,pw,g1,g2,g3,_⟩:=HA2.at_ t r u hr2' hu2;have hul:=Lr.dg (r8 hu2);have s13:=sT.trans s3;have hc3:=W.mild _ _ hCH (ao.mild s13);obtain⟨fdw,hbw,Fw⟩:=W.ex;refine⟨r,_,rfl,SqT.of (s3 _ _ g1),rfl,_,_,rfl,_,_,rfl,_,_,rfl,rfl,rfl,?_⟩;refine⟨_,rfl,f,rfl,W.fn _ hc3,_,rfl,_,rfl,_,rfl,W.fn _ hc3,fdw,_,Fw,hbw,fs[i],pu,pw,Lr.St a.rooms i,u,rfl,s13 _ _ hq,s3 _ _ g2,s3 _ _ g3,hfit.len,hul,hc3,?_⟩;have hgb:=hg (Lr.St a.rooms i) u hfit;refine⟨_,_,rfl,rfl,⟨64,64,?_,?_,by decide⟩,_,hD3,?_,?_⟩
    ·exact oG hv hm4 (r8 hu2)
    ·unfold Sml;have h6:(2:Nat)^64=18446744073709551616:=by decide
     rw[h6];omega
    ·rw[bG,rR,rX];refine sA (Nat.min_le_left _ _) (rh htl ?_);rw[cg];exact rq (sZ (by omega) hm4) (by decide)
    ·refine⟨bp s3 hD,?_⟩;have et:(Su111.ups a.m).take (t+1)=(Su111.ups a.m).take t++[u]:=by
      rw[sI,hu2];rfl
     rw[ac,et];unfold iV;rw[sQ,sQ];rfl
   ·rintro H3 ⟨s3,hD3⟩;rw[rR,HA.len,tm]at hD3;obtain⟨w0,w1⟩:=kz hv hm4 (g:=g) (s:=Lr.St a.rooms i) (λu _=>hg _ u hfit);refine tU D _ (uv rfl (SqL.of hD3) _ _ rfl (ue rfl (tH 500 64 (nz FD hvol hm4 hil) w1 (by decide)) _ _ rfl rfl (t6 (some (V.ref fs[i])) (some (V.int (cQ d Z i))) (some (V.ref hi)) ?_ (sT.trans s3))));rfl
  ·rintro σ H1 ⟨v3,v4,v5,rfl,sm⟩;rw[rR,hfn];have hp1:=sm _ _ hp;obtain⟨eT,bT⟩:=below_ok FD hvol hm4;have n0:0≤Lr.bL (Lr.vol a.rooms) λj=>cQ d Z j*Lr.j9 a g (Lr.St a.rooms j):=Lr.eO λi hi=>Int.mul_nonneg (lV FD hi) (kz hv hm4 (g:=g) (s:=Lr.St a.rooms i) (λu _=>hg _ u (Lr.cX hi))).1;have hT0:0<e8 a d Z:=(mK FD).pos;have ht:0<10^a.m:=Lr.fz a.m;have ht4:10^a.m≤10^4:=sZ (by omega) hm4;have hten:(10:Nat)^4=10000:=by decide
   refine tT _ rfl _ rfl p C (tI dx _ _ rfl hp1 T.cl (ue T.n4 (by rw[lk,if_pos rfl]) ps (fA a d Z) rfl (SqL.of (sm _ _ hps)) (tV _ rfl p C dx _ (tJ _ rfl hp1 T.cl T.n1 (by rw[lk,if_neg (by decide),if_neg (by decide),if_neg (by decide),if_pos rfl]) (tP _ _ rfl rfl ?_ ?_)))))
   ·refine tH 510 64 ?_ ?_ (by decide)
    ·rw[kL,←eT];exact bT
    ·unfold Sml;have h6:(2:Nat)^64=18446744073709551616:=by decide
     rw[h6,Int.natAbs_natCast];omega
   ·rw[kL,←eT];refine tP ((Lr.bL (Lr.vol a.rooms) λj=>cQ d Z j*Lr.j9 a g (Lr.St a.rooms j)).toNat) (e8 a d Z*10^a.m) ?_ (Nat.mul_pos hT0 ht) ?_ (λq hq=>?_)
    ·rw[Int.toNat_of_nonneg n0,tw];rfl
    ·unfold Sml;rw[Int.natAbs_natCast];have e1:e8 a d Z*10^a.m≤e8 a d Z*10^4:=Nat.mul_le_mul_left _ ht4;have e2:(2:Nat)^510*10^4<2^9000:=by
      have:(2:Nat)^9000=2^510*2^8490:=by rw[←Nat.pow_add]
      rw[this];exact Nat.mul_lt_mul_of_pos_left (rh (show 10^4<2^14 by decide) (sZ (by omega) (by omega))) (Nat.pow_pos (by omega))
     have e3:e8 a d Z*10^4≤2^510*10^4:=sU _ (Nat.le_of_lt bT);omega
    ·rw[Int.toNat_of_nonneg n0];refine k (cQ d Z) (e8 a d Z) (mK FD) _ q (sm.trans (ay hq)) ac ?_;exact sm.free hq
end
end My
end
section
namespace My
open PySem PySem.Spec PyProof.Rows L2
open PySem.W (kla_fn kla_obj envX)
abbrev ip:Stmt:=inClass (top 20) 2
abbrev gQ:Stmt:=inClass (top 20) 3
theorem cW.mild{C:Addr}{H H':Hp}{p:Addr}{a:Su111.Abs}(x:cW C H p a)(e:de H H'):cW C H' p a:=by
 obtain⟨dx,pf,ph,ps,fs,hs,d,Z,h1,LF,AH,h2,F⟩:=x.ex;exact⟨dx,pf,ph,ps,fs,hs,d,Z,e _ _ h1 rfl,⟨e _ _ LF.lst rfl,LF.len,λi r l a b=>e _ _ (LF.at_ i r l a b) rfl⟩,
  ⟨e _ _ AH.lst rfl,AH.len,λi h hh=>let ⟨rs,x⟩:=AH.at_ i h hh;⟨rs,e _ _ x.lst rfl,x.len,λi r u x1 y1=>let ⟨pu,pw,g1,g2,g3,n⟩:=x.at_ i r u x1 y1;⟨pu,pw,e _ _ g1 rfl,e _ _ g2 rfl,e _ _ g3 rfl,n⟩⟩⟩,e _ _ h2 rfl,F⟩
structure aY(K:fG)(C:Addr)(m qual:Str)(st:Stmt)(ps:List Str) where
 f:Addr
 fd:FuncData
 M:Meth K C m f
 F:Fun K m qual st f fd
 b:ck K fd ps []
abbrev iY(fv:List Str):Scope:={kind:=.function,names:=(("filling" : Str),NameKind.local)::(("ups" : Str),NameKind.local)::(("works" : Str),NameKind.local)::fv.map λx=>(x,NameKind.free),isGenerator:=false,isCoroutine:=false}
abbrev jv:Str:="LongRun.how_often.<locals>.<lambda>"
abbrev i6:Str:="LongRun.how_often_out.<locals>.<lambda>"
section
variable {P:Program} {w:World} {K:fG} {mg:Str→Option Value} {base:Heap}
theorem dz{k:Nat}{f:Addr}{fd:FuncData}{body:Expr}{cl:List (Str×Addr)}{N fv:List Str}{fvs:List V}{a:Su111.Abs}{CH:Hp→Prop}{g:List Nat→List Nat→V}{H0:Hp}(_:fw H0 f fd cl fv fvs)(hb:fd.body=.expr body)(hg:fd.globals=mainGlobals)(hbn:fd.builtins=builtinsNs)(hc:fd.closure=cl)(hbi:ck K fd psW [])(hcl:lR cl)(S:iN N psW fv fd.scope)(hm:∀H H',CH H→de H H'→CH H')(hbody:∀(A:Around) (outer:List Env) (s:Shared) (H:Hp) (pf pu pw:Addr) (s' u:List Nat),bP k (A.deeper (envX fd.qualname fd.scope s.heap.objs.size f fd.code cl))→H pf=some (.lst (nV s'))→H pu=some (.lst (nV u))→H pw=some (.lst (nV (wk a s' u)))→s'.length=a.rooms.length→u.length=a.m→CH H →
   ∃t,PE (lC P w K mg base N fd.qualname fd.scope f fd.code cl A outer s H) body t∧t (([V.ref pf,V.ref pu,V.ref pw]++fvs).map some) H (λv H'=>v=g s' u∧H'=H)):m6 P w K mg base (k+1) f a (λH=>fw H f fd cl fv fvs∧CH (hid H (bi cl))) g:=by
 refine⟨(tF fd hbi (fn_lam (fv:=fv) (fvs:=fvs) (N:=N) hb hg hbn hc hcl S (λvs H Q E h=>?_) (λA outer s H vs Q E hr h=>?_))),λH h=>?_,λH H' h e=>⟨h.1.mild e,hm _ _ h.2 (li _ e)⟩⟩
 ·obtain⟨pf,pu,pw,s,u,rfl,_⟩:=h;rfl
 ·obtain⟨pf,pu,pw,s',u,rfl,h1,h2,h3,hl,hul,⟨C',hC'⟩,q⟩:=h;have hfz:=C'.frozen hcl;obtain⟨t,h4,h5⟩:=hbody A outer s _ pf pu pw s' u hr (fm hfz h1 (λ_ z=>nomatch z)) (fm hfz h2 (λ_ z=>nomatch z)) (fm hfz h3 (λ_ z=>nomatch z)) hl hul hC';refine⟨C',λσ H' Q'=>t σ H' (λv H2=>v=g s' u∧H2=hid H (bi cl))∧(H'=hid H (bi cl))∧∀v H2,v=g s' u∧H2=hid H (bi cl)→Q' v H2,?_,h5,rfl,λv H2 ⟨e1,e2⟩=>⟨e2,by rw[e1];exact q⟩⟩;intro pins s0 σ H' Q' I ⟨h6,h7,h8⟩;exact thn (h4 pins s0 σ H' _ I h6) λu s1 ⟨v,H2,I2,rv,e⟩=>⟨v,H2,I2,rv,h8 v H2 e⟩
 ·obtain⟨o,h1,h2⟩:=h.1.fn;exact tO o _ h1 h2
theorem lX{k:Nat}{f:Addr}{fd:FuncData}{body:List Stmt}{cl:List (Str×Addr)}{N fv:List Str}{fvs:List V}{a:Su111.Abs}{CH:Hp→Prop}{g:List Nat→List Nat→V}{H0:Hp}(_:fw H0 f fd cl fv fvs)(hb:fd.body=.stmts body)(hg:fd.globals=mainGlobals)(hbn:fd.builtins=builtinsNs)(hc:fd.closure=cl)(hbi:ck K fd psW [])(hcl:lR cl)(S:iN N psW fv fd.scope)(hm:∀H H',CH H→de H H'→CH H')(hbody:∀(A:Around) (outer:List Env) (s:Shared) (H:Hp) (pf pu pw:Addr) (s' u:List Nat),bP k (A.deeper (envX fd.qualname fd.scope s.heap.objs.size f fd.code cl))→H pf=some (.lst (nV s'))→H pu=some (.lst (nV u))→H pw=some (.lst (nV (wk a s' u)))→s'.length=a.rooms.length→u.length=a.m→CH H →
   ∃t,PSs (lC P w K mg base N fd.qualname fd.scope f fd.code cl A outer s H) body t∧t {nx:=λ_ _=>False,rt:=λv H'=>v=g s' u∧H'=H} (([V.ref pf,V.ref pu,V.ref pw]++fvs).map some) H):m6 P w K mg base (k+1) f a (λH=>fw H f fd cl fv fvs∧CH (hid H (bi cl))) g:=by
 refine⟨(tF fd hbi (fn_def (fv:=fv) (fvs:=fvs) (N:=N) hb hg hbn hc hcl S (λvs H Q E h=>?_) (λA outer s H vs Q E hr h=>?_))),λH h=>?_,λH H' h e=>⟨h.1.mild e,hm _ _ h.2 (li _ e)⟩⟩
 ·obtain⟨pf,pu,pw,s,u,rfl,_⟩:=h;rfl
 ·obtain⟨pf,pu,pw,s',u,rfl,h1,h2,h3,hl,hul,⟨C',hC'⟩,q⟩:=h;have hfz:=C'.frozen hcl;obtain⟨t,h4,h5⟩:=hbody A outer s _ pf pu pw s' u hr (fm hfz h1 (λ_ z=>nomatch z)) (fm hfz h2 (λ_ z=>nomatch z)) (fm hfz h3 (λ_ z=>nomatch z)) hl hul hC';refine⟨C',λD σ H'=>t {nx:=λ_ _=>False,rt:=λv H'=>v=g s' u∧H'=hid H (bi cl)} σ H'∧∀v H2,v=g s' u∧H2=hid H (bi cl)→D.rt v H2,?_,h5,λv H2 ⟨e1,e2⟩=>⟨e2,by rw[e1];exact q⟩⟩;intro pins s0 σ H' D I ⟨h6,h8⟩;refine thn (h4 pins s0 σ H' _ I h6) λfl s1 e=>?_;cases fl with
  |ret u=>obtain⟨v,σ',H2,I2,rv,e⟩:=e;exact tM v σ' H2 I2 rv (h8 v H2 e)
  |next=>obtain⟨_,_,_,e⟩:=e;exact False.elim e
  |brk=>obtain⟨_,_,_,e⟩:=e;exact False.elim e
  |cont=>obtain⟨_,_,_,e⟩:=e;exact False.elim e
 ·obtain⟨o,h1,h2⟩:=h.1.fn;exact tO o _ h1 h2
def nj(P:Program)(w:World)(K:fG)(mg:Str→Option Value)(base:Heap)(C:Addr)(tabs:List (Addr×Str))(kw:Nat):Sp:=λvs H Q _=>∃(p f:Addr) (a:Su111.Abs) (CH:Hp→Prop) (g:List Nat→List Nat→Bool),vs=[.ref p,.ref f]∧cW C H p a∧Lr.a0 a∧Lr.vol a.rooms≤27∧a.m≤4 ∧
 m6 P w K mg base kw f a CH (λs u=>.bl (g s u))∧CH H∧aQ tabs H ∧
 ∀(H':Hp) (q:Addr),de H H'→iO H H'→aQ tabs H'→H' q=some (.lst (iV (fr (a.often g))))→H q=none→Q (.ref q) H'
theorem scOften:ap ["self","happens"] ["self","happens"] (ag ip):=⟨rfl,rfl,rfl,by decide +kernel,rfl,by decide +kernel,by decide +kernel⟩
theorem pM{f C:Addr}{fd:FuncData}{kw:Nat}{tabs:List (Addr×Str)}(F:Fun K "how_often" "LongRun.how_often" ip f fd)(T:lM K mg C)(LK:aY K C "looked_for" "LongRun.looked_for" kO ["self","worth"])(MK:dy K tabs fd jv)(hf:Func tabs)(hB:BAt mg base)(DL:aN K mg "lowest" sLow ["above","below"])(DGc:aN K mg "common_measure" sGcd ["one","other"])(hzip:mg "zip" = none)(hsum:mg "sum" = none):aZ P w K mg base CX0 (kw+5) f fd ["self","happens"] (nj P w K mg base C tabs kw):=by
 obtain⟨cc,Tb,ec,hcd,hmem⟩:=MK.ex;refine gz (k:=kw+4) F scOften (λvs H Q E h=>?_) (λA outer s H vs Q E hr h=>?_)
 ·obtain⟨p,f,a,CH,g,rfl,_⟩:=h;rfl
 ·obtain⟨p,f2,a,CH,g,rfl,R,hv,hvol,hm4,W,hCH,tk,k⟩:=h;refine tF _ (ah (aj (dj [("happens",1)] (λp hp=>by simp at hp;subst hp;exact tS rfl rfl rfl) (pv 0) T.cl LK.M (ok_look (kw:=kw+1) LK.F T DL DGc hzip hsum) hr LK.b (aa (iz (T:=Tb) (q:=jv) hB ec hcd rfl (show ∀y∈(iY ["happens"]).names,y.2=.free→(ag ip).names.lookup y.1=some .cell∨(ag ip).names.lookup y.1=some .free by decide +kernel)) ae)))) ?_;obtain⟨dx,pf,ph,ps,fs,hs,d,Z,hp,_⟩:=R.ex;refine tQ _ rfl p dx (t8 _ rfl hp rfl (tk _ hmem) (λfn c' ctv H1 M=>λH3 Sh=>?_));have hσ:∀p'∈([("happens",1)]:List (Str×Nat)),∃v,([some (V.ref p),some (V.ref f2)]:L2.St)[p'.2]?=some (some v):=λp' hp'=>by simp at hp';subst hp';exact⟨_,rfl⟩
  have m1:de H H1:=M.mild (tk _ hmem);have t1:aQ tabs H1:=tk.made hf hmem M;have S:iN ["filling","ups","works","happens"] psW ["happens"] (iY ["happens"]):=⟨rfl,rfl,rfl,by decide +kernel,rfl,by decide +kernel,by decide +kernel,by decide +kernel,by decide +kernel⟩
  obtain⟨C3,hcl,hcn⟩:=fM (cap:=[("happens",1)]) (vs:=[V.ref f2]) S M.fn M.code rfl rfl rfl Sh (λi p' hi=>by
   cases i with
   |zero=>cases hi;exact tF _ rfl rfl
   |succ i=>simp at hi) rfl
  have W':=dz (P:=P) (w:=w) (K:=K) (mg:=mg) (base:=base) (k:=kw) (f:=fn) (a:=a) (CH:=CH) (g:=λs u=>V.int (if g s u=true then 1 else 0)) (N:=["filling","ups","works","happens"]) (fv:=["happens"]) (fvs:=[V.ref f2]) C3 rfl rfl rfl rfl (ck.all (λus hl=>match us,hl with|[_,_,_],_=>rfl)) hcl S W.mild (λA outer s H pf pu pw s' u hr h1 h2 h3 hl hul hC'=>by
   obtain⟨fdw,hbw,Fw⟩:=W.ex;refine tF _ (pC (di (pF (k:=kw) (ps:=psW) (i:=3) (pv 3) hr (aa (pv 0) (aa (pv 1) (aa (pv 2) ae))))) al al) ?_;refine tK f2 rfl (W.fn _ hC') (ur _ rfl _ rfl _ (ue rfl (W.fn _ hC') fdw _ Fw hbw (tY pf pu pw s' (t8 u rfl h1 h2 h3 (ui hl hul hC' _ rfl ?_)))));cases eg:g s' u with
   |true=>exact⟨rfl,rfl⟩
   |false=>exact⟨rfl,rfl⟩)
  refine tU p fn (tM a _ _ rfl (R.mild (m1.trans (ao.mild Sh.same))) (tN hv hvol hm4 W' ⟨C3,W.mild _ _ hCH (m1.trans (ao.mild (o7 hcn Sh.same)))⟩ (λs u _=>by split<;>omega) (λSx Tx hb H4 r s4 hr4 hn4 hfr=>?_)));rw[Lr.iB hv hb g]at hr4;have sb:=Sh.back hσ s4;refine k _ r (m1.trans (ao.mild sb)) (M.back.trans (Sh.backB hσ (ao.back s4))) (t1.same sb) ?_ (M.there (Sh.same.free hn4));rw[aV λz=>?_]
  ·exact hr4
  ·obtain⟨_,o,z2,_⟩:=Sh.none hσ r z;rw[hn4]at z2;cases z2
theorem ixN_last{n:Nat}(h:0<n):ixN n (-1)=some (n-1):=by
 unfold ixN;rw[if_neg (by omega),if_pos (by omega)];congr 1;omega
theorem lG{l:List Nat}(h:0<l.length):atI (nV l) (-1)=some (V.int (l.getD (l.length-1) 0:Nat)):=by
 unfold atI;rw[aD,ixN_last h];exact cP (by omega)
theorem wk_bl{a:Su111.Abs}{s u:List Nat}{j:Nat}(h:j<a.m):V.bl (decide (V.int (((wk a s u).getD j 0:Nat):Int)=V.int 1))=V.bl ((a.works s u).getD j false):=by
 rw[lY h];cases (a.works s u).getD j false<;>rfl
def o0(C:Addr)(tabs:List (Addr×Str)):Sp:=λvs H Q _=>∃(p:Addr) (a:Su111.Abs),vs=[.ref p]∧cW C H p a∧Lr.a0 a∧Lr.vol a.rooms≤27∧a.m≤4∧aQ tabs H ∧
 ∀(H':Hp) (q:Addr),de H H'→iO H H'→aQ tabs H'→H' q=some (.lst (iV (fr a.out)))→H q=none→Q (.ref q) H'
theorem scOften0:ap ["self"] ["self"] (ag gQ):=⟨rfl,rfl,rfl,by decide +kernel,rfl,by decide +kernel,by decide +kernel⟩
theorem ok_often0{f C:Addr}{fd:FuncData}{tabs:List (Addr×Str)}(F:Fun K "how_often_out" "LongRun.how_often_out" gQ f fd)(T:lM K mg C)(LK:aY K C "looked_for" "LongRun.looked_for" kO ["self","worth"])(OF:aY K C "how_often" "LongRun.how_often" ip ["self","happens"])(MK:dy K tabs OF.fd jv)(MK0:dy K tabs fd i6)(hf:Func tabs)(hB:BAt mg base)(DL:aN K mg "lowest" sLow ["above","below"])(DGc:aN K mg "common_measure" sGcd ["one","other"])(hzip:mg "zip" = none)(hsum:mg "sum" = none):aZ P w K mg base CX0 8 f fd ["self"] (o0 C tabs):=by
 obtain⟨cc,Tb,ec,hcd,hmem⟩:=MK0.ex;refine gz (k:=7) F scOften0 (λvs H Q E h=>?_) (λA outer s H vs Q E hr h=>?_)
 ·obtain⟨p,a,rfl,_⟩:=h;rfl
 ·obtain⟨p,a,rfl,R,hv,hvol,hm4,tk,k⟩:=h;refine tF _ (ah (aj (dj [] (λp hp=>by simp at hp) (pv 0) T.cl OF.M (pM (kw:=1) OF.F T LK MK hf hB DL DGc hzip hsum) (hr.mono (by decide)) OF.b (aa (iz (T:=Tb) (q:=i6) hB ec hcd rfl (show ∀y∈(iY []).names,y.2=.free→(ag gQ).names.lookup y.1=some .cell∨(ag gQ).names.lookup y.1=some .free by decide +kernel)) ae)))) ?_;obtain⟨dx,pf,ph,ps,fs,hs,d,Z,hp,_⟩:=R.ex;refine tQ _ rfl p dx (t8 _ rfl hp rfl (tk _ hmem) (λfn c' ctv H1 M=>λH3 Sh=>?_));have hσ:∀p'∈([]:List (Str×Nat)),∃v,([some (V.ref p)]:L2.St)[p'.2]?=some (some v):=λp' hp'=>by simp at hp'
  have m1:de H H1:=M.mild (tk _ hmem);have t1:aQ tabs H1:=tk.made hf hmem M;have S:iN ["filling","ups","works"] psW [] (iY []):=⟨rfl,rfl,rfl,by decide +kernel,rfl,by decide +kernel,by decide +kernel,by decide +kernel,by decide +kernel⟩
  obtain⟨C3,hcl,hcn⟩:=fM (cap:=[]) (vs:=[]) S M.fn M.code rfl rfl rfl Sh (λi p' hi=>by simp at hi) rfl;have hm0:0<a.m:=by have:=hv.len;show 0<a.chances.length;omega
  have W':=dz (P:=P) (w:=w) (K:=K) (mg:=mg) (base:=base) (k:=0) (f:=fn) (a:=a) (CH:=λ_=>True) (g:=λs u=>V.bl ((a.works s u).getD (a.m-1) false)) (N:=["filling","ups","works"]) (fv:=[]) (fvs:=[]) C3 rfl rfl rfl rfl (ck.all (λus hl=>match us,hl with|[_,_,_],_=>rfl)) hcl S (λ_ _ _ _=>trivial) (λA outer s H pf pu pw s' u hr h1 h2 h3 hl hul hC'=>by
   refine tF _ (b8 bH (aU aA (pv 2) (jX fY al) (λ_ _=>rfl)) al (aO _)) ?_;refine tF _ rfl (tV _ rfl pw _ _ _ (tN rfl rfl (SqL.of h3) (lG (by rw[dA];exact hm0)) rfl ?_ rfl));rw[dA];exact wk_bl (by omega))
  refine tU p fn (tM a _ (λs u=>(a.works s u).getD (a.m-1) false) rfl (R.mild (m1.trans (ao.mild Sh.same))) (tN hv hvol hm4 W' ⟨C3,trivial⟩ (t1.same Sh.same) (λH4 r m4 b4 t4 hr4 hn4 hfr=>?_)));have e0:cT ([]:List (Str×Addr)) []=[]:=rfl;have e1:∀cells,cT cells []=[]:=λ_=>rfl;rw[e1,hid_nil];refine k _ r (m1.trans ((ao.mild Sh.same).trans m4)) (M.back.trans ((ao.back Sh.same).trans b4)) t4 hr4 (M.there (Sh.same.free hn4))
end
end My
end
section
namespace My
open PySem PySem.Spec PyProof.Rows L2
section
variable {prog:Program} {w:World} {G:Type} [DecidableEq G] (kd:KeyKind prog w G)
def cD(h:Heap):List (List G)→List Value→Prop
 |[],[]=>True
 |k::ks,v::vs=>(∃b,v=.ref b∧IsTupleKey kd h k b)∧cD h ks vs
 |_,_=>False
def c8(h:Heap)(ks:List (List G))(a:Addr):Prop:=∃ob its n,h.get? a=some ob∧ob.cls=.type "tuple"∧ob.data=.seq its n∧cD kd h ks its.toList
variable {kd}
theorem cD.inj{h:Heap}:∀{x y:List (List G)} {vs:List Value},cD kd h x vs→cD kd h y vs→x=y
 |[],[],[],_,_=>rfl
 |_::_,[],[],p,_=>p.elim
 |[],_::_,[],_,q=>q.elim
 |[],_,_::_,p,_=>p.elim
 |_::_,[],_::_,_,q=>q.elim
 |a::x,b::y,v::vs,p,q=>by
  obtain⟨⟨c,e1,p1⟩,p2⟩:=p;obtain⟨⟨c',e2,q1⟩,q2⟩:=q;rw[e1]at e2;cases e2;rw[p1.inj q1,cD.inj p2 q2]
 |_::_,_::_,[],p,_=>p.elim
theorem cD.keeps{h h':Heap}{d:Addr}{ob:Obj}{es ep}(ho:h.get? d=some ob)(hd:ob.data=.dict es ep)(hs:Heap.SameBut d h h'):∀{x:List (List G)} {vs:List Value},cD kd h x vs→cD kd h' x vs
 |[],[],_=>True.intro
 |[],_::_,p=>p.elim
 |_::_,[],p=>p.elim
 |a::x,v::vs,p=>⟨let ⟨c,e,q⟩:=p.1;⟨c,e,q.keeps ho hd hs⟩,cD.keeps ho hd hs p.2⟩
theorem c8.ty{s:Shared}{ks:List (List G)}{a:Addr}(p:c8 kd s.heap ks a):s.TypeIs (.ref a) "tuple":=let ⟨ob,_,_,ho,hc,_⟩:=p;⟨ob,ho,hc⟩
theorem c8.inj{h:Heap}{a:Addr}{x y:List (List G)}(p:c8 kd h x a)(q:c8 kd h y a):x=y:=by
 obtain⟨ob,its,n,ho,_,hd,hi⟩:=p;obtain⟨ob',its',n',ho',_,hd',hi'⟩:=q;have e:ob=ob':=Option.some.inj (ho.symm.trans ho');subst e;rw[hd]at hd';injection hd' with e1 _;subst e1;exact hi.inj hi'
theorem c8.keeps{h h':Heap}{ks:List (List G)}{a d:Addr}{o:Obj}{es ep}(p:c8 kd h ks a)(ho:h.get? d=some o)(hd:o.data=.dict es ep)(hs:Heap.SameBut d h h'):c8 kd h' ks a:=by
 obtain⟨ob,its,n,hob,hc,hdo,hi⟩:=p;have ne:a≠d:=by
  intro z;subst z;have e:ob=o:=Option.some.inj (hob.symm.trans ho);subst e;rw[hd]at hdo;cases hdo
 exact tI ob its n ((hs.2 a ne).trans hob) hc hdo (hi.keeps ho hd hs)
def ld(kd:KeyKind prog w G)(ks:List (List G)):Int:=reduceHash (Builtin.Tuple.tupleHashOf (ks.map (tupleKeyHash kd)))
def gV(ks:List (List G)):Nat:=(ks.map λk=>k.length+1).sum+1
variable {A:Around} {E:Value→Shared→Prop} {s:Shared}
theorem pS{ks:List (List G)}{a:Addr}{Q:Int→Shared→Prop}(room:A.units+1<cLine)(p:c8 kd s.heap ks a)(q:Q (ld kd ks) {s with toks:=s.toks+gV ks}):wpAny (model prog w) A (pyHash (.ref a)) Q E s:=by
 have ty:=p.ty;obtain⟨ob,its,n,hob,_,hdo,hi⟩:=p;unfold pyHash
 first|unfold pyHashByItsType|skip
 first|refine wpAny_bind (wpAny_cRoomFor_or (.inr (by omega)) ?_)|skip
 refine wpAny_bind (wpAny_specialOf ty F.slot_tuple_hash.lookup ?_);show wpAny _ _ (if (some (Value.builtin "tuple.__hash__")==some Value.none)=true then _ else _) _ _ _;rw[if_neg (by rw[beq_builtin_none];simp)];refine wpAny_bind (wpAny_specialOf ty F.slot_tuple_hash.lookup ?_);show wpAny _ _ (callSpecialIfBoundUnlessNone? (.ref a) "__hash__" _ >>= _) _ _ _;refine wpAny_bind (wpAny_callSpecialIfBoundUnlessNone?_slot ty F.slot_tuple_hash (wpAny_call_entry F.slot_tuple_hash ty F.entry_tuple_hash ?goal (F.args_tuple_hash_1 _)))
 case goal =>
  show wpAny _ _ (Builtin.Tuple.tupleItemsOf (.ref a) >>= _) _ _ _;refine wpAny_bind (wpAny_tupleItemsOf hob hdo ?_);refine wpAny_bind ?_;rw[←Array.forIn_toList];refine wpAny_forIn_list _
   (λrest (b:Array Int) s'=>∃pre left,ks=pre++left∧cD kd s.heap left rest∧b.toList=pre.map (tupleKeyHash kd)∧s'={s with toks:=s.toks+(pre.map λk=>k.length+1).sum})
   _ ?turn ?fin _ _ (tP [] ks rfl hi rfl rfl)
  case turn =>
   rintro v rest b s' ⟨pre,left,e1,hl,hb,e2⟩;subst e2;cases left with
   |nil=>exact hl.elim
   |cons k left =>
    obtain⟨⟨c,ec,hk⟩,hl2⟩:=hl;subst ec;refine wpAny_bind (wpAny_pyHash_tuple (show A.in1.units<cLine from room) hk ?_);have e3:s.toks+(pre.map λk=>k.length+1).sum+(k.length+1)=s.toks+((pre++[k]).map λk=>k.length+1).sum:=by
     rw[sQ,List.sum_append];simp;omega
    refine wpAny_pure (tP (pre++[k]) left (by rw[e1];simp) hl2 (by simp[hb]) ?_);show({s with toks:=s.toks+(pre.map λk=>k.length+1).sum+(k.length+1)}:Shared)=_;rw[e3]
  case fin =>
   rintro b s' ⟨pre,left,e1,hl,hb,e2⟩;subst e2;cases left with
   |cons k left=>exact hl.elim
   |nil =>
    rw[rT]at e1;subst e1;show wpAny _ _ (retInt (Builtin.Tuple.tupleHashOf b.toList)) _ _ _;rw[hb];refine wpAny_ret_mkInt ?_;have eT:s.toks+(ks.map λk=>k.length+1).sum+1=s.toks+gV ks:=by
     unfold gV;omega
    show wpAny _ _ (if (decide (-(2:Int)^63≤Builtin.Tuple.tupleHashOf (ks.map (tupleKeyHash kd)))&&decide (Builtin.Tuple.tupleHashOf (ks.map (tupleKeyHash kd))<2^63))=true then _ else _) Q E _;unfold ld reduceHash at q;by_cases hr:(decide (-(2:Int)^63≤Builtin.Tuple.tupleHashOf (ks.map (tupleKeyHash kd)))&&decide (Builtin.Tuple.tupleHashOf (ks.map (tupleKeyHash kd))<2^63))=true
    ·rw[if_pos hr]at q ⊢;refine wpAny_pure ?_;show Q _ {s with toks:=s.toks+(ks.map λk=>k.length+1).sum+1};rw[eT];exact q
    ·rw[if_neg hr]at q ⊢;refine wpAny_bind (wpAny_rule (wpAny_pure ?_));show Q _ {s with toks:=s.toks+(ks.map λk=>k.length+1).sum+1};rw[eT];exact q
theorem nY{x y:List (List G)}{a b:Addr}{Z:Fin→Shared→Prop}(room:A.units<cLine)(p:c8 kd s.heap x a)(p':c8 kd s.heap y b)(q:Z (.done (.ret (.bool (decide (x=y))))) s):wpAny (model prog w) A (Builtin.«tuple.__eq__» ⟨[.ref a,.ref b],[]⟩) Z E s:=by
 have ty:=p'.ty;obtain⟨oa,xs,na,hoa,_,hda,hia⟩:=p;obtain⟨ob,ys,nb,hob,_,hdb,hib⟩:=p';show wpAny _ _ (isInstance (.ref b) (.type "tuple") >>= _) _ _ _;refine wpAny_bind (wpAny_isInstance ty isSubtype_tuple_tuple ?_);simp only[Bool.not_true,sw,if_false];refine wpAny_bind (wpAny_tupleItemsOf hoa hda (wpAny_bind (wpAny_tupleItemsOf hob hdb (wpAny_bind ?_))));refine wpAny_forIn_list _
  (λrest r s'=>r.1=none∧s'=s∧∃x' y' xs' ys',rest=List.zip xs' ys'∧cD kd s.heap x' xs'∧cD kd s.heap y' ys'∧decide (x'=y')=decide (x=y)∧(xs'.length==ys'.length)=(xs.size==ys.size))
  _ ?turn ?fin _ _ (uu rfl rfl x y xs.toList (t8 ys.toList rfl hia hib rfl (by simp)))
 case turn =>
  rintro ⟨u,v⟩ rest r s' ⟨hr,es,x',y',xs',ys',hz,hx',hy',hdec,hlen⟩;subst es;cases x' with
  |nil =>
   cases xs' with
   |nil=>simp at hz
   |cons _ _=>exact hx'.elim
  |cons k1 x'' =>
   cases xs' with
   |nil=>exact hx'.elim
   |cons u' xs'' =>
    cases y' with
    |nil =>
     cases ys' with
     |nil=>simp at hz
     |cons _ _=>exact hy'.elim
    |cons k2 y'' =>
     cases ys' with
     |nil=>exact hy'.elim
     |cons v' ys'' =>
      simp only[List.zip_cons_cons,List.cons.injEq,Prod.mk.injEq]at hz;obtain⟨⟨eu,ev⟩,er⟩:=hz;subst eu ev er;obtain⟨⟨c1,e1,g1⟩,hx2⟩:=hx';obtain⟨⟨c2,e2,g2⟩,hy2⟩:=hy';subst e1 e2;refine wpAny_bind (wpAny_eqBool_tuple (x:=k1) (y:=k2) room g1 g2 ?_);by_cases hk:k1=k2
      ·subst hk;rw[decide_eq_true rfl];simp only[Bool.not_true,sw,if_false];refine wpAny_pure (uu rfl rfl x'' y'' xs'' (t8 ys'' rfl hx2 hy2 ?_ (by simpa using hlen)));rw[←hdec];by_cases hxy:x''=y''
       ·simp[hxy]
       ·simp[hxy]
      ·rw[decide_eq_false hk];simp only[Bool.not_false,if_true];have hf:decide (x=y)=false:=by rw[←hdec];simp[hk]
       rw[hf]at q;exact wpAny_bind (wpAny_pure (wpAny_pure (wpAny_pure q)))
 case fin =>
  rintro ⟨r1,r2⟩ s' ⟨hr,es,x',y',xs',ys',hz,hx',hy',hdec,hlen⟩;subst es;simp only at hr;subst hr;refine wpAny_pure ?_;have hfin:(xs.size==ys.size)=decide (x=y):=by
   rw[←hdec,←hlen];cases x' with
   |nil =>
    cases xs' with
    |cons _ _=>exact hx'.elim
    |nil =>
     cases y' with
     |nil =>
      cases ys' with
      |nil=>simp
      |cons _ _=>exact hy'.elim
     |cons _ _ =>
      cases ys' with
      |nil=>exact hy'.elim
      |cons _ _=>simp
   |cons _ _ =>
    cases xs' with
    |nil=>exact hx'.elim
    |cons _ _ =>
     cases y' with
     |nil =>
      cases ys' with
      |nil=>simp
      |cons _ _=>exact hy'.elim
     |cons _ _ =>
      cases ys' with
      |nil=>exact hy'.elim
      |cons _ _=>simp at hz
  show Z (.done (.ret (.bool (xs.size==ys.size)))) s';rw[hfin];exact q
theorem pT{x y:List (List G)}{a b:Addr}{Q:Bool→Shared→Prop}(room:A.units+1<cLine)(p:c8 kd s.heap x a)(p':c8 kd s.heap y b)(q:Q (decide (x=y)) s):wpAny (model prog w) A (eqBool (.ref a) (.ref b)) Q E s:=by
 unfold eqBool
 try with_reducible refine wpAny_holding ?_
 show wpAny _ _ (if (Value.ref a==Value.ref b)=true then _ else _) _ _ _;by_cases hab:(Value.ref a==Value.ref b)=true
 ·rw[if_pos hab];have e:a=b:=by
   have z:=eq_of_beq hab;injection z
  subst e;have exy:=p.inj p';subst exy;exact wpAny_bind (wpAny_rule (wpAny_pure (by simpa using q)))
 ·rw[if_neg hab];refine wpAny_bind (wpAny_richCompare_same_room (op:=.Eq) p.ty p'.ty F.slot_tuple_eq (wpAny_call_entry F.slot_tuple_eq p.ty F.entry_tuple_eq ?_ (F.args_tuple_eq_2 _ _)) (show A.units<cLine by omega));exact nY (show A.in1.units<cLine from room) p p' (tK _ rfl (λe=>nomatch e) (wpAny_truthy_bool q))
theorem ra{ks:List G}{a:Addr}(n:Nat){Q:Bool→Shared→Prop}(p:IsTupleKey kd s.heap ks a)(q:Q true s):wpAny (model prog w) A (eqIsQuiet (n+1) (.ref a)) Q E s:=by
 have ty:=p.typeIs;obtain⟨ob,its,k,hob,_,hdo,hi⟩:=p;unfold eqIsQuiet;refine wpAny_bind (wpAny_specialOf ty F.slot_tuple_eq.lookup ?_);show wpAny _ _ (isInstance (.ref a) (.type "tuple") >>= _) _ _ _;refine wpAny_bind (wpAny_isInstance ty isSubtype_tuple_tuple ?_);simp only[Bool.not_true,sw,if_false];refine wpAny_bind (wpAny_seqItems hob hdo (wpAny_bind ?_));show wpAny _ _ (forIn its _ _) _ _ _;rw[←Array.forIn_toList];refine wpAny_forIn_list _ (λrest r s'=>r.1=none∧s'=s∧∀v∈rest,carriedByValue v=true) _ ?turn ?fin _ _ (tS rfl rfl hi.byValue)
 case turn =>
  rintro v rest r s' ⟨hr,es,hall⟩;subst es;rw[eqIsQuiet_byValue _ (hall v (by simp))];refine wpAny_bind (wpAny_pure ?_);simp only[Bool.not_true,sw,if_false];exact wpAny_pure (tS rfl rfl (λu hu=>hall u (by simp[hu])))
 case fin =>
  rintro ⟨r1,r2⟩ s' ⟨hr,es,_⟩;subst es;simp only at hr;subst hr;exact wpAny_pure q
theorem qO{ks:List (List G)}{a:Addr}{Q:Bool→Shared→Prop}(p:c8 kd s.heap ks a)(q:Q true s):wpAny (model prog w) A (eqIsQuiet 8 (.ref a)) Q E s:=by
 have ty:=p.ty;obtain⟨ob,its,k,hob,_,hdo,hi⟩:=p;unfold eqIsQuiet;refine wpAny_bind (wpAny_specialOf ty F.slot_tuple_eq.lookup ?_);show wpAny _ _ (isInstance (.ref a) (.type "tuple") >>= _) _ _ _;refine wpAny_bind (wpAny_isInstance ty isSubtype_tuple_tuple ?_);simp only[Bool.not_true,sw,if_false];refine wpAny_bind (wpAny_seqItems hob hdo (wpAny_bind ?_));show wpAny _ _ (forIn its _ _) _ _ _;rw[←Array.forIn_toList];refine wpAny_forIn_list _ (λrest r s'=>r.1=none∧s'=s∧∃left,cD kd s.heap left rest) _ ?turn ?fin _ _ ⟨rfl,uj rfl ks hi⟩
 case turn =>
  rintro v rest r s' ⟨hr,es,left,hl⟩;subst es;cases left with
  |nil=>exact hl.elim
  |cons k left =>
   obtain⟨⟨c,ec,hk⟩,hl2⟩:=hl;subst ec;refine wpAny_bind (ra 6 hk ?_);simp only[Bool.not_true,sw,if_false];exact wpAny_pure ⟨rfl,uj rfl left hl2⟩
 case fin =>
  rintro ⟨r1,r2⟩ s' ⟨hr,es,_⟩;subst es;simp only at hr;subst hr;exact wpAny_pure q
end
def gi{prog:Program}{w:World}{G:Type}[DecidableEq G](kd:KeyKind prog w G):HeapKind prog w (List (List G)) where
 is:=c8 kd
 hash:=ld kd
 draws:=gV
 room:=λA=>A.units+1<cLine
 inj:=λp q=>p.inj q
 keeps:=λp ho hd hs=>p.keeps ho hd hs
 pyHash:=λr p q=>pS r p q
 eqBool:=λr p p' q=>pT r p p' q
 quiet:=λp q=>qO p q
abbrev NK:=List (List Key)
def knO(P:Program)(w:World)(d:Addr)(xs:List (NK×Addr×Value)):HO:=.ext λh=>(d==sysModules)=false∧∃o es ep,h.get? d=some o∧o.ExactDict∧o.data=.dict es ep∧es.toList=xs.map (entryOfKey (gi (bB P w)))∧(xs.map (·.1)).Nodup
theorem knO_ok{P:Program}{w:World}{H:Hp}{h:Heap}{d:Addr}{xs:List (NK×Addr×Value)}(hd:(d==sysModules)=false)(x:∃o es ep,h.get? d=some o∧o.ExactDict∧o.data=.dict es ep∧es.toList=xs.map (entryOfKey (gi (bB P w)))∧(xs.map (·.1)).Nodup):bI P w H h d (knO P w d xs):=by
 refine tS ⟨hd,x⟩ ?_ ?_
 ·obtain⟨o,_,_,e,_⟩:=x;exact⟨o,e⟩
 ·rintro h1 h2 ⟨hd,o,es,ep,e,r⟩ k;exact⟨hd,t6 o es ep (k o e) r⟩
def fR(H:Hp)(b:Addr)(k1 k2:List Key):Prop:=∃t1 t2,H b=some (.tup [.ref t1,.ref t2])∧H t1=some (.tup (k1.map kV))∧H t2=some (.tup (k2.map kV))
theorem fR.same{H H':Hp}{b:Addr}{k1 k2:List Key}(x:fR H b k1 k2)(e:∀b xs,H b=some (.tup xs)→H' b=some (.tup xs)):fR H' b k1 k2:=let ⟨t1,t2,h1,h2,h3⟩:=x;⟨t1,t2,e _ _ h1,e _ _ h2,e _ _ h3⟩
def hE(H:Hp)(xs:List (NK×Addr×Value)):Prop:=∀x∈xs,∃k1 k2,x.1=[k1,k2]∧fR H x.2.1 k1 k2
section
variable {P:Program} {w:World} {H:Hp} {h:Heap}
theorem kl{b:Addr}{k1 k2:List Key}(ok:HOk P w H h)(x:fR H b k1 k2):(gi (bB P w)).is h [k1,k2] b:=by
 obtain⟨t1,t2,e,e1,e2⟩:=x;obtain⟨_,its,r,o,h1,h2,n,h3⟩:=(show bI P w H h b (.tup [.ref t1,.ref t2]) from ok b _ e)
 cases r with
 |cons r1 rr =>
  cases rr with
  |cons r2 rr =>
   cases rr;cases r1;cases r2;exact tI o _ n h1 h2 h3 (tS (tF t1 rfl (iD ok e1)) (tF t2 rfl (iD ok e2)) trivial)
theorem kn_of{d:Addr}{xs:List (NK×Addr×Value)}(ok:HOk P w H h)(e:H d=some (knO P w d xs))(all:hE H xs):(d==sysModules)=false∧h.DictOfH (gi (bB P w)) d xs:=by
 obtain⟨⟨hd,o,es,ep,e1,e2,e3,e4,e5⟩,_⟩:=ok d _ e;refine⟨hd,tU o es (tJ ep e1 e2 e3 e4 (λx hx=>?_) e5)⟩;obtain⟨k1,k2,q1,q2⟩:=all x hx;rw[q1];exact kl ok q2
end
def tNNotIn(P:Program)(w:World)(ty td:TE):TE:=λσ H Q=>ty σ H λy H1=>td σ H1 λx H2=>∃d b xs k1 k2,x=.ref d∧y=.ref b∧H2 d=some (knO P w d xs)∧hE H2 xs∧fR H2 b k1 k2∧Q (.bl (!(atKey xs [k1,k2]).isSome)) H2
def tNGet(P:Program)(w:World)(td ty:TE):TE:=λσ H Q=>td σ H λx H1=>ty σ H1 λy H2=>∃d b xs k1 k2 q r,x=.ref d∧y=.ref b∧H2 d=some (knO P w d xs)∧hE H2 xs∧fR H2 b k1 k2∧atKey xs [k1,k2]=some (q,.ref r)∧Q (.ref r) H2
def sNPut(P:Program)(w:World)(td ty tv:TE):TS:=λD σ H=>tv σ H λv H1=>td σ H1 λx H2=>ty σ H2 λy H3=>∃d b xs k1 k2 r,x=.ref d∧y=.ref b∧v=.ref r∧H3 d=some (knO P w d xs)∧hE H3 xs∧fR H3 b k1 k2∧xs.length≤1000000∧D.nx σ (upd H3 d (knO P w d (storedH xs [k1,k2] b (.ref r))))
def tNNew(P:Program)(w:World):TE:=λ_ H Q=>∀p,H p=none→Q (.ref p) (upd H p (knO P w p []))
section
variable {X:Cx} {o i e value:Expr} {pos pos' tpos:Pos} {td ty tv:TE}
theorem nroom{A:Around}{P:Program}{w:World}(hu:A.units+64<cLine):(gi (bB P w)).room A.in1:=by
 show A.units+1+1<cLine;omega
theorem pe_nnew:PE X (.Dict [] [] pos) (tNNew X.prog X.w):=λpins s σ H Q I h =>
 wpAny_Dict_empty (tH (.ref s.heap.objs.size) _ (I.laid (a:=s.heap.objs.size) (o:=knO X.prog X.w s.heap.objs.size []) (t':=s.toks) (λ_ _ q=>rJ _ q) (rL _) (knO_ok (beq_eq_false_iff_ne.mpr (Ne.symm (rm I.big))) ⟨_,tG (#[]) 0 (rK _ rfl) (tS rfl rfl rfl) rfl rfl List.nodup_nil⟩)) rfl (h _ (I.hok.fresh (rL _))))
theorem pc_nnotin(hu:X.A.units+64<cLine)(hi:PE X i ty)(ho:PE X o td):PC X .NotIn i o (tNNotIn X.prog X.w ty td):=by
 intro pins s σ H Q I h;refine thn (hi pins s σ H _ I h) λiv s1 ⟨y,H1,I1,ry,q1⟩=>thn (ho pins s1 σ H1 _ I1 q1) λu s2 ⟨x,H2,I2,rx,d,b,xs,k1,k2,ex,ey,e,all,nv,q2⟩=>?_;subst ex ey;obtain rfl:u=Value.ref d:=rx;obtain rfl:iv=Value.ref b:=ry;obtain⟨hd,dd⟩:=kn_of I2.hok e all;exact wpAny_notIn_heap (nroom hu) (kl I2.hok nv) hd dd (tH (.bl (!(atKey xs [k1,k2]).isSome)) H2 (I2.tok _) rfl q2)
theorem pe_nget(hu:X.A.units+64<cLine)(ho:PE X o td)(hi:PE X i ty)(hs:NoSl i):PE X (.Subscript o i pos) (tNGet X.prog X.w td ty):=by
 intro pins s σ H Q I h;refine subD_of PySem.F.slot_dict_getitem.lookup hs (thn (ho pins s σ H _ I h) λu s1 ⟨x,H1,I1,rx,q1⟩=>thn (hi pins s1 σ H1 _ I1 q1) λiv s2 ⟨y,H2,I2,ry,d,b,xs,k1,k2,q,r,ex,ey,e,all,nv,at_,q2⟩=>?_);subst ex ey;obtain rfl:u=Value.ref d:=rx;obtain rfl:iv=Value.ref b:=ry;obtain⟨hd,dd⟩:=kn_of I2.hok e all;exact⟨dd.typeIs,wpAny_getItem_heap (nroom hu) (kl I2.hok nv) dd at_ (tH (.ref r) H2 (I2.tok _) rfl q2)⟩
theorem ps_nput(hu:X.A.units+64<cLine)(ho:PE X o td)(hi:PE X i ty)(hv:PE X value tv)(hs:swapsWith value (some (.Subscript o i pos')) pos.line X.env=pure false):PS X (.Assign [.Subscript o i pos'] value pos) (sNPut X.prog X.w td ty tv):=by
 intro pins s σ H D I h;refine wpAny_Assign_Subscript (thn (hv pins s σ H _ I h) λrv s1 ⟨v,H1,I1,rr,q1⟩=>thn (ho pins s1 σ H1 _ I1 q1) λu s2 ⟨x,H2,I2,rx,q2⟩=>thn (hi pins s2 σ H2 _ I2 q2) λiv s3 ⟨y,H3,I3,ry,d,b,xs,k1,k2,r,ex,ey,ev,e,all,nv,hl,q3⟩=>?_) hs;subst ex ey ev;obtain rfl:u=Value.ref d:=rx;obtain rfl:iv=Value.ref b:=ry;obtain rfl:rv=Value.ref r:=rr;obtain⟨hd,dd⟩:=kn_of I3.hok e all;refine wpAny_setItem_heap (hsz:=rq hl (by decide)) (nroom hu) (kl I3.hok nv) dd λh' dd' hs=>tO σ _ ?_ q3
 obtain⟨q,es,ep,hq,h2,h3,h4,_,h5⟩:=dd';exact kt I3 (by rw[e];exact True.intro) hs ⟨q,hq⟩ (knO_ok hd ⟨q,tG es ep hq h2 h3 h4 h5⟩)
end
def fN(CR:Addr)(G:Hp)(xs:List (NK×Addr×Value)):Prop:=∀y∈xs,∃(cs hs:List Nat) (r:Addr),y.1=[aq cs,aq hs]∧fR G y.2.1 (aq cs) (aq hs)∧y.2.2=.ref r∧cW CR G r ⟨cs,hs,[]⟩
def dJ(P:Program)(w:World)(CR:Addr)(H G:Hp)(d:Addr)(n:Nat):Prop:=∃xs:List (NK×Addr×Value),H d=some (knO P w d xs)∧xs.length≤n∧fN CR G xs
theorem cW.but{C d:Addr}{H H':Hp}{p:Addr}{a:Su111.Abs}(x:cW C H p a)(e:∀b o,H b=some o→(plain o=true∨∃C dx fs,o=.ins C dx fs)→H' b=some o):cW C H' p a:=by
 obtain⟨dx,pf,ph,ps,fs,hs,d,Z,h1,LF,AH,h2,F⟩:=x.ex;exact⟨dx,pf,ph,ps,fs,hs,d,Z,e _ _ h1 (.inr ⟨_,tU _ _ rfl⟩),⟨e _ _ LF.lst (.inl rfl),LF.len,λi r l a b=>e _ _ (LF.at_ i r l a b) (.inl rfl)⟩,
  ⟨e _ _ AH.lst (.inl rfl),AH.len,λi h hh=>let ⟨rs,x⟩:=AH.at_ i h hh;⟨rs,e _ _ x.lst (.inl rfl),x.len,λi r u x1 y1=>let ⟨pu,pw,g1,g2,g3,n⟩:=x.at_ i r u x1 y1;⟨pu,pw,e _ _ g1 (.inl rfl),e _ _ g2 (.inl rfl),e _ _ g3 (.inl rfl),n⟩⟩⟩,e _ _ h2 (.inl rfl),F⟩
theorem fN.keep{CR:Addr}{G G':Hp}{xs:List (NK×Addr×Value)}(x:fN CR G xs)(e:∀b o,G b=some o→(plain o=true∨∃C dx fs,o=.ins C dx fs)→G' b=some o):fN CR G' xs:=λy hy=>by
 obtain⟨cs,hs,r,q1,q2,q3,q4⟩:=x y hy;exact tI cs hs r q1 (q2.same λb ys z=>e b _ z (.inl rfl)) q3 (q4.but (d:=r) e)
theorem cW.hide{C:Addr}{H:Hp}{p:Addr}{a:Su111.Abs}{bad:List Addr}(x:cW C H p a)(hb:∀b∈bad,∀o,H b=some o→plain o=false)(hp:p∉bad):cW C (hid H bad) p a:=by
 have nb:∀b o,H b=some o→plain o=true→hid H bad b=some o:=λb o e ho=>by
  rw[aV λz=>by rw[hb b z o e]at ho;cases ho];exact e
 obtain⟨dx,pf,ph,ps,fs,hs,d,Z,h1,LF,AH,h2,F⟩:=x.ex;exact⟨dx,pf,ph,ps,fs,hs,d,Z,by rw[aV hp];exact h1,⟨nb _ _ LF.lst rfl,LF.len,λi r l a b=>nb _ _ (LF.at_ i r l a b) rfl⟩,
  ⟨nb _ _ AH.lst rfl,AH.len,λi h hh=>let ⟨rs,x⟩:=AH.at_ i h hh;⟨rs,nb _ _ x.lst rfl,x.len,λi r u x1 y1=>let ⟨pu,pw,g1,g2,g3,n⟩:=x.at_ i r u x1 y1;⟨pu,pw,nb _ _ g1 rfl,nb _ _ g2 rfl,nb _ _ g3 rfl,n⟩⟩⟩,nb _ _ h2 rfl,F⟩
structure Adr where
 c:Addr
 h:Addr
 f:Addr
 d:Addr
def bv(x:Adr):List (Str×V):=[("chances",.ref x.c),("holds",.ref x.h),("filling",.ref x.f),("known_runs",.ref x.d)]
def own(x:Adr)(p:Addr):List Addr:=[p,x.c,x.h,x.f,x.d]
structure ba(P:Program)(w:World)(CM CR:Addr)(H:Hp)(p:Addr)(x:Adr)(a:Su111.Abs)(n:Nat):Prop where
 ins:∃dx,H p=some (.ins CM dx (bv x))
 c:H x.c=some (.lst (nV a.chances))
 h:H x.h=some (.lst (nV a.rooms))
 f:H x.f=some (.lst (nV a.now))
 kn:dJ P w CR H (hid H (own x p)) x.d n
 n1:x.c≠x.h
 n2:x.c≠x.f
 n3:x.h≠x.f
structure be(K:fG)(mg:Str→Option Value)(C:Addr):Prop where
 cl:Cls K C
 n1:c7 K C "chances"
 n2:c7 K C "holds"
 n3:c7 K C "filling"
 n4:c7 K C "known_runs"
 mgC:mg "MachineLine" = some (.ref C)
theorem d3(x:Adr):(bv x).lookup ("chances" : Str)=some (V.ref x.c):=rfl
theorem eK(x:Adr):(bv x).lookup ("holds" : Str)=some (V.ref x.h):=rfl
theorem lk_f(x:Adr):(bv x).lookup ("filling" : Str)=some (V.ref x.f):=rfl
theorem lk_d(x:Adr):(bv x).lookup ("known_runs" : Str)=some (V.ref x.d):=rfl
structure Txt(K:fG)(mg:Str→Option Value) where
 DP:aN K mg "product" ib ["numbers"]
 DN:aN K mg "hour_cases" iq ["chances"]
 DE:aN K mg "every_choice" kP ["limits"]
 DL:aN K mg "likely_hours" fC ["chances","holds","filling"]
 DW:aN K mg "who_works" sWho ["ups","holds","filling"]
 DH:aN K mg "has_piece" sHas ["machine","filling"]
 DG:aN K mg "weight_of" eP ["ups","chances"]
 DS:aN K mg "solution" sSol ["rows"]
 DT:aN K mg "triangle" sTri ["rows"]
 DC:aN K mg "cleared" ga ["row","by","place","divisor"]
 DB:aN K mg "balance_rows" sBal ["moves","cases"]
 DM:aN K mg "move_weights" ju ["fillings","hours"]
 DA:aN K mg "filling_after" gb ["works","filling"]
 DLo:aN K mg "lowest" sLow ["above","below"]
 DGc:aN K mg "common_measure" sGcd ["one","other"]
 hlen:mg "len" = none
 hrange:mg "range" = none
 hzip:mg "zip" = none
 henum:mg "enumerate" = none
 htup:mg "tuple" = none
 hlist:mg "list" = none
 hsum:mg "sum" = none
 hmax:mg "max" = none
 hany:mg "any" = none
 hrev:mg "reversed" = none
structure oF(K:fG)(mg:Str→Option Value) where
 C:Addr
 T:lM K mg C
 I:aY K C "__init__" "LongRun.__init__" f9 ["self","chances","holds"]
 Mk:Mk K C I.f
abbrev kN:Stmt:=inClass (top 41) 13
abbrev i4:Stmt:=inClass (top 41) 14
section
variable {P:Program} {w:World} {K:fG} {mg:Str→Option Value} {base:Heap}
structure j7(cs hs:List Nat):Prop where
 v:Lr.a0 ⟨cs,hs,[]⟩
 vol:Lr.vol hs≤27
 m:cs.length≤4
def spRunOf(P:Program)(w:World)(K:fG)(CM CR:Addr):Sp:=λvs H Q _=>∃(p pc ph:Addr) (x:Adr) (a:Su111.Abs) (n:Nat) (cs hs:List Nat),vs=[.ref p,.ref pc,.ref ph]∧ba P w CM CR H p x a n∧n≤100000∧SqL K H pc (nV cs)∧SqL K H ph (nV hs)∧j7 cs hs ∧
 ∀(H':Hp) (r:Addr),cW CR H' r ⟨cs,hs,[]⟩→dJ P w CR H' (hid H' (own x p)) x.d (n+1)→But x.d H H'→Q (.ref r) H'
abbrev nRunOf:List Str:=["self","chances","holds","key"]
theorem scRunOf:ap nRunOf ["self","chances","holds"] (ag kN):=⟨rfl,rfl,rfl,by decide +kernel,rfl,by decide +kernel,by decide +kernel⟩
theorem pK(Tx:Txt K mg)(R:oF K mg):aZ P w K mg base CX0 4 R.I.f R.I.fd ["self","chances","holds"] (mi K R.C) :=
 qL R.I.F R.T Tx.DP Tx.DN Tx.DE Tx.DL Tx.DW Tx.DH Tx.DG Tx.DS Tx.DT Tx.DC Tx.DB Tx.DM Tx.DA Tx.hlen Tx.hrange Tx.hzip Tx.henum Tx.htup Tx.hlist Tx.hsum
theorem atKey_mem{xs:List (NK×Addr×Value)}{k:NK}{q:Addr×Value}(h:atKey xs k=some q):(k,q)∈xs:=by
 unfold atKey at h;cases e:xs.find? λx=>decide (x.1=k) with
 |none=>rw[e]at h;cases h
 |some y =>
  rw[e]at h;have h1:=List.mem_of_find?_eq_some e;have h2:=List.find?_some e;have h2:y.1=k:=of_decide_eq_true h2;have h3:y.2=q:=Option.some.inj h;rw[←h2,←h3];exact h1
theorem lq{H H':Hp}(cs:List Addr)(e:ao H H'):ao (hid H cs) (hid H' cs):=λb o q=>by
 obtain⟨h1,h2⟩:=dl q;rw[aV h1];exact e _ _ h2
theorem kq{H:Hp}(cs:List Addr):ao (hid H cs) H:=λb o q=>(dl q).2
theorem pJ{f CM:Addr}{fd:FuncData}(F:Fun K "run_of" "MachineLine.run_of" kN f fd)(T:be K mg CM)(Tx:Txt K mg)(R:oF K mg):aZ P w K mg base CX0 6 f fd ["self","chances","holds"] (spRunOf P w K CM R.C):=by
 refine F.ok scRunOf (λvs H Q E h=>?_) (λcdv A outer s H vs Q E hr h=>?_)
 ·obtain⟨p,pc,ph,x,a,n,cs,hs,rfl,_⟩:=h;rfl
 ·obtain⟨p,pc,ph,x,a,n,cs,hs,rfl,L,hn,hc,hh,G,k⟩:=h;have hu:=hr.units;refine tF _ (ad (aC (i:=3) scRunOf.nd rfl (Or.inl rfl) (nO (aa (da cy rfl Tx.htup (by decide +kernel) (aa (pv 1) ae)) (aa (da cy rfl Tx.htup (by decide +kernel) (aa (pv 2) ae)) ae))))
   (ad (bh (pt_cmp (pc_nnotin hu (pv 3) (ax (pv 0) rfl))) (ah (ps_nput hu (ax (pv 0) rfl) (pv 3) (nQ (nQ (nQ (pe_make R.Mk (pK Tx R) hr rfl R.T.mgC R.I.b .nil az (aa (aU iE (pv 3) al (λ_ _=>rfl)) (aa (aU iE (pv 3) al (λ_ _=>rfl)) ae)))))) rfl)) aI)
   (ah (aj (pe_nget hu (ax (pv 0) rfl) (pv 3) (λ_ _=>rfl)))))) ?_
  obtain⟨dx,hp⟩:=L.ins;obtain⟨xs,hx,hxl,hxa⟩:=L.kn;refine uo _ rfl pc _ rfl (.inl ⟨hc,λt1 ht1=>?_⟩);have s1:ao H (upd H t1 (.tup (nV cs))):=ay ht1;refine uo _ rfl ph _ rfl (.inl ⟨s1.seq hh,λt2 ht2=>?_⟩);have s2:ao H (upd (upd H t1 (.tup (nV cs))) t2 (.tup (nV hs))):=s1.trans (ay ht2);have e1:(upd (upd H t1 (.tup (nV cs))) t2 (.tup (nV hs))) t1=some (.tup (nV cs)):=by rw[af (ai (show(upd H t1 (.tup (nV cs))) t1=some _ from ac) ht2)];exact ac
  have e2:(upd (upd H t1 (.tup (nV cs))) t2 (.tup (nV hs))) t2=some (.tup (nV hs)):=ac;generalize upd (upd H t1 (.tup (nV cs))) t2 (.tup (nV hs))=H2 at s2 e1 e2;refine⟨(by show 2≤sizeLine;decide),λkey hkey=>?_⟩;have s3:ao H (upd H2 key (.tup [.ref t1,.ref t2])):=s2.trans (ay hkey);have s23:ao H2 (upd H2 key (.tup [.ref t1,.ref t2])):=ay hkey;have e3:(upd H2 key (.tup [.ref t1,.ref t2])) key=some (.tup [.ref t1,.ref t2]):=ac;generalize upd H2 key (.tup [.ref t1,.ref t2])=H3 at s3 s23 e3;have nv:fR H3 key (aq cs) (aq hs):=tH t1 t2 e3 (by rw[fI];exact s23 _ _ e1) (by rw[fI];exact s23 _ _ e2)
  have K3:fN R.C (hid H3 (own x p)) xs:=hxa.keep λb o z _=>lq _ s3 _ _ z;have na:hE H3 xs:=λy hy=>let ⟨cs,hs,r,q1,q2,_⟩:=K3 y hy;⟨_,_,q1,q2.same λb ys z=>kq _ _ _ z⟩;have p3:=s3 _ _ hp;have c3:=s3 _ _ L.c;have h3:=s3 _ _ L.h;have f3:=s3 _ _ L.f;have x3:=s3 _ _ hx;refine⟨_,rfl,_,rfl,p,CM,dx,_,_,rfl,p3,T.cl,T.n4,lk_d x,x.d,key,xs,aq cs,aq hs,rfl,rfl,x3,na,nv,?_⟩;refine⟨_,rfl,?_⟩;cases ek:atKey xs [aq cs,aq hs] with
  |some q =>
   refine tQ _ rfl p CM (tM dx _ _ rfl p3 (ui T.cl T.n4 (lk_d x) _ rfl ?_));obtain⟨cs',hs',r,q1,q2,q3,q4⟩:=K3 _ (atKey_mem ek);have z1:aq cs=aq cs':=by injection q1
   have z2:aq hs=aq hs':=by injection q1 with _ z;injection z
   have z1:=cN z1;have z2:=cN z2;subst z1 z2;obtain⟨qa,qv⟩:=q;have q3:qv=.ref r:=q3;subst q3;refine⟨x.d,tZ key xs (aq cs) (aq hs) qa r (tN rfl rfl x3 na nv ek ?_)⟩;exact k H3 r (q4.but (d:=r) λb o z _=>kq _ _ _ z) (tK xs x3 (by omega) K3) λb o z _=>s3 _ _ z
  |none =>
   refine tH x.c (.lst (nV a.chances)) c3 trivial (λo1=>tH x.h (.lst (nV a.rooms)) (by rw[af L.n1.symm];exact h3) trivial (λo2=>tH x.f (.lst (nV a.now)) (by rw[af L.n3.symm,af L.n2.symm];exact f3) trivial (λo3=>?_)));have lc:(upd (upd (upd H3 x.c (.frz o1 (.lst (nV a.chances)))) x.h (.frz o2 (.lst (nV a.rooms)))) x.f (.frz o3 (.lst (nV a.now)))) x.c=some (.frz o1 (.lst (nV a.chances))):=by rw[af L.n2,af L.n1];exact ac
   have lh:(upd (upd (upd H3 x.c (.frz o1 (.lst (nV a.chances)))) x.h (.frz o2 (.lst (nV a.rooms)))) x.f (.frz o3 (.lst (nV a.now)))) x.h=some (.frz o2 (.lst (nV a.rooms))):=by rw[af L.n3];exact ac
   have lf:(upd (upd (upd H3 x.c (.frz o1 (.lst (nV a.chances)))) x.h (.frz o2 (.lst (nV a.rooms)))) x.f (.frz o3 (.lst (nV a.now)))) x.f=some (.frz o3 (.lst (nV a.now))):=ac;have lo:∀b,b≠x.c→b≠x.h→b≠x.f→(upd (upd (upd H3 x.c (.frz o1 (.lst (nV a.chances)))) x.h (.frz o2 (.lst (nV a.rooms)))) x.f (.frz o3 (.lst (nV a.now)))) b=H3 b:=λb z1 z2 z3=>by rw[af z3,af z2,af z1]
   generalize upd (upd (upd H3 x.c (.frz o1 (.lst (nV a.chances)))) x.h (.frz o2 (.lst (nV a.rooms)))) x.f (.frz o3 (.lst (nV a.now)))=HL at lc lh lf lo;have ll:∀b o,H3 b=some o→(∀l,o≠.lst l)→HL b=some o:=λb o e ne=>by
    rw[lo b (λz=>by rw[z,c3]at e;exact ne _ (Option.some.inj e).symm) (λz=>by rw[z,h3]at e;exact ne _ (Option.some.inj e).symm) (λz=>by rw[z,f3]at e;exact ne _ (Option.some.inj e).symm)];exact e
   have eL:=ll _ _ e3 (λ_ z=>nomatch z);have t1L:=ll _ _ (s23 _ _ e1) (λ_ z=>nomatch z);have t2L:=ll _ _ (s23 _ _ e2) (λ_ z=>nomatch z);have pL:=ll _ _ p3 (λ_ z=>nomatch z);have dL:=ll _ _ x3 (λ_ z=>nomatch z);refine tQ _ rfl key _ (tH _ _ rfl rfl (t9 (SqT.of eL) rfl _ rfl key _ (tG _ _ rfl rfl (SqT.of eL) rfl (λrx rdx nrx nrdx ne=>?_))));refine tU rx rdx (t6 t1 t2 ⟨cs,hs,[]⟩ rfl (tN ac (.inr (SqT.of ?_)) (.inr (SqT.of ?_)) G.v G.vol G.m (λH4 RA B4=>⟨rfl,?_⟩)))
   ·rw[af (ai t1L nrx),af (ai t1L nrdx)];exact t1L
   ·rw[af (ai t2L nrx),af (ai t2L nrdx)];exact t2L
   ·have sL:ao HL H4:=ao.made nrx nrdx B4;have RH:cW R.C (hid H4 (own x p)) rx ⟨cs,hs,[]⟩:=by
     refine RA.hide (λb hb o e=>?_) (λhb=>?_)
     ·unfold own at hb;simp at hb;rcases hb with rfl|rfl|rfl|rfl|rfl
      ·rw[sL _ _ pL]at e;cases e;rfl
      ·rw[sL _ _ lc]at e;cases e;rfl
      ·rw[sL _ _ lh]at e;cases e;rfl
      ·rw[sL _ _ lf]at e;cases e;rfl
      ·rw[sL _ _ dL]at e;cases e;rfl
     ·unfold own at hb;simp at hb;rcases hb with rfl|rfl|rfl|rfl|rfl
      ·rw[pL]at nrx;cases nrx
      ·rw[lc]at nrx;cases nrx
      ·rw[lh]at nrx;cases nrx
      ·rw[lf]at nrx;cases nrx
      ·rw[dL]at nrx;cases nrx
    refine ud (sL _ _ lf) (by rw[af L.n3];exact sL _ _ lh) (by rw[af L.n1,af L.n2];exact sL _ _ lc) ?_;have u1:∀b,b≠x.c→b≠x.h→b≠x.f→(upd (upd (upd H4 x.f (.lst (nV a.now))) x.h (.lst (nV a.rooms))) x.c (.lst (nV a.chances))) b=H4 b:=λb z1 z2 z3=>by rw[af z1,af z2,af z3]
    have uc:(upd (upd (upd H4 x.f (.lst (nV a.now))) x.h (.lst (nV a.rooms))) x.c (.lst (nV a.chances))) x.c=some (.lst (nV a.chances)):=ac;have uh:(upd (upd (upd H4 x.f (.lst (nV a.now))) x.h (.lst (nV a.rooms))) x.c (.lst (nV a.chances))) x.h=some (.lst (nV a.rooms)):=by rw[af L.n1.symm];exact ac
    have uf:(upd (upd (upd H4 x.f (.lst (nV a.now))) x.h (.lst (nV a.rooms))) x.c (.lst (nV a.chances))) x.f=some (.lst (nV a.now)):=by rw[af L.n2.symm,af L.n3.symm];exact ac
    generalize upd (upd (upd H4 x.f (.lst (nV a.now))) x.h (.lst (nV a.rooms))) x.c (.lst (nV a.chances))=H6 at u1 uc uh uf;have eh:hid H6 (own x p)=hid H4 (own x p):=by
     funext b;by_cases hb:b∈own x p
     ·rw[fK hb,fK hb]
     ·rw[aV hb,aV hb];have hb:¬b∈[p,x.c,x.h,x.f,x.d]:=hb;simp at hb;exact u1 b hb.2.1 hb.2.2.1 hb.2.2.2.1
    have s36:ao H3 H6:=λb o e=>by
     by_cases z1:b=x.c
     ·subst z1;rw[c3]at e;cases e;exact uc
     ·by_cases z2:b=x.h
      ·subst z2;rw[h3]at e;cases e;exact uh
      ·by_cases z3:b=x.f
       ·subst z3;rw[f3]at e;cases e;exact uf
       ·rw[u1 b z1 z2 z3];exact sL _ _ (by rw[lo b z1 z2 z3];exact e)
    have s6:=s3.trans s36;have K6:fN R.C (hid H6 (own x p)) xs:=K3.keep λb o z _=>lq _ s36 _ _ z;have na6:hE H6 xs:=λy hy=>let ⟨cs,hs,r,q1,q2,_⟩:=K6 y hy;⟨_,_,q1,q2.same λb ys z=>kq _ _ _ z⟩;have nv6:fR H6 key (aq cs) (aq hs):=nv.same λb ys z=>s36 _ _ z;rw[←eh]at RH;refine⟨_,rfl,p,CM,dx,_,_,rfl,s6 _ _ hp,T.cl,T.n4,lk_d x,_,rfl,x.d,key,xs,aq cs,aq hs,rx,rfl,rfl,rfl,s6 _ _ hx,na6,nv6,by omega,?_⟩;rw[storedH_new ek];have notup:∀b∈own x p,∀ys,H6 b≠some (.tup ys):=λb hb ys e=>by
     unfold own at hb;simp at hb;rcases hb with rfl|rfl|rfl|rfl|rfl
     ·rw[s6 _ _ hp]at e;cases e
     ·rw[uc]at e;cases e
     ·rw[uh]at e;cases e
     ·rw[uf]at e;cases e
     ·rw[s6 _ _ hx]at e;cases e
    have xdo:x.d∈own x p:=by unfold own;simp
    have s5:∀b o,H6 b=some o→b≠x.d→(upd H6 x.d (knO P w x.d (xs++[([aq cs,aq hs],key,.ref rx)]))) b=some o:=λb o z hz=>by rw[af hz];exact z
    have h5:(upd H6 x.d (knO P w x.d (xs++[([aq cs,aq hs],key,.ref rx)]))) x.d=some (knO P w x.d (xs++[([aq cs,aq hs],key,.ref rx)])):=ac;have e5:hid (upd H6 x.d (knO P w x.d (xs++[([aq cs,aq hs],key,.ref rx)]))) (own x p)=hid H6 (own x p):=by
     funext b;by_cases hb:b∈own x p
     ·rw[fK hb,fK hb]
     ·rw[aV hb,aV hb,af (λz=>hb (by rw[z];exact xdo))]
    have nvh:fR (hid H6 (own x p)) key (aq cs) (aq hs):=nv6.same λb ys z=>by
     rw[aV λhb=>notup b hb ys z];exact z
    have K5:fN R.C (hid (upd H6 x.d (knO P w x.d (xs++[([aq cs,aq hs],key,.ref rx)]))) (own x p)) (xs++[([aq cs,aq hs],key,Value.ref rx)]):=λy hy=>by
     rw[e5];rcases rD.mp hy with hy|hy
     ·exact K6 y hy
     ·have hy:y=([aq cs,aq hs],key,Value.ref rx):=by simpa using hy
      subst hy;exact tI cs hs rx rfl nvh rfl RH
    have ak:atKey (xs++[([aq cs,aq hs],key,Value.ref rx)]) [aq cs,aq hs]=some (key,.ref rx):=by
     unfold atKey at ek ⊢;rw[List.find?_append];cases ef:xs.find? λx=>decide (x.1=[aq cs,aq hs]) with
     |some y=>rw[ef]at ek;cases ek
     |none=>simp
    have pd:p≠x.d:=a9 (s6 _ _ hp) (s6 _ _ hx) (λz=>nomatch z);have sub5:ao (hid (upd H6 x.d (knO P w x.d (xs++[([aq cs,aq hs],key,.ref rx)]))) (own x p)) (upd H6 x.d (knO P w x.d (xs++[([aq cs,aq hs],key,.ref rx)]))):=kq _;refine⟨_,rfl,p,CM,dx,_,_,rfl,s5 _ _ (s6 _ _ hp) pd,T.cl,T.n4,lk_d x,_,rfl,x.d,key,_,aq cs,aq hs,key,rx,rfl,rfl,h5,(λy hy=>let ⟨cs,hs,r,q1,q2,_⟩:=K5 y hy;⟨_,_,q1,q2.same λb ys z=>sub5 _ _ z⟩),(by rw[←e5]at nvh;exact nvh.same λb ys z=>sub5 _ _ z),ak,?_⟩;refine k _ rx (by rw[←e5]at RH;exact RH.but (d:=rx) λb o z _=>sub5 _ _ z) ⟨_,h5,by rw[r9];show xs.length+1≤n+1;omega,K5⟩ (λb o z hb=>s5 _ _ (s6 _ _ z) hb)
def mj(P:Program)(w:World)(K:fG)(CM CR:Addr):Sp:=λvs H Q _=>∃(p:Addr) (x:Adr) (a:Su111.Abs) (n:Nat),vs=[.ref p]∧ba P w CM CR H p x a n∧n≤100000∧j7 a.chances a.rooms ∧
 ∀(H':Hp) (r:Addr),cW CR H' r ⟨a.chances,a.rooms,[]⟩→dJ P w CR H' (hid H' (own x p)) x.d (n+1)→But x.d H H'→Q (.ref r) H'
theorem scLongRun:ap ["self"] ["self"] (ag i4):=⟨rfl,rfl,rfl,by decide +kernel,rfl,by decide +kernel,by decide +kernel⟩
theorem qM{f CM:Addr}{fd:FuncData}(F:Fun K "long_run" "MachineLine.long_run" i4 f fd)(T:be K mg CM)(Tx:Txt K mg)(R:oF K mg)(RO:aY K CM "run_of" "MachineLine.run_of" kN ["self","chances","holds"]):aZ P w K mg base CX0 7 f fd ["self"] (mj P w K CM R.C):=by
 refine F.ok scLongRun (λvs H Q E h=>?_) (λcdv A outer s H vs Q E hr h=>?_)
 ·obtain⟨p,x,a,n,rfl,_⟩:=h;rfl
 ·obtain⟨p,x,a,n,rfl,L,hn,G,k⟩:=h;refine tF _ (ah (aj (bM (pv 0) T.cl RO.M (pJ RO.F T Tx R) hr RO.b .nil az (aa (ax (pv 0) rfl) (aa (ax (pv 0) rfl) ae))))) ?_;obtain⟨dx,hp⟩:=L.ins;refine tF _ rfl (tI p dx _ rfl hp rfl (tV _ rfl p CM dx _ (tJ _ rfl hp T.cl T.n1 (d3 x) (tV _ rfl p CM dx _ (tJ _ rfl hp T.cl T.n2 (eK x) ?_)))));exact tU p x.c (tZ x.h x a n a.chances a.rooms (tN rfl L hn (SqL.of L.c) (SqL.of L.h) G k))
end
abbrev sIsC:Stmt:=top 37
abbrev sIsR:Stmt:=top 38
abbrev sMany:Stmt:=top 39
abbrev sChg:Stmt:=top 40
structure dY(mg:Str→Option Value)(x:Str)(v:Int) where
 t:Tok
 h:mg x=some (.int v t)
section
variable {P:Program} {w:World} {K:fG} {mg:Str→Option Value} {base:Heap}
def spIn(hi:Nat):Sp:=λvs H Q _=>∃(n:Nat),vs=[.int n]∧Q (.bl (decide (1≤n)&&decide (n≤hi))) H
theorem scIsC:ap ["number"] ["number"] (ag sIsC):=⟨rfl,rfl,rfl,by decide +kernel,rfl,by decide +kernel,by decide +kernel⟩
theorem scIsR:ap ["number"] ["number"] (ag sIsR):=⟨rfl,rfl,rfl,by decide +kernel,rfl,by decide +kernel,by decide +kernel⟩
theorem in_read{hi n:Nat}{H:Hp}{Q:VK}(q:Q (.bl (decide (1≤n)&&decide (n≤hi))) H):tChain (rI0 λi j=>.bl (decide (i≤j))) (rI0 λi j=>.bl (decide (i≤j))) (tC (.int 1)) (dc 0) (tC (.int (hi:Int))) [some (.int (n:Int))] H Q:=by
 refine tF _ rfl (ug _ _ rfl rfl _ rfl ?_);by_cases h:1≤n
 ·rw[decide_eq_true h,Bool.true_and]at q;refine bT (decide_eq_true (by omega)) (tH _ _ rfl rfl ?_);have e:decide ((n:Int)≤(hi:Int))=decide (n≤hi):=decide_eq_decide.mpr (by omega);show Q (.bl (decide ((n:Int)≤(hi:Int)))) H;rw[e];exact q
 ·rw[decide_eq_false h,Bool.false_and]at q;exact bF (decide_eq_false (by omega)) q
theorem ok_isC{f:Addr}{fd:FuncData}(F:Fun K "is_chance" "is_chance" sIsC f fd)(N9:dY mg "MOST_CHANCE" 9):aZ P w K mg base CX0 1 f fd ["number"] (spIn 9):=by
 refine F.ok scIsC (λvs H Q E h=>?_) (λcdv A outer s H vs Q E hr h=>?_)
 ·obtain⟨n,rfl,_⟩:=h;rfl
 ·obtain⟨n,rfl,q⟩:=h;exact tF _ (ah (aj (pE op_le op_le al (pv 0) (a8 (v:=.int 9) rfl N9.h ⟨_,rfl⟩)))) (in_read (hi:=9) q)
theorem ok_isR{f:Addr}{fd:FuncData}(F:Fun K "is_room" "is_room" sIsR f fd)(N8:dY mg "MOST_HELD" 8):aZ P w K mg base CX0 1 f fd ["number"] (spIn 8):=by
 refine F.ok scIsR (λvs H Q E h=>?_) (λcdv A outer s H vs Q E hr h=>?_)
 ·obtain⟨n,rfl,_⟩:=h;rfl
 ·obtain⟨n,rfl,q⟩:=h;exact tF _ (ah (aj (pE op_le op_le al (pv 0) (a8 (v:=.int 8) rfl N8.h ⟨_,rfl⟩)))) (in_read (hi:=8) q)
def up1(l:List Nat):List Nat:=l.map λr=>r+1
theorem kX:∀(l:List Nat) (c:Nat),(iV ((up1 l).map λ(n:Nat)=>(n:Int))=nV (up1 l))∧((up1 l).map λ(n:Nat)=>(n:Int)).foldl (λx y=>x*y) (c:Int)=((c*Lr.vol l:Nat):Int)
 |[],c=>by
  refine⟨rfl,?_⟩;show(c:Int)=((c*1:Nat):Int);rw[Nat.mul_one]
 |r::l,c=>by
  refine⟨by unfold iV nV;rw[sN];rfl,?_⟩;have ih:=(kX l (c*(r+1))).2;show((up1 l).map λ(n:Nat)=>(n:Int)).foldl (λx y=>x*y) ((c:Int)*((r+1:Nat):Int))=((c*((r+1)*Lr.vol l):Nat):Int);rw[←tw,ih,Nat.mul_assoc]
def spMany(K:fG):Sp:=λvs H Q _=>∃(a:Addr) (l:List Nat),vs=[.ref a]∧SqL K H a (nV l)∧l.length≤100∧(∀r,r∈l→r<2^60)∧∀H',ao H H'→Q (.bl (decide (27<Lr.vol l))) H'
abbrev nMany:List Str:=["holds","hold"]
theorem scMany:ap nMany ["holds"] (ag sMany):=⟨rfl,rfl,rfl,by decide +kernel,rfl,by decide +kernel,by decide +kernel⟩
theorem nU{f:Addr}{fd:FuncData}(F:Fun K "too_many_fillings" "too_many_fillings" sMany f fd)(DP:aN K mg "product" ib ["numbers"])(N27:dY mg "MOST_FILLINGS" 27):aZ P w K mg base CX0 2 f fd ["holds"] (spMany K):=by
 refine F.ok scMany (λvs H Q E h=>?_) (λcdv A outer s H vs Q E hr h=>?_)
 ·obtain⟨a,l,rfl,_⟩:=h;rfl
 ·obtain⟨a,l,rfl,hS,hl,hb,k⟩:=h;refine tF _ (ah (aj (b8 k5 (aJ (nS DP.F) hr rfl DP.mgf DP.F.kp DP.b .nil az (aa (fi (own:=[("hold",1)]) rfl scMany.nd (bZ (pv 0)) (show db nMany (ag sMany) _ [("hold",1)] from⟨rfl,by decide +kernel,by decide +kernel,by decide +kernel,by decide +kernel⟩) (λ_ _ _ _ _=>aw (i:=1) scMany.nd rfl (Or.inl rfl)) (λ_ _ _ _ _=>bY) (λ_ _ _ _ _=>aT cB (pv 1) al)) ae)) (a8 (v:=.int 27) rfl N27.h ⟨_,rfl⟩) (aO _)))) ?_;refine uq _ rfl a rfl ⟨_,hS⟩ (λD hD=>d6 (K:=K) (a:=a) (xs:=nV l) (λi H'=>H'=upd H D (.lst (nV (up1 (l.take i))))) rfl (λi H' _ e=>by rw[e];exact(ay hD).seq hS) ?_ ?_)
  ·rintro i x H' hx rfl;obtain⟨r,hr2,rfl⟩:=jA hx;refine⟨rfl,uo _ rfl _ _ rfl (uk rfl _ ac ?_ ?_)⟩
   ·rw[aD];unfold up1;rw[rR,rX];have:=(rE.mp hr2).1;exact sA (Nat.min_le_left _ _) (rh (show i<100 by omega) (by decide))
   ·rw[bX,sTake hr2];unfold nV up1;rw[sQ,sQ];rfl
  ·rintro H' rfl;rw[aD,tm];refine tP D ((up1 l).map λ(n:Nat)=>(n:Int)) rfl ?_ ?_ ?_
   ·rw[(kX l 1).1];exact SqL.of ac
   ·intro n hn;obtain⟨m,hm,rfl⟩:=sv.mp hn;obtain⟨r,hr2,rfl⟩:=sv.mp hm;have:=hb r hr2;have e60:(2:Nat)^60=1152921504606846976:=by decide
    have e64:(2:Int)^64=18446744073709551616:=by decide
    rw[e64];rw[e60]at this;omega
   ·have e:=(kX l 1).2;rw[Nat.one_mul]at e;unfold i8;have e1:((1:Nat):Int)=1:=rfl;rw[e1]at e;rw[e];refine tH _ _ rfl rfl ?_;have e2:decide ((27:Int)<((Lr.vol l:Nat):Int))=decide (27<Lr.vol l):=decide_eq_decide.mpr (by omega);show Q (.bl (decide ((27:Int)<((Lr.vol l:Nat):Int)))) _;rw[e2];exact k _ (ay hD)
def spChg(K:fG):Sp:=λvs H Q _=>∃(a:Addr) (l:List Nat) (i v:Nat),vs=[.ref a,.int i,.int v]∧SqL K H a (nV l)∧i<l.length∧∀q,H q=none→Q (.ref q) (upd H q (.lst (nV (l.set i v))))
abbrev nChg:List Str:=["numbers","place","number","changed"]
theorem scChg:ap nChg ["numbers","place","number"] (ag sChg):=⟨rfl,rfl,rfl,by decide +kernel,rfl,by decide +kernel,by decide +kernel⟩
theorem ok_chg{f:Addr}{fd:FuncData}(F:Fun K "changed_at" "changed_at" sChg f fd)(hlist:mg "list" = none):aZ P w K mg base CX0 1 f fd ["numbers","place","number"] (spChg K):=by
 refine F.ok scChg (λvs H Q E h=>?_) (λcdv A outer s H vs Q E hr h=>?_)
 ·obtain⟨a,l,i,v,rfl,_⟩:=h;rfl
 ·obtain⟨a,l,i,v,rfl,hS,hi,k⟩:=h;refine tF _ (ad (aC (i:=3) scChg.nd rfl (Or.inl rfl) (da jk rfl hlist (by decide +kernel) (aa (pv 0) ae))) (ad (iw (pv 2) (iy (pv 3) (pv 1) eA)) (ah (aj (pv 3))))) ?_;refine tW _ rfl a _ rfl (.inl hS) (λq hq=>?_);refine tF _ rfl (ur _ rfl _ rfl q (t6 _ _ i rfl (ui rfl ac (fJ (by rw[aD];exact hi)) _ rfl ?_)));rw[bX,nV_set];exact k q hq
end
abbrev mth(i:Nat):Stmt:=inClass (top 41) i
structure Out(P:Program)(w:World)(CM CR:Addr)(tabs:List (Addr×Str))(H H':Hp)(p:Addr)(x x':Adr)(a':Su111.Abs)(n':Nat)(q:Addr)(ans:List Int):Prop where
 line:ba P w CM CR H' p x' a' n'
 tabs:aQ tabs H'
 keep:∀b o,H b=some o→b∉own x p→fQ o=false→H' b=some o
 moved:∀b∈own x' p,b∈own x p∨H b=none
 ans:H' q=some (.lst (iV ans))
 fresh:H q=none
 back:iO H H'
def e9(r:Su111.Ans):List Int:=r.value::r.out
structure dv(a:Su111.Abs):Prop where
 v:Lr.a0 a
 vol:Lr.vol a.rooms≤27
 m:a.m≤4
 fits:Lr.cu a.rooms a.now
theorem dv.l{a:Su111.Abs}(g:dv a):j7 a.chances a.rooms:=⟨⟨g.v.len,g.v.chance,g.v.room⟩,g.vol,g.m⟩
section
variable {P:Program} {w:World} {K:fG} {mg:Str→Option Value} {base:Heap} {CM CR:Addr} {tabs:List (Addr×Str)}
theorem dJ.mono{H G:Hp}{d:Addr}{n n':Nat}(h:dJ P w CR H G d n)(e:n≤n'):dJ P w CR H G d n':=let ⟨xs,h1,h2,h3⟩:=h;⟨xs,h1,rq h2 e,h3⟩
theorem dJ.same{H H':Hp}{d:Addr}{n:Nat}{l:List Addr}(h:dJ P w CR H (hid H l) d n)(e:ao H H'):dJ P w CR H' (hid H' l) d n:=let ⟨xs,h1,h2,h3⟩:=h;⟨xs,e _ _ h1,h2,h3.keep λb o z _=>lq _ e _ _ z⟩
theorem ba.same{H H':Hp}{p:Addr}{x:Adr}{a:Su111.Abs}{n:Nat}(L:ba P w CM CR H p x a n)(e:ao H H'):ba P w CM CR H' p x a n :=
 ⟨let ⟨dx,h⟩:=L.ins;⟨dx,e _ _ h⟩,e _ _ L.c,e _ _ L.h,e _ _ L.f,L.kn.same e,L.n1,L.n2,L.n3⟩
theorem ba.mono{H:Hp}{p:Addr}{x:Adr}{a:Su111.Abs}{n n':Nat}(L:ba P w CM CR H p x a n)(e:n≤n'):ba P w CM CR H p x a n':=⟨L.ins,L.c,L.h,L.f,L.kn.mono e,L.n1,L.n2,L.n3⟩
theorem dR{H H':Hp}{p q:Addr}{x:Adr}{a:Su111.Abs}{n:Nat}{ans:List Int}(L:ba P w CM CR H p x a n)(tk:aQ tabs H)(e:ao H H')(hq:H' q=some (.lst (iV ans)))(hn:H q=none):Out P w CM CR tabs H H' p x x a (n+2) q ans :=
 ⟨(L.same e).mono (by omega),tk.same e,λb o z _ _=>e _ _ z,λb hb=>.inl hb,hq,hn,ao.back e⟩
theorem bw{H:Hp}{p q:Addr}{x:Adr}{a:Su111.Abs}{n:Nat}{ans:List Int}{l:List V}(L:ba P w CM CR H p x a n)(tk:aQ tabs H)(hn:H q=none)(e:l=iV ans):Out P w CM CR tabs H (upd H q (.lst l)) p x x a (n+2) q ans:=by
 subst e;exact dR L tk (ay hn) ac hn
def spC(P:Program)(w:World)(CM CR:Addr)(tabs:List (Addr×Str))(rel:Hp→List V→List Addr→Su111.Call→Prop):Sp:=λvs H Q _=>∃(p:Addr) (x:Adr) (a:Su111.Abs) (n:Nat) (rest:List V) (c:Su111.Call),vs=.ref p::rest∧rel H rest (own x p) c∧ba P w CM CR H p x a n∧n≤90000∧aQ tabs H∧dv a ∧
 ∀(H':Hp) (x':Adr) (q:Addr),Out P w CM CR tabs H H' p x x' (Su111.does a c).1 (n+2) q (e9 (Su111.does a c).2)→Q (.ref q) H'
theorem put_c(x:Adr)(v:Addr):a7 "chances" (.ref v) (bv x)=bv {x with c:=v}:=rfl
theorem put_h(x:Adr)(v:Addr):a7 "holds" (.ref v) (bv x)=bv {x with h:=v}:=rfl
theorem put_f(x:Adr)(v:Addr):a7 "filling" (.ref v) (bv x)=bv {x with f:=v}:=rfl
def spInit(P:Program)(w:World)(CM CR:Addr):Sp:=λvs H Q _=>∃(p dx:Addr),vs=[.ref p]∧H p=some (.ins CM dx [])∧∀(H':Hp) (x:Adr),ba P w CM CR H' p x ⟨[],[],[]⟩ 0→But p H H'→(∀b∈own x p,b=p∨H b=none)→Q .non H'
theorem scInit:ap ["self"] ["self"] (ag (mth 0)):=⟨rfl,rfl,rfl,by decide +kernel,rfl,by decide +kernel,by decide +kernel⟩
theorem pN{f:Addr}{fd:FuncData}(F:Fun K "__init__" "MachineLine.__init__" (mth 0) f fd)(T:be K mg CM):aZ P w K mg base CX0 1 f fd ["self"] (spInit P w CM CR):=by
 refine F.ok scInit (λvs H Q E h=>?_) (λcdv A outer s H vs Q E hr h=>?_)
 ·obtain⟨p,dx,rfl,_⟩:=h;rfl
 ·obtain⟨p,dx,rfl,hp,k⟩:=h;refine tF _ (ad (cR (pv 0) (aG ae) rfl) (ad (cR (pv 0) (aG ae) rfl) (ad (cR (pv 0) (aG ae) rfl) (ah (cR (pv 0) pe_nnew rfl))))) ?_;refine⟨rO _,λpc hpc=>?_⟩;refine tR _ rfl p CM dx (tJ _ rfl (ay hpc _ _ hp) T.cl T.n1 (by show 0<1000;decide) ?_);have npc:pc≠p:=(ai hp hpc).symm;have b1:But p H (upd (upd H pc (.lst [])) p (.ins CM dx (a7 "chances" (.ref pc) []))):=λb o e hb=>by rw[af hb];exact ay hpc _ _ e
  have p1:(upd (upd H pc (.lst [])) p (.ins CM dx (a7 "chances" (.ref pc) []))) p=some (.ins CM dx (a7 "chances" (.ref pc) [])):=ac;have c1:(upd (upd H pc (.lst [])) p (.ins CM dx (a7 "chances" (.ref pc) []))) pc=some (.lst []):=by rw[af npc];exact ac
  generalize upd (upd H pc (.lst [])) p (.ins CM dx (a7 "chances" (.ref pc) []))=H1 at b1 p1 c1;refine⟨rO _,λph hph=>?_⟩;refine tR _ rfl p CM dx (tJ _ rfl (ay hph _ _ p1) T.cl T.n2 (by show 1<1000;decide) ?_);have nph:ph≠p:=(ai p1 hph).symm;have nch:pc≠ph:=ai c1 hph;have b2:But p H (upd (upd H1 ph (.lst [])) p (.ins CM dx (a7 "holds" (.ref ph) (a7 "chances" (.ref pc) [])))):=λb o e hb=>by rw[af hb];exact ay hph _ _ (b1 _ _ e hb)
  have p2:(upd (upd H1 ph (.lst [])) p (.ins CM dx (a7 "holds" (.ref ph) (a7 "chances" (.ref pc) [])))) p=some (.ins CM dx (a7 "holds" (.ref ph) (a7 "chances" (.ref pc) []))):=ac;have c2:(upd (upd H1 ph (.lst [])) p (.ins CM dx (a7 "holds" (.ref ph) (a7 "chances" (.ref pc) [])))) pc=some (.lst []):=by rw[af npc];exact ay hph _ _ c1
  have h2:(upd (upd H1 ph (.lst [])) p (.ins CM dx (a7 "holds" (.ref ph) (a7 "chances" (.ref pc) [])))) ph=some (.lst []):=by rw[af nph];exact ac
  generalize upd (upd H1 ph (.lst [])) p (.ins CM dx (a7 "holds" (.ref ph) (a7 "chances" (.ref pc) [])))=H2 at b2 p2 c2 h2;refine⟨rO _,λpf hpf=>?_⟩;refine tR _ rfl p CM dx (tJ _ rfl (ay hpf _ _ p2) T.cl T.n3 (by show 2<1000;decide) ?_);have npf:pf≠p:=(ai p2 hpf).symm;have ncf:pc≠pf:=ai c2 hpf;have nhf:ph≠pf:=ai h2 hpf;have b3:But p H (upd (upd H2 pf (.lst [])) p (.ins CM dx (a7 "filling" (.ref pf) (a7 "holds" (.ref ph) (a7 "chances" (.ref pc) []))))):=λb o e hb=>by rw[af hb];exact ay hpf _ _ (b2 _ _ e hb)
  have p3:(upd (upd H2 pf (.lst [])) p (.ins CM dx (a7 "filling" (.ref pf) (a7 "holds" (.ref ph) (a7 "chances" (.ref pc) []))))) p=some (.ins CM dx (a7 "filling" (.ref pf) (a7 "holds" (.ref ph) (a7 "chances" (.ref pc) [])))):=ac;have c3:(upd (upd H2 pf (.lst [])) p (.ins CM dx (a7 "filling" (.ref pf) (a7 "holds" (.ref ph) (a7 "chances" (.ref pc) []))))) pc=some (.lst []):=by rw[af npc];exact ay hpf _ _ c2
  have h3:(upd (upd H2 pf (.lst [])) p (.ins CM dx (a7 "filling" (.ref pf) (a7 "holds" (.ref ph) (a7 "chances" (.ref pc) []))))) ph=some (.lst []):=by rw[af nph];exact ay hpf _ _ h2
  have f3:(upd (upd H2 pf (.lst [])) p (.ins CM dx (a7 "filling" (.ref pf) (a7 "holds" (.ref ph) (a7 "chances" (.ref pc) []))))) pf=some (.lst []):=by rw[af npf];exact ac
  generalize upd (upd H2 pf (.lst [])) p (.ins CM dx (a7 "filling" (.ref pf) (a7 "holds" (.ref ph) (a7 "chances" (.ref pc) []))))=H3 at b3 p3 c3 h3 f3;refine λpd hpd=>?_;refine tR _ rfl p CM dx (tJ _ rfl (ay hpd _ _ p3) T.cl T.n4 (by show 3<1000;decide) ?_);have npd:pd≠p:=(ai p3 hpd).symm;have none_of:∀b,b≠p→H3 b=none→H b=none:=λb hb z=>by
   cases e:H b with
   |none=>rfl
   |some o=>rw[b3 _ _ e hb]at z;cases z
  have none_of2:∀b,b≠p→H2 b=none→H b=none:=λb hb z=>by
   cases e:H b with
   |none=>rfl
   |some o=>rw[b2 _ _ e hb]at z;cases z
  have none_of1:∀b,b≠p→H1 b=none→H b=none:=λb hb z=>by
   cases e:H b with
   |none=>rfl
   |some o=>rw[b1 _ _ e hb]at z;cases z
  refine k _ ⟨pc,ph,pf,pd⟩ ⟨⟨dx,ac⟩,?_,?_,?_,(tK [] ?_ (rL _) (λy hy=>by simp at hy)),nch,ncf,nhf⟩ (λb o e hb=>by rw[af hb];exact ay hpd _ _ (b3 _ _ e hb)) (λb hb=>?_)
  ·rw[af npc];exact ay hpd _ _ c3
  ·rw[af nph];exact ay hpd _ _ h3
  ·rw[af npf];exact ay hpd _ _ f3
  ·rw[af npd];exact ac
  ·unfold own at hb;simp at hb;rcases hb with rfl|rfl|rfl|rfl|rfl
   ·exact .inl rfl
   ·exact .inr hpc
   ·exact .inr (none_of1 _ nph hph)
   ·exact .inr (none_of2 _ npf hpf)
   ·exact .inr (none_of _ npd hpd)
def spBegun(P:Program)(w:World)(CM CR:Addr):Sp:=λvs H Q _=>∃(p:Addr) (x:Adr) (a:Su111.Abs) (n:Nat),vs=[.ref p]∧ba P w CM CR H p x a n∧Q (.bl (decide (0<a.chances.length))) H
theorem scBegun:ap ["self"] ["self"] (ag (mth 1)):=⟨rfl,rfl,rfl,by decide +kernel,rfl,by decide +kernel,by decide +kernel⟩
theorem ok_begun{f:Addr}{fd:FuncData}(F:Fun K "is_begun" "MachineLine.is_begun" (mth 1) f fd)(T:be K mg CM)(Tx:Txt K mg):aZ P w K mg base CX0 1 f fd ["self"] (spBegun P w CM CR):=by
 refine F.ok scBegun (λvs H Q E h=>?_) (λcdv A outer s H vs Q E hr h=>?_)
 ·obtain⟨p,x,a,n,rfl,_⟩:=h;rfl
 ·obtain⟨p,x,a,n,rfl,L,k⟩:=h;obtain⟨dx,hp⟩:=L.ins;refine tF _ (ah (aj (b8 k5 (aM au (by rfl) Tx.hlen PySem.boot_len (aa (ax (pv 0) rfl) ae)) al (aO _)))) ?_;refine tQ _ rfl p CM (tM dx _ _ rfl hp (ub T.cl T.n1 (d3 x) x.c _ (ue rfl (.inl (SqL.of L.c)) _ _ rfl rfl ?_)));rw[aD];have e:decide ((0:Int)<((a.chances.length:Nat):Int))=decide (0<a.chances.length):=decide_eq_decide.mpr (by omega);show Q (.bl (decide ((0:Int)<((a.chances.length:Nat):Int)))) H;rw[e];exact k
def spBegin(P:Program)(w:World)(CM CR:Addr)(tabs:List (Addr×Str)):Sp:=λvs H Q _=>∃(p:Addr) (x:Adr) (a:Su111.Abs) (n c:Nat),vs=[.ref p,.int c]∧ba P w CM CR H p x a n∧aQ tabs H ∧
 ∀(H':Hp) (x':Adr) (q:Addr),Out P w CM CR tabs H H' p x x' (Su111.does a (.begin_ c)).1 (n+2) q (e9 (Su111.does a (.begin_ c)).2)→Q (.ref q) H'
theorem scBegin:ap ["self","chance"] ["self","chance"] (ag (mth 2)):=⟨rfl,rfl,rfl,by decide +kernel,rfl,by decide +kernel,by decide +kernel⟩
theorem oU{H:Hp}{p C dx C' dx':Addr}{fs fs':List (Str×V)}(tk:aQ tabs H)(hp:H p=some (.ins C dx fs)):aQ tabs (upd H p (.ins C' dx' fs')):=tk.keep λb o e ho=>by
 rw[af λz=>?_]
 ·exact e
 ·rw[z,hp]at e;cases e;rcases ho with ho|⟨_,ho⟩
  ·cases ho
  ·cases ho
theorem fj{H H':Hp}{p:Addr}{x x':Adr}{a a':Su111.Abs}{n:Nat}(L:ba P w CM CR H p x a n)(hp:∃dx,H' p=some (.ins CM dx (bv x')))(hc:H' x'.c=some (.lst (nV a'.chances)))(hh:H' x'.h=some (.lst (nV a'.rooms)))(hf:H' x'.f=some (.lst (nV a'.now)))(hd:x'.d=x.d)(hk:∀xs,H x.d=some (knO P w x.d xs)→H' x.d=some (knO P w x.d xs))(n1:x'.c≠x'.h)(n2:x'.c≠x'.f)(n3:x'.h≠x'.f)(keep:∀b o,H b=some o→b∉own x p→fQ o=false→H' b=some o)(moved:∀b∈own x' p,b∈own x p∨H b=none):ba P w CM CR H' p x' a' n:=by
 refine⟨hp,hc,hh,hf,?_,n1,n2,n3⟩;obtain⟨xs,h1,h2,h3⟩:=L.kn;rw[hd];refine tK xs (hk _ h1) h2 (h3.keep λb o z ho=>?_);obtain⟨z1,z2⟩:=dl z;rw[aV λhb=>(moved b hb).elim z1 λe=>by rw[e]at z2;cases z2];refine keep b o z2 z1 ?_;rcases ho with ho|⟨_,_,_,rfl⟩
 ·cases o<;>first|rfl|cases ho
 ·rfl
structure SetNew(H U:Hp)(p q:Addr)(C dx:Addr)(l:List V)(fs:List (Str×V)):Prop where
 ins:U p=some (.ins C dx fs)
 lst:U q=some (.lst l)
 keep:∀b o,H b=some o→b≠p→U b=some o
 ne:q≠p
 new:H q=none
 back:∀b,U b=none→H b=none
theorem gO{H:Hp}{p q C dx:Addr}{l:List V}{fs fs':List (Str×V)}(hp:H p=some (.ins C dx fs))(hq:H q=none):SetNew H (upd (upd H q (.lst l)) p (.ins C dx fs')) p q C dx l fs':=by
 have ne:q≠p:=(ai hp hq).symm;refine⟨ac,by rw[af ne];exact ac,λb o e hb=>by rw[af hb];exact ay hq _ _ e,ne,hq,λb hb=>?_⟩;cases e:H b with
 |none=>rfl
 |some o =>
  by_cases z:b=p
  ·subst z;rw[ac]at hb;cases hb
  ·rw[af z,ay hq _ _ e]at hb;cases hb
theorem SetNew.tbs{H U:Hp}{p q C dx C' dx':Addr}{l:List V}{fs fs':List (Str×V)}(S:SetNew H U p q C dx l fs)(hp:H p=some (.ins C' dx' fs'))(tk:aQ tabs H):aQ tabs U:=tk.keep λb o e ho=>S.keep b o e λz=>by
 rw[z,hp]at e;cases e;rcases ho with ho|⟨_,ho⟩
 ·cases ho
 ·cases ho
theorem ok_begin{f:Addr}{fd:FuncData}(F:Fun K "begin" "MachineLine.begin" (mth 2) f fd)(T:be K mg CM)(DI:aN K mg "is_chance" sIsC ["number"])(N9:dY mg "MOST_CHANCE" 9)(NO:dY mg "OUT_OF_RANGE" (-22)):aZ P w K mg base CX0 2 f fd ["self","chance"] (spBegin P w CM CR tabs):=by
 refine F.ok scBegin (λvs H Q E h=>?_) (λcdv A outer s H vs Q E hr h=>?_)
 ·obtain⟨p,x,a,n,c,rfl,_⟩:=h;rfl
 ·obtain⟨p,x,a,n,c,rfl,L,tk,k⟩:=h;obtain⟨dx,hp⟩:=L.ins;refine tF _ (ad (bh (jw (di (aJ (ok_isC DI.F N9) hr rfl DI.mgf DI.F.kp DI.b .nil az (aa (pv 1) ae)))) (ah (aj (aG (aa (a8 (v:=.int (-22)) rfl NO.h ⟨_,rfl⟩) ae)))) aI)
   (ad (cR (pv 0) (aG (aa (pv 1) ae)) rfl) (ad (cR (pv 0) (aG ae) rfl) (ad (cR (pv 0) (aG ae) rfl) (ah (aj (aG (aa al ae)))))))) ?_
  refine uC _ rfl c rfl _ rfl ?_;have ed:Su111.does a (.begin_ c)=if Su111.okP c=false then (a,Su111.no (-22)) else (Su111.new c,Su111.no 0):=rfl
  have eo:Su111.okP c=(decide (1≤c)&&decide (c≤9)):=rfl;rw[←eo];cases ok:Su111.okP c with
  |false =>
   rw[ed,if_pos ok]at k;exact⟨(by show 1≤sizeLine;decide),λq hq=>k _ x q (bw L tk hq rfl)⟩
  |true =>
   rw[ed,if_neg (by rw[ok];decide)]at k;refine tK _ rfl (by show 1≤sizeLine;decide) (λq1 hq1=>?_);refine tR _ rfl p CM dx (tJ _ rfl (ay hq1 _ _ hp) T.cl T.n1 (by show 4<1000;decide) ?_);have S1:=gO (l:=[.int (c:Int)]) (fs':=a7 "chances" (.ref q1) (bv x)) hp hq1;have t1:=S1.tbs hp tk;rw[put_c]at S1 t1 ⊢;generalize upd (upd H q1 (.lst [.int (c:Int)])) p (.ins CM dx (bv {x with c:=q1}))=H1 at S1 t1;refine⟨rO _,λq2 hq2=>?_⟩;refine tR _ rfl p CM dx (tJ _ rfl (ay hq2 _ _ S1.ins) T.cl T.n2 (by show 4<1000;decide) ?_);have S2:=gO (l:=[]) (fs':=a7 "holds" (.ref q2) (bv {x with c:=q1})) S1.ins hq2;have t2:=S2.tbs S1.ins t1;rw[put_h]at S2 t2 ⊢;dsimp only at S2 t2 ⊢;generalize upd (upd H1 q2 (.lst [])) p (.ins CM dx (bv ⟨q1,q2,x.f,x.d⟩))=H2 at S2 t2;refine⟨rO _,λq3 hq3=>?_⟩;refine tR _ rfl p CM dx (tJ _ rfl (ay hq3 _ _ S2.ins) T.cl T.n3 (by show 4<1000;decide) ?_);have S3:=gO (l:=[]) (fs':=a7 "filling" (.ref q3) (bv ⟨q1,q2,x.f,x.d⟩)) S2.ins hq3;have t3:=S3.tbs S2.ins t2;rw[put_f]at S3 t3 ⊢;dsimp only at S3 t3 ⊢;generalize upd (upd H2 q3 (.lst [])) p (.ins CM dx (bv ⟨q1,q2,q3,x.d⟩))=H3 at S3 t3;refine⟨(by show 1≤sizeLine;decide),λq hq=>?_⟩;have kp:∀b o,H b=some o→b≠p→H3 b=some o:=λb o e hb=>S3.keep _ _ (S2.keep _ _ (S1.keep _ _ e hb) hb) hb;have hq1':H3 q1=some (.lst [.int (c:Int)]):=S3.keep _ _ (S2.keep _ _ S1.lst S1.ne) S1.ne;have hq2':H3 q2=some (.lst []):=S3.keep _ _ S2.lst S2.ne;have nq:∀b,H3 b=none→H b=none:=λb z=>S1.back _ (S2.back _ (S3.back _ z));have mv:∀b∈own ⟨q1,q2,q3,x.d⟩ p,b∈own x p∨H b=none:=λb hb=>by
    unfold own at hb ⊢;simp at hb ⊢;rcases hb with rfl|rfl|rfl|rfl|rfl
    ·exact .inl (.inl rfl)
    ·exact .inr hq1
    ·exact .inr (S1.back _ hq2)
    ·exact .inr (S1.back _ (S2.back _ hq3))
    ·exact .inl (.inr (.inr (.inr (.inr rfl))))
   have sq:ao H3 (upd H3 q (.lst [.int 0])):=ay hq;have pd:x.d≠p:=by
    obtain⟨xs,h1,_⟩:=L.kn;exact a9 h1 hp (λz=>nomatch z)
   refine k _ ⟨q1,q2,q3,x.d⟩ q ⟨(fj (a':=Su111.new c) L ⟨dx,sq _ _ S3.ins⟩ (sq _ _ hq1') (sq _ _ hq2') (sq _ _ S3.lst) rfl (λxs z=>sq _ _ (kp _ _ z pd)) (ai S1.lst hq2) (ai (S2.keep _ _ S1.lst S1.ne) hq3) (ai S2.lst hq3) (λb o e hb _=>sq _ _ (kp _ _ e λz=>hb (by unfold own;simp[z]))) mv).mono (by omega),t3.same sq,λb o e hb _=>sq _ _ (kp _ _ e λz=>hb (by unfold own;simp[z])),mv,ac,nq _ hq,λb z=>nq _ (sq.free z)⟩
end
theorem iP(r:Nat):∀l:List Nat,Lr.vol (l++[r])=Lr.vol l*(r+1)
 |[]=>by
  show(r+1)*1=1*(r+1);omega
 |q::l=>by
  show(q+1)*Lr.vol (l++[r])=(q+1)*Lr.vol l*(r+1);rw[iP r l,Nat.mul_assoc]
theorem iQ{r:Nat}:∀{l:List Nat},r∈l→r<Lr.vol l
 |q::l,h=>by
  have hv:=Lr.bK l;show r<(q+1)*Lr.vol l;rcases rC.mp h with rfl|h
  ·have:(r+1)*1≤(r+1)*Lr.vol l:=Nat.mul_le_mul_left _ hv;omega
  ·have h1:=iQ h;have:1*Lr.vol l≤(q+1)*Lr.vol l:=sU _ (by omega);omega
theorem qf:∀(l:List Nat) (c:Nat),(l.map λr=>r+1).foldl (λx y=>x*y) c=c*Lr.vol l
 |[],c=>by
  show c=c*1;omega
 |q::l,c=>by
  show(l.map λr=>r+1).foldl (λx y=>x*y) (c*(q+1))=c*((q+1)*Lr.vol l);rw[qf l,Nat.mul_assoc]
theorem f7(a:Su111.Abs):a.size=Lr.vol a.rooms:=by
 unfold Su111.Abs.size;rw[qf,Nat.one_mul]
theorem jd(l:List Nat)(n:Nat):nV l++[V.int (n:Int)]=nV (l++[n]):=by
 unfold nV;rw[sQ];rfl
theorem og(l:List Nat):(nV l).dropLast=nV l.dropLast:=by
 unfold nV;rw[List.map_dropLast]
structure dF(K:fG)(mg:Str→Option Value) where
 T:Txt K mg
 DI:aN K mg "is_chance" sIsC ["number"]
 DR:aN K mg "is_room" sIsR ["number"]
 DY:aN K mg "too_many_fillings" sMany ["holds"]
 DK:aN K mg "changed_at" sChg ["numbers","place","number"]
 N9:dY mg "MOST_CHANCE" 9
 N8:dY mg "MOST_HELD" 8
 N4:dY mg "MOST_MACHINES" 4
 N27:dY mg "MOST_FILLINGS" 27
 N3:dY mg "MOST_HOURS" 3
 R2:dY mg "NONE_SUCH" (-2)
 R6:dY mg "ONLY_ONE" (-6)
 R11:dY mg "NOT_BEGUN" (-11)
 R17:dY mg "SO_ALREADY" (-17)
 R22:dY mg "OUT_OF_RANGE" (-22)
 R28:dY mg "TOO_MANY" (-28)
section
variable {P:Program} {w:World} {K:fG} {mg:Str→Option Value} {base:Heap} {CM CR:Addr} {tabs:List (Addr×Str)}
structure Ch3(H U:Hp)(x:Adr)(lc lh lf:List Nat):Prop where
 c:U x.c=some (.lst (nV lc))
 h:U x.h=some (.lst (nV lh))
 f:U x.f=some (.lst (nV lf))
 keep:∀b o,H b=some o→b≠x.c→b≠x.h→b≠x.f→U b=some o
 back:∀b,U b=none→H b=none
theorem ch3{H:Hp}{p:Addr}{x:Adr}{a:Su111.Abs}{n:Nat}(L:ba P w CM CR H p x a n)(lc lh lf:List Nat):Ch3 H (upd (upd (upd H x.c (.lst (nV lc))) x.h (.lst (nV lh))) x.f (.lst (nV lf))) x lc lh lf:=by
 refine⟨by rw[af L.n2,af L.n1];exact ac,by rw[af L.n3];exact ac,ac,λb o e h1 h2 h3=>by rw[af h3,af h2,af h1];exact e,λb hb=>?_⟩;by_cases h3:b=x.f
 ·subst h3;rw[ac]at hb;cases hb
 ·rw[af h3]at hb;by_cases h2:b=x.h
  ·subst h2;rw[ac]at hb;cases hb
  ·rw[af h2]at hb;by_cases h1:b=x.c
   ·subst h1;rw[ac]at hb;cases hb
   ·rw[af h1]at hb;exact hb
theorem Ch3.out{H U:Hp}{p q:Addr}{x:Adr}{a:Su111.Abs}{n:Nat}{lc lh lf:List Nat}{l:List V}{ans:List Int}(S:Ch3 H U x lc lh lf)(L:ba P w CM CR H p x a n)(tk:aQ tabs H)(hq:U q=none)(e:l=iV ans):Out P w CM CR tabs H (upd U q (.lst l)) p x x ⟨lc,lh,lf⟩ (n+2) q ans:=by
 subst e;obtain⟨dx,hp⟩:=L.ins;have sq:ao U (upd U q (.lst (iV ans))):=ay hq;have pl:∀{b:Addr} {o:HO},H b=some o→(∀l,o≠.lst l)→U b=some o:=λ{b o} e ne=>S.keep b o e (λz=>by rw[z,L.c]at e;exact ne _ (Option.some.inj e).symm) (λz=>by rw[z,L.h]at e;exact ne _ (Option.some.inj e).symm) (λz=>by rw[z,L.f]at e;exact ne _ (Option.some.inj e).symm);have kp:∀b o,H b=some o→b∉own x p→fQ o=false→(upd U q (.lst (iV ans))) b=some o:=λb o e hb _=>by
  have hb:¬b∈[p,x.c,x.h,x.f,x.d]:=hb;simp at hb;exact sq _ _ (S.keep b o e hb.2.1 hb.2.2.1 hb.2.2.2.1)
 refine⟨(fj (a':=⟨lc,lh,lf⟩) L ⟨dx,sq _ _ (pl hp (λ_ z=>nomatch z))⟩ (sq _ _ S.c) (sq _ _ S.h) (sq _ _ S.f) rfl (λxs z=>sq _ _ (pl z (λ_ z=>nomatch z))) L.n1 L.n2 L.n3 kp (λb hb=>.inl hb)).mono (by omega),(tk.keep λb o e ho=>pl e λl z=>?_).same sq,kp,λb hb=>.inl hb,ac,S.back _ hq,λb z=>S.back _ (sq.free z)⟩;subst z;rcases ho with ho|⟨_,ho⟩
 ·cases ho
 ·cases ho
theorem scMach:ap ["self","hold","chance"] ["self","hold","chance"] (ag (mth 3)):=⟨rfl,rfl,rfl,by decide +kernel,rfl,by decide +kernel,by decide +kernel⟩
def relMach:Hp→List V→List Addr→Su111.Call→Prop:=λ_ rest _ c=>∃r k:Nat,rest=[.int r,.int k]∧c=.machine r k∧r<2^32
theorem ok_mach{f:Addr}{fd:FuncData}(F:Fun K "machine" "MachineLine.machine" (mth 3) f fd)(T:be K mg CM)(X:dF K mg):aZ P w K mg base CX0 3 f fd ["self","hold","chance"] (spC P w CM CR tabs relMach):=by
 refine F.ok scMach (λvs H Q E h=>?_) (λcdv A outer s H vs Q E hr h=>?_)
 ·obtain⟨p,x,a,n,rest,c,rfl,⟨r,kk,rfl,_⟩,_⟩:=h;rfl
 ·obtain⟨p,x,a,n,rest,c,rfl,⟨r,c,rfl,rfl,hr32⟩,L,hn,tk,G,k⟩:=h;obtain⟨dx,hp⟩:=L.ins;have hr1:bP 1 _:=hr.mono (by decide);refine tF _ (ad (bh (PW.pt (pw_or (jw (di (aJ (ok_isC X.DI.F X.N9) hr1 rfl X.DI.mgf X.DI.F.kp X.DI.b .nil az (aa (pv 2) ae)))) (nH (jw (di (aJ (ok_isR X.DR.F X.N8) hr1 rfl X.DR.mgf X.DR.F.kp X.DR.b .nil az (aa (pv 1) ae))))))) (ah (aj (aG (aa (a8 (v:=.int (-22)) rfl X.R22.h ⟨_,rfl⟩) ae)))) aI)
   (ad (bh (PW.pt (pw_or (aP bH (aM au (by rfl) X.T.hlen PySem.boot_len (aa (ax (pv 0) rfl) ae)) (a8 (v:=.int 4) rfl X.N4.h ⟨_,rfl⟩) (aO _)) (nH (di (aJ (nU X.DY.F X.T.DP X.N27) hr rfl X.DY.mgf X.DY.F.kp X.DY.b .nil az (aa (aT cA (ax (pv 0) rfl) (aG (aa (pv 1) ae))) ae)))))) (ah (aj (aG (aa (a8 (v:=.int (-28)) rfl X.R28.h ⟨_,rfl⟩) ae)))) aI)
   (ad (bU (fP PySem.F.plainAttrs_list PySem.F.slot_list_append PySem.F.type_list_append ci (ax (pv 0) rfl) (aa (pv 2) ae)))
   (ad (bU (fP PySem.F.plainAttrs_list PySem.F.slot_list_append PySem.F.type_list_append ci (ax (pv 0) rfl) (aa (pv 1) ae)))
   (ad (bU (fP PySem.F.plainAttrs_list PySem.F.slot_list_append PySem.F.type_list_append ci (ax (pv 0) rfl) (aa al ae)))
   (ah (aj (aG (aa (aT dZ (aM au (by rfl) X.T.hlen PySem.boot_len (aa (ax (pv 0) rfl) ae)) al) ae))))))))) ?_
  have ed:Su111.does a (.machine r c)=if Su111.okP c=false∨r=0∨8<r then (a,Su111.no (-22)) else if Su111.MACHINES≤a.m∨Su111.STATES<a.size*(r+1) then (a,Su111.no (-28)) else (⟨a.chances++[c],a.rooms++[r],a.now++[0]⟩,Su111.num a.m []):=rfl
  have eo:Su111.okP c=(decide (1≤c)&&decide (c≤9)):=rfl;have hm:a.chances.length=a.m:=rfl;refine uC _ rfl c rfl _ rfl ?_;rw[←eo];cases ok:Su111.okP c with
  |false =>
   rw[ed,if_pos (.inl ok)]at k;exact⟨(by show 1≤sizeLine;decide),λq hq=>k _ x q (bw L tk hq rfl)⟩
  |true =>
   refine uC _ rfl r rfl _ rfl ?_;cases okr:(decide (1≤r)&&decide (r≤8)) with
   |false =>
    rw[ed,if_pos (.inr (by simp at okr;omega))]at k;exact⟨(by show 1≤sizeLine;decide),λq hq=>k _ x q (bw L tk hq rfl)⟩
   |true =>
    have hr8:1≤r∧r≤8:=by simpa using okr
    rw[ed,if_neg (by rw[ok];simp;omega)]at k;refine tQ _ rfl p CM (tM dx _ _ rfl hp (ub T.cl T.n1 (d3 x) x.c _ (ui rfl (.inl (SqL.of L.c)) rfl _ rfl ?_)));rw[aD,hm];by_cases h4:a.m=4
    ·rw[if_pos (.inl (by rw[h4];decide))]at k;refine bT (decide_eq_true (by rw[h4];rfl)) ?_;exact⟨(by show 1≤sizeLine;decide),λq hq=>k _ x q (bw L tk hq rfl)⟩
    ·refine bF (decide_eq_false (by intro e;injection e with e;omega)) ?_;have hm3:a.m≤3:=by have:=G.m;omega
     refine tR _ rfl p CM dx (tG _ _ rfl hp T.cl T.n2 (uk (eK x) _ rfl (by show 1≤sizeLine;decide) (λq1 hq1=>?_)));have s1:ao H (upd H q1 (.lst [.int (r:Int)])):=ay hq1;have hrl:a.rooms.length≤3:=by have:=G.v.len;omega
     refine tY x.h q1 _ _ (um rfl rfl (s1 _ _ L.h) ac ?_ (λq2 hq2=>?_))
     ·rw[aD];exact rq (show a.rooms.length+1≤4 by omega) (by decide)
     ·refine tG q2 (a.rooms++[r]) rfl ?_ ?_ (λr' hr'=>?_) (λH2 s2=>?_)
      ·rw[←jd];exact SqL.of ac
      ·rw[r9];show a.rooms.length+1≤100;omega
      ·have e60:(2:Nat)^60=1152921504606846976:=by decide
       have e32:(2:Nat)^32=4294967296:=by decide
       rw[e60];rcases rD.mp hr' with h|h
       ·have h1:=iQ h;have:=G.vol;omega
       ·have:r'=r:=by simpa using h
        omega
      ·have s3:ao H H2:=(s1.trans (ay hq2)).trans s2;have L2:=L.same s3;have tk2:=tk.same s3;obtain⟨dx2,hp2⟩:=L2.ins;refine tF _ rfl ?_;rw[iP];have es:a.size*(r+1)=Lr.vol a.rooms*(r+1):=by rw[f7]
       by_cases h27:27<Lr.vol a.rooms*(r+1)
       ·rw[if_pos (.inr (by rw[es];exact h27))]at k;refine bT (decide_eq_true h27) ?_;refine⟨(by show 1≤sizeLine;decide),λq hq=>k _ x q ?_⟩;exact dR L tk (s3.trans (ay hq)) ac (s3.free hq)
       ·rw[if_neg (by rw[es];show ¬(4≤a.m∨27<_);omega)]at k;refine bF (decide_eq_false h27) ?_;refine tR _ rfl p CM dx2 (tG _ _ rfl hp2 T.cl T.n1 (t9 (d3 x) (.inl (uj rfl _ (SqL.of L2.c))) _ rfl x.c _ (t8 _ rfl rfl L2.c ?_ ?_)))
        ·rw[aD];exact rh (show a.chances.length<4 by omega) (by decide)
        have C3:=ch3 L2 (a.chances++[c]) (a.rooms++[r]) (a.now++[0]);have npc:p≠x.c:=a9 hp2 L2.c (λz=>nomatch z);have nph:p≠x.h:=a9 hp2 L2.h (λz=>nomatch z);have npf:p≠x.f:=a9 hp2 L2.f (λz=>nomatch z);rw[jd];have hnl:a.now.length≤3:=by have:=G.fits.len;omega
        refine tR _ rfl p CM dx2 (tG _ _ rfl (by rw[af npc];exact hp2) T.cl T.n2 (t9 (eK x) (.inl (uj rfl _ (SqL.of (by rw[af L.n1.symm];exact L2.h)))) _ rfl x.h _ (t8 _ rfl rfl (by rw[af L.n1.symm];exact L2.h) ?_ ?_)))
        ·rw[aD];exact rh (show a.rooms.length<4 by omega) (by decide)
        rw[jd];refine tQ _ rfl p CM (tI dx2 _ _ rfl (by rw[af nph,af npc];exact hp2) T.cl (ub T.n3 (lk_f x) (.inl (uj rfl _ (SqL.of (by rw[af L.n3.symm,af L.n2.symm];exact L2.f)))) x.f _ (t8 _ rfl rfl (by rw[af L.n3.symm,af L.n2.symm];exact L2.f) ?_ ?_)))
        ·rw[aD];exact rh (show a.now.length<4 by omega) (by decide)
        have e0:nV a.now++[V.int 0]=nV (a.now++[0]):=jd _ 0;rw[e0];generalize upd (upd (upd H2 x.c (.lst (nV (a.chances++[c])))) x.h (.lst (nV (a.rooms++[r])))) x.f (.lst (nV (a.now++[0])))=U at C3;refine tQ _ rfl p CM (tI dx2 _ _ rfl (C3.keep _ _ hp2 npc nph npf) T.cl (ue T.n1 (d3 x) x.c _ rfl (.inl (SqL.of C3.c)) (tP _ _ rfl rfl (by show 1≤sizeLine;decide) (λq hq=>?_))));have O:=C3.out (q:=q) (l:=[V.int (((nV (a.chances++[c])).length:Int)-1)]) (ans:=[((a.m:Nat):Int)]) L2 tk2 hq (by
         rw[aD,r9];show [V.int ((((a.m+1:Nat)):Int)-1)]=[V.int ((a.m:Nat):Int)];congr 2;omega)
        exact k _ x q ⟨O.line,O.tabs,λb o e hb ht=>O.keep b o (s3 _ _ e) hb ht,λb hb=>.inl hb,O.ans,s3.free O.fresh,(ao.back s3).trans O.back⟩
end
section
variable {P:Program} {w:World} {K:fG} {mg:Str→Option Value} {base:Heap} {CM CR:Addr} {tabs:List (Addr×Str)}
theorem ch1{H:Hp}{p:Addr}{x:Adr}{a:Su111.Abs}{n:Nat}(L:ba P w CM CR H p x a n)(lc:List Nat):Ch3 H (upd H x.c (.lst (nV lc))) x lc a.rooms a.now:=by
 refine⟨ac,by rw[af L.n1.symm];exact L.h,by rw[af L.n2.symm];exact L.f,λb o e h1 _ _=>by rw[af h1];exact e,λb hb=>?_⟩;by_cases h1:b=x.c
 ·subst h1;rw[ac]at hb;cases hb
 ·rw[af h1]at hb;exact hb
def iu(c:Su111.Call):Hp→List V→List Addr→Su111.Call→Prop:=λ_ rest _ c'=>rest=[]∧c'=c
theorem scDrop:ap ["self"] ["self"] (ag (mth 4)):=⟨rfl,rfl,rfl,by decide +kernel,rfl,by decide +kernel,by decide +kernel⟩
theorem n9{l:List Nat}(h:0<l.length):(nV l)[(nV l).length-1]?=some (V.int (l.getD (l.length-1) 0:Nat)):=by
 rw[aD];exact cP (by omega)
theorem ok_drop{f:Addr}{fd:FuncData}(F:Fun K "drop" "MachineLine.drop" (mth 4) f fd)(T:be K mg CM)(X:dF K mg):aZ P w K mg base CX0 1 f fd ["self"] (spC P w CM CR tabs (iu .drop)):=by
 refine F.ok scDrop (λvs H Q E h=>?_) (λcdv A outer s H vs Q E hr h=>?_)
 ·obtain⟨p,x,a,n,rest,c,rfl,⟨rfl,_⟩,_⟩:=h;rfl
 ·obtain⟨p,x,a,n,rest,c,rfl,⟨rfl,rfl⟩,L,hn,tk,G,k⟩:=h;obtain⟨dx,hp⟩:=L.ins;refine tF _ (ad (bh (aP bH (aM au (by rfl) X.T.hlen PySem.boot_len (aa (ax (pv 0) rfl) ae)) al (aO _)) (ah (aj (aG (aa (a8 (v:=.int (-6)) rfl X.R6.h ⟨_,rfl⟩) ae)))) aI)
   (ad (bU (pe_bm0 PySem.F.plainAttrs_list PySem.F.slot_list_pop PySem.F.type_list_pop mt_pop (ax (pv 0) rfl)))
   (ad (bU (pe_bm0 PySem.F.plainAttrs_list PySem.F.slot_list_pop PySem.F.type_list_pop mt_pop (ax (pv 0) rfl)))
   (ad (bU (pe_bm0 PySem.F.plainAttrs_list PySem.F.slot_list_pop PySem.F.type_list_pop mt_pop (ax (pv 0) rfl)))
   (ah (aj (aG (aa (aM au (by rfl) X.T.hlen PySem.boot_len (aa (ax (pv 0) rfl) ae)) ae)))))))) ?_
  have ed:Su111.does a .drop=if a.m=1 then (a,Su111.no (-6)) else (⟨a.chances.dropLast,a.rooms.dropLast,a.now.dropLast⟩,Su111.num (a.m-1) []):=rfl
  have hm:a.chances.length=a.m:=rfl;refine tQ _ rfl p CM (tM dx _ _ rfl hp (ub T.cl T.n1 (d3 x) x.c _ (ui rfl (.inl (SqL.of L.c)) rfl _ rfl ?_)));rw[aD,hm];by_cases h1:a.m=1
  ·rw[ed,if_pos h1]at k;refine bT (decide_eq_true (by rw[h1];rfl)) ?_;exact⟨(by show 1≤sizeLine;decide),λq hq=>k _ x q (bw L tk hq rfl)⟩
  ·rw[ed,if_neg h1]at k;refine bF (decide_eq_false (by intro e;injection e with e;omega)) ?_;have hl:=G.v.len;have hnl:=G.fits.len;have npc:p≠x.c:=a9 hp L.c (λz=>nomatch z);have nph:p≠x.h:=a9 hp L.h (λz=>nomatch z);have npf:p≠x.f:=a9 hp L.f (λz=>nomatch z);have C3:=ch3 L a.chances.dropLast a.rooms.dropLast a.now.dropLast;refine tQ _ rfl p CM (tI dx _ _ rfl hp T.cl (ub T.n1 (d3 x) (.inl (uj rfl _ (SqL.of L.c))) x.c _ (t8 _ rfl rfl L.c (n9 (by omega)) ?_)));rw[og];refine tQ _ rfl p CM (tI dx _ _ rfl (by rw[af npc];exact hp) T.cl (ub T.n2 (eK x) (.inl (uj rfl _ (SqL.of (by rw[af L.n1.symm];exact L.h)))) x.h _ (t8 _ rfl rfl (by rw[af L.n1.symm];exact L.h) (n9 (by omega)) ?_)));rw[og];refine tQ _ rfl p CM (tI dx _ _ rfl (by rw[af nph,af npc];exact hp) T.cl (ub T.n3 (lk_f x) (.inl (uj rfl _ (SqL.of (by rw[af L.n3.symm,af L.n2.symm];exact L.f)))) x.f _ (t8 _ rfl rfl (by rw[af L.n3.symm,af L.n2.symm];exact L.f) (n9 (by omega)) ?_)));rw[og];generalize upd (upd (upd H x.c (.lst (nV a.chances.dropLast))) x.h (.lst (nV a.rooms.dropLast))) x.f (.lst (nV a.now.dropLast))=U at C3;refine tV _ rfl p CM dx _ (tJ _ rfl (C3.keep _ _ hp npc nph npf) T.cl T.n1 (d3 x) (tP x.c _ rfl (.inl (SqL.of C3.c)) (by show 1≤sizeLine;decide) (λq hq=>?_)));refine k _ x q (C3.out L tk hq ?_);rw[aD,List.length_dropLast];rfl
theorem o5:ap ["self","machine","chance","earlier"] ["self","machine","chance"] (ag (mth 5)):=⟨rfl,rfl,rfl,by decide +kernel,rfl,by decide +kernel,by decide +kernel⟩
def relTwo(g:Nat→Nat→Su111.Call):Hp→List V→List Addr→Su111.Call→Prop:=λ_ rest _ c=>∃i k:Nat,rest=[.int i,.int k]∧c=g i k∧i<2^32∧k<2^32
theorem dH{a:Su111.Abs}{i:Nat}:a.isM i=false↔a.m≤i:=by
 unfold Su111.Abs.isM;simp
theorem eR{a:Su111.Abs}{i:Nat}:a.isR i=false↔a.rooms.length≤i:=by
 unfold Su111.Abs.isR;simp
theorem ok_chance{f:Addr}{fd:FuncData}(F:Fun K "chance" "MachineLine.chance" (mth 5) f fd)(T:be K mg CM)(X:dF K mg):aZ P w K mg base CX0 2 f fd ["self","machine","chance"] (spC P w CM CR tabs (relTwo .chance)):=by
 refine F.ok o5 (λvs H Q E h=>?_) (λcdv A outer s H vs Q E hr h=>?_)
 ·obtain⟨p,x,a,n,rest,c,rfl,⟨i,kk,rfl,_⟩,_⟩:=h;rfl
 ·obtain⟨p,x,a,n,rest,c,rfl,⟨i,c,rfl,rfl,_,_⟩,L,hn,tk,G,k⟩:=h;obtain⟨dx,hp⟩:=L.ins;refine tF _ (ad (bh (aP ja (pv 1) (aM au (by rfl) X.T.hlen PySem.boot_len (aa (ax (pv 0) rfl) ae)) (aO _)) (ah (aj (aG (aa (a8 (v:=.int (-2)) rfl X.R2.h ⟨_,rfl⟩) ae)))) aI)
   (ad (bh (jw (di (aJ (ok_isC X.DI.F X.N9) hr rfl X.DI.mgf X.DI.F.kp X.DI.b .nil az (aa (pv 2) ae)))) (ah (aj (aG (aa (a8 (v:=.int (-22)) rfl X.R22.h ⟨_,rfl⟩) ae)))) aI)
   (ad (aC (i:=3) o5.nd rfl (Or.inl rfl) (aU aA (ax (pv 0) rfl) (pv 1) (λ_ _=>rfl)))
   (ad (iw (pv 2) (iy (ax (pv 0) rfl) (pv 1) eA))
   (ah (aj (aG (aa (pv 3) ae)))))))) ?_
  have ed:Su111.does a (.chance i c)=if a.isM i=false then (a,Su111.no (-2)) else if Su111.okP c=false then (a,Su111.no (-22)) else ({a with chances:=a.chances.set i c},Su111.num (a.p i) []):=rfl
  have eo:Su111.okP c=(decide (1≤c)&&decide (c≤9)):=rfl;have hm:a.chances.length=a.m:=rfl;refine tT _ rfl _ rfl p CM (tI dx _ _ rfl hp T.cl (ue T.n1 (d3 x) x.c _ rfl (.inl (SqL.of L.c)) (ug _ _ rfl rfl _ rfl ?_)));rw[aD,hm];by_cases h1:a.m≤i
  ·rw[ed,if_pos (dH.mpr h1)]at k;refine bT (decide_eq_true (by omega)) ?_;exact⟨(by show 1≤sizeLine;decide),λq hq=>k _ x q (bw L tk hq rfl)⟩
  ·rw[ed,if_neg (λz=>h1 (dH.mp z))]at k;refine bF (decide_eq_false (by omega)) ?_;refine uC _ rfl c rfl _ rfl ?_;rw[←eo];cases ok:Su111.okP c with
   |false =>
    rw[if_pos ok]at k;exact⟨(by show 1≤sizeLine;decide),λq hq=>k _ x q (bw L tk hq rfl)⟩
   |true =>
    rw[if_neg (by rw[ok];decide)]at k;have hi:i<a.chances.length:=by omega
    refine tQ _ rfl p CM (tI dx _ _ rfl hp T.cl (t9 T.n1 (d3 x) _ rfl x.c _ (tG _ _ rfl rfl (SqL.of L.c) (aR (cP hi)) ?_)));refine tT _ rfl _ rfl p CM (tI dx _ _ rfl hp T.cl (t9 T.n1 (d3 x) _ rfl x.c _ (tG _ i rfl rfl L.c (fJ (by rw[aD];exact hi)) ?_)));rw[nV_set];have C3:=ch1 L (a.chances.set i c);generalize upd H x.c (.lst (nV (a.chances.set i c)))=U at C3;refine tK _ rfl (by show 1≤sizeLine;decide) (λq hq=>?_);exact k _ x q (C3.out L tk hq rfl)
end
theorem nolenV:typeLookup (.type "list_reverseiterator") "__len__" = pure none:=by rw[typeLookup_type,builtinLookup_eq_fast];kernel_rfl
theorem hintV:typeLookup (.type "list_reverseiterator") "__length_hint__" = pure (some (.builtin "list_reverseiterator.__length_hint__")):=by rw[typeLookup_type,builtinLookup_eq_fast];kernel_rfl
section
variable {prog:Program} {w:World} {A:Around} {s:Shared} {R:Result→Shared→Prop}
variable {J:Addr} {fp wr:List Addr} {G:Array GenState→Array GenState→Prop} {n:Nat} {Pq:Nat→Value→Prop} {St0:Nat→Shared→Prop}
theorem qG(W:WalksS prog w A.in1 J fp wr G n Pq St0)(hT:∀i s,St0 i s→s.TypeIs (.ref J) "list_reverseiterator")(D:Addr)(res:Value)(c0:Nat)(hst:St0 0 s)(hDf:D∉fp)(hJ:J∈fp)(hD:s.heap.get? D=some {cls:=.type "list",data:=.seq #[] c0})(hn:n≤sizeLine)(hR:∀s' acc' c',Moved (D::wr) G s s'→s'.heap.get? D=some {cls:=.type "list",dict:=none,data:=.seq acc' c',slots:=#[]}→ItemsOf Pq acc' n→R (.ok (.ret res)) s'):wpAny (model prog w) A.in1 (Builtin.List.listExtendWith (.ref D) (.ref J) res)
   (λfin s'=>match fin with|.done fl=>R (.ok fl) s'|.again cd=>cd.quiet=true∧codeAny (model prog w) A cd R s') (λex s'=>R (.error ex) s') s:=by
 have hDJ:D≠J:=λe=>hDf (e ▸ hJ);have h1:Builtin.List.listSameRef (.ref D) (.ref J)=false:=by simp[Builtin.List.listSameRef,hDJ]
 unfold Builtin.List.listExtendWith;refine wpAny_bind (wpAny_typeOf (hT 0 _ hst) ?_);rw[if_neg (by rw[h1];decide)];refine wpAny_bind (W.self 0 _ _ _ hst ?_);refine wpAny_bind (wpAny_holding ?_);unfold Builtin.List.listLengthHint;refine wpAny_bind (wpAny_specialOf (hT 0 _ hst) nolenV ?_);show wpAny _ A.in1 (specialOf (Value.ref J) (Str.ofString "__length_hint__") >>= _) _ _ _;refine wpAny_bind (wpAny_specialOf (hT 0 _ hst) hintV ?_);generalize hid0:("list_reverseiterator.__length_hint__" : String)=id0
 wp_delta
 rw[show splitId id0=some ("list_reverseiterator","__length_hint__") from by subst hid0;decide +kernel];subst hid0;refine wpAny_bind (wpAny_isInstance (b:=true) (hT 0 _ hst) (by rw[isSubtype_type];kernel_rfl) ?_);refine wpAny_pure ?_;rw[if_neg (by decide)];exact wpAny_pure ⟨plainId_quiet F.plain_extend_loop _,codeAny_extend_loopS W hn _ hDf _ n 0 _ _ _ rfl (rO _) hst hD (ItemsOf.nil Pq) hR⟩
theorem rev_init(W:WalksS prog w A.in1 J fp wr G n Pq St0)(hT:∀i s,St0 i s→s.TypeIs (.ref J) "list_reverseiterator")(D:Addr)(hst:St0 0 s)(hDf:D∉fp)(hJ:J∈fp)(hD:s.heap.get? D=some {cls:=.type "list",data:=.seq #[]})(hn:n≤sizeLine)(hR:∀s' acc' c',Moved (D::wr) G s s'→s'.heap.get? D=some {cls:=.type "list",dict:=none,data:=.seq acc' c',slots:=#[]}→ItemsOf Pq acc' n→R (.ok (.ret .none)) s'):wpAny (model prog w) A.in1 (Builtin.«list.__init__» ⟨[.ref D,.ref J],[]⟩)
   (λfin s'=>match fin with|.done fl=>R (.ok fl) s'|.again cd=>cd.quiet=true∧codeAny (model prog w) A cd R s') (λex s'=>R (.error ex) s') s:=by
 show wpAny _ A.in1 (do let was ←Builtin.List.listItems (.ref D);Builtin.List.listUpdate (.ref D) (λ_=>#[]);letGo was.toList.reverse;Builtin.List.listExtendWith (.ref D) (.ref J) .none) _ _ s;refine wpAny_bind ?_;unfold Builtin.List.listItems;refine wpAny_bind (wpAny_seqItems hD rfl (wpAny_pure ?_));show wpAny _ A.in1 (updateSeq D (λ_=>#[]) >>= λ_=>letGo (#[]:Array Value).toList.reverse >>= λ_=>Builtin.List.listExtendWith (.ref D) (.ref J) .none) _ _ s;refine wpAny_bind (wpAny_updateSeq hD rfl ?_);have hD2:=Heap.get?_update_self (Obj.mapSeq (λ_=>(#[]:Array Value))) hD rfl;have rest:∀b u,b≠D→s.heap.get? b=some u→(s.heap.update D (Obj.mapSeq (λ_=>(#[]:Array Value)))).get? b=some u :=
  λb u hb e=>(Heap.get?_update_other _ _ (Ne.symm hb)).trans e
 refine wpAny_bind (wpAny_letGo ?_);refine qG W hT D .none _ (W.frame 0 s _ s.toks hst (rL _) λb hb u e=>rest b u (λh=>hDf (h ▸ hb)) e) hDf hJ hD2 hn λs' acc' c' hm hD' hacc=>?_;exact hR s' acc' c' (Moved.trans W.gtrans ((Moved.refl W.grefl).then_heap (rL _) λb u hb e=>rest b u (λh=>hb (h ▸ rA)) e) hm) hD' hacc
end
theorem rev_list{prog:Program}{w:World}{A:Around}{s:Shared}{E:Value→Shared→Prop}{Q:Value→Shared→Prop}{J l:Addr}{items:Array Value}(hh:A.handled=none)(hJ:s.heap.IsRevIter J l ((items.size:Int)-1))(hl:s.heap.IsList l items)(hne:l≠J)(hn:items.size≤sizeLine)(hQ:∀h' tk acc' c',(∀b o,b≠J→s.heap.get? b=some o→h'.get? b=some o)→h'.get? s.heap.objs.size=some {cls:=.type "list",dict:=none,data:=.seq acc' c',slots:=#[]} →
   ItemsOf (λi v=>items[items.size-1-i]?=some v) acc' items.size→Q (.ref s.heap.objs.size) {s with heap:=h',toks:=tk}):wpAny (model prog w) A (call (.type "list") [.ref J]) Q E s:=by
 have W:=(Walks.listRev (prog:=prog) (w:=w) (A:=A.in1.in1) hh J l hne items).toS;have lt:∀b∈[J,l],b<s.heap.objs.size:=λb hb=>by
  rcases rC.mp hb with rfl|hb
  ·obtain⟨o,ho,_⟩:=hJ;exact rg ho
  ·rw[List.mem_singleton.mp hb];obtain⟨o,ho,_⟩:=hl;exact rg ho
 have hDf:s.heap.objs.size∉[J,l]:=λhm=>rk _ (lt _ hm);refine callType_codes (Q₁:=λob s1=>ob=.ref s.heap.objs.size∧s1={s with heap:=s.heap.push {cls:=.type "list",data:=.seq #[]}}) F.called_list (F.typeCall_list_1 _) F.entry_list_init (code_list_new _ ⟨rfl,rfl⟩) λob s1 h1=>?_;obtain⟨rfl,rfl⟩:=h1;have hD:(s.heap.push {cls:=.type "list",data:=.seq #[]}).get? s.heap.objs.size=some {cls:=.type "list",data:=.seq #[]}:=rK _ rfl;have e0:((items.size:Int)-1-((0:Nat):Int))=(items.size:Int)-1:=by omega
 refine tS (tF _ hD rfl) (F.args_list_init_2 _ _) (rev_init (A:=A.in1) W (λi s x=>x.2.1.typeIs) _ (tS (rO _) ?_ ?_) hDf rA hD hn λs' acc' c' hm hD' hacc=>?_)
 ·rw[e0];exact hJ.at λo e=>rJ _ e
 ·exact hl.at λo e=>rJ _ e
 ·refine⟨rfl,?_⟩;rw[Moved.eq_with hm];refine hQ s'.heap s'.toks acc' c' (λb o hb e=>hm.heap b o (λhmem=>?_) (rJ _ e)) hD' hacc;rcases rC.mp hmem with e'|hmem
  ·exact absurd (rg e) (by rw[e'];exact rk _)
  ·exact hb (List.mem_singleton.mp hmem)
theorem oP:∀{xs:List V} {us:List Value},aW xs us→aW xs.reverse us.reverse
 |_,_,.nil=>.nil
 |_,_,.cons r t=>by
  rw[List.reverse_cons,List.reverse_cons];exact aW.append (oP t) (.cons r .nil)
def tListRev(K:fG)(ta:TA):TE:=λσ H Q=>ta σ H λvs H1=>∃(a:Addr) (xs:List V),vs=[.ref a]∧SqL K H1 a xs∧xs.length≤sizeLine∧∀q,H1 q=none→Q (.ref q) (upd H1 q (.lst xs.reverse))
theorem re:bootBuiltins "list" = some (.type "list"):=by decide +kernel
theorem fE{X:Cx}{e:Expr}{ta:TA}{p pos p2 pos2:Pos}(hc:X.calm=true)(hgl:Gl X "list")(hml:X.mg "list" = none)(hgr:Gl X "reversed")(hmr:X.mg "reversed" = none)(ha:PA X [e] ta)(hs:starEach [e] X.env=[(false,eval e X.env)]:=by rfl)(hs2:starEach [.Call (.Name "reversed" p2) [e] [] pos2] X.env=[(false,eval (.Call (.Name "reversed" p2) [e] [] pos2) X.env)]:=by rfl):PE X (.Call (.Name "list" p) [.Call (.Name "reversed" p2) [e] [] pos2] [] pos) (tListRev X.K ta):=by
 intro pins s σ H Q I h;refine wpAny_Call_Name_kw (eD I hgl hml re (PyProof.Rows.callWith_type1 ?_ hs2 rfl));rw[hs2];refine Calls.spliced_cons (Call_ (eD I hgr hmr lF (PyProof.Rows.callWith_type1 (thn (ha pos2 pins s σ H _ I h) λus s1 ⟨vs,H1,I1,r1,q1⟩=>?_) hs rfl)));obtain⟨a,xs,ev,hq,hz0,q⟩:=q1;subst ev;cases r1 with
 |cons r rr =>
  cases rr;cases r;obtain⟨its,rv,pl,hz⟩:=I1.list hq;have hl:=rv.length;refine call_reversed_list pl.isList (Calls.spliced_nil ?_);have lt:a<s1.heap.objs.size:=by
   obtain⟨o,ho,_⟩:=pl.isList;exact rg ho
  have I2:Inv X pins σ H1 {s1 with heap:=s1.heap.push (revObj a ((its.toArray.size:Int)-1))}:=I1.kept (t':=s1.toks) λb u z=>rJ _ z;refine rev_list (J:=s1.heap.objs.size) (l:=a) (items:=its.toArray) (I.ok.hd hc) (tK _ (rK _ rfl) rfl rfl) (pl.isList.at λo z=>rJ _ z) (rm lt) (by rw[sh,←hl];exact hz0) λh' tk acc c' hk hD hacc=>?_;have hn:H1 (s1.heap.push (revObj a ((its.toArray.size:Int)-1))).objs.size=none:=I1.hok.fresh (by rw[rS];omega);have I3:Inv X pins σ (upd H1 (s1.heap.push (revObj a ((its.toArray.size:Int)-1))).objs.size (.lst xs.reverse)) {s1 with heap:=h',toks:=tk}:=by
   refine I1.laid (t':=tk) (λb u z=>hk b u (rm (rg z)) (rJ _ z)) (by rw[rS];omega) (ut (by rw[tz];exact hz0) acc.toList c' ?_ (by rw[hD]));obtain⟨hsz,hat⟩:=hacc;have hsz:acc.size=its.length:=by rw[hsz,sh]
   have e:acc.toList=its.reverse:=by
    refine List.ext_getElem (by rw[rF,hsz,tz]) λi h1 h2=>?_;rw[rF]at h1;have:=hat i acc[i] (Array.getElem?_eq_getElem h1);rw[sh,List.getElem?_toArray]at this;have hi:its.length-1-i<its.length:=by omega
    rw[sG hi]at this;rw[Array.getElem_toList,List.getElem_reverse];exact(Option.some.inj this).symm
   rw[e];exact oP rv
  exact tH (.ref _) _ I3 rfl (q _ hn)
def cI(l:List Nat):List Int:=l.map λ(n:Nat)=>(n:Int)
theorem nV_cI(l:List Nat):nV l=(cI l).map V.int:=by
 unfold nV cI;rw[sN];rfl
theorem sum_cI:∀l:List Nat,(cI l).sum=((l.sum:Nat):Int)
 |[]=>rfl
 |x::l=>by
  unfold cI;rw[rQ,sW,sW,Int.natCast_add];have:=sum_cI l;unfold cI at this;rw[this]
theorem gr(l:List Nat):(l.map λ_=>0)=rW l.length 0:=by
 induction l with
 |nil=>rfl
 |cons x l ih=>rw[rQ,ih,rP,List.replicate_succ]
section
variable {P:Program} {w:World} {K:fG} {mg:Str→Option Value} {base:Heap} {CM CR:Addr} {tabs:List (Addr×Str)}
def spEmpty(P:Program)(w:World)(CM CR:Addr)(tabs:List (Addr×Str)):Sp:=λvs H Q _=>∃(p:Addr) (x:Adr) (a:Su111.Abs) (n:Nat),vs=[.ref p]∧ba P w CM CR H p x a n∧a.rooms.length≤100∧aQ tabs H ∧
 ∀(H':Hp) (x':Adr) (q:Addr),Out P w CM CR tabs H H' p x x' ⟨a.chances,a.rooms,a.rooms.map λ_=>0⟩ n q [((a.now.sum:Nat):Int)]→x'.c=x.c→x'.h=x.h→Q (.ref q) H'
abbrev nEmpty:List Str:=["self","lay","hold"]
theorem kj:ap nEmpty ["self"] (ag (mth 10)):=⟨rfl,rfl,rfl,by decide +kernel,rfl,by decide +kernel,by decide +kernel⟩
theorem k6{f:Addr}{fd:FuncData}(F:Fun K "empty" "MachineLine.empty" (mth 10) f fd)(T:be K mg CM)(X:dF K mg):aZ P w K mg base CX0 1 f fd ["self"] (spEmpty P w CM CR tabs):=by
 refine F.ok kj (λvs H Q E h=>?_) (λcdv A outer s H vs Q E hr h=>?_)
 ·obtain⟨p,x,a,n,rfl,_⟩:=h;rfl
 ·obtain⟨p,x,a,n,rfl,L,hl,tk,k⟩:=h;obtain⟨dx,hp⟩:=L.ins;refine tF _ (ad (aC (i:=1) kj.nd rfl (Or.inl rfl) (aM (jF rfl) (by rfl) X.T.hsum (by decide +kernel) (aa (ax (pv 0) rfl) ae)))
   (ad (cR (pv 0) (fi (own:=[("hold",2)]) rfl kj.nd (bZ (ax (pv 0) rfl)) (show db nEmpty (ag (mth 10)) _ [("hold",2)] from⟨rfl,by decide +kernel,by decide +kernel,by decide +kernel,by decide +kernel⟩) (λ_ _ _ _ _=>aw (i:=2) kj.nd rfl (Or.inl rfl)) (λ_ _ _ _ _=>bY) (λ_ _ _ _ _=>al)) rfl)
   (ah (aj (aG (aa (pv 1) ae)))))) ?_
  refine tQ _ rfl p CM (tI dx _ _ rfl hp T.cl (ue T.n3 (lk_f x) x.f (cI a.now) rfl (by rw[←nV_cI];exact SqL.of L.f) ?_));rw[sum_cI];refine tR _ rfl p CM dx (tG _ _ rfl hp T.cl T.n2 (uk (eK x) x.h rfl ⟨_,SqL.of L.h⟩ (λD hD=>d6 (K:=K) (a:=x.h) (xs:=nV a.rooms) (λi H'=>H'=upd H D (.lst (nV (rW i 0)))) rfl (λi H' _ e=>by rw[e];exact SqL.of (ay hD _ _ L.h)) ?_ ?_)))
  ·rintro i y H' hy rfl;have hil:i<100:=by
    have:=(rE.mp hy).1;rw[aD]at this;omega
   refine uk rfl _ ac ?_ ?_
   ·rw[aD,sf];exact rh hil (by decide)
   ·rw[bX,tf,←jd];rfl
  ·rintro H' rfl;rw[aD];have sD:ao H (upd H D (.lst (nV (rW a.rooms.length 0)))):=ay hD;have hDD:(upd H D (.lst (nV (rW a.rooms.length 0)))) D=some (.lst (nV (rW a.rooms.length 0))):=ac;generalize upd H D (.lst (nV (rW a.rooms.length 0)))=H1 at sD hDD;refine tR _ rfl p CM dx (tJ _ rfl (sD _ _ hp) T.cl T.n3 (by show 4<1000;decide) ?_);rw[put_f];have mv:∀b∈own {x with f:=D} p,b∈own x p∨H b=none:=λb hb=>by
    unfold own at hb ⊢;simp at hb ⊢;rcases hb with rfl|rfl|rfl|rfl|rfl
    ·exact .inl (.inl rfl)
    ·exact .inl (.inr (.inl rfl))
    ·exact .inl (.inr (.inr (.inl rfl)))
    ·exact .inr hD
    ·exact .inl (.inr (.inr (.inr (.inr rfl))))
   have L1:ba P w CM CR (upd H1 p (.ins CM dx (bv {x with f:=D}))) p {x with f:=D} ⟨a.chances,a.rooms,a.rooms.map λ_=>0⟩ n:=by
    refine fj L ⟨dx,ac⟩ ?_ ?_ ?_ rfl (λxs z=>?_) L.n1 (ai L.c hD) (ai L.h hD) (λb o e hb _=>?_) mv
    ·rw[af (a9 (sD _ _ L.c) (sD _ _ hp) (λz=>nomatch z))];exact sD _ _ L.c
    ·rw[af (a9 (sD _ _ L.h) (sD _ _ hp) (λz=>nomatch z))];exact sD _ _ L.h
    ·rw[af (a9 hDD (sD _ _ hp) (λz=>nomatch z)),gr];exact hDD
    ·rw[af (a9 z hp (λz=>nomatch z))];exact sD _ _ z
    ·rw[af λz=>hb (by rw[z];unfold own;simp)];exact sD _ _ e
   have t1:aQ tabs (upd H1 p (.ins CM dx (bv {x with f:=D}))):=oU (tk.same sD) (sD _ _ hp);have bk:∀b,(upd H1 p (.ins CM dx (bv {x with f:=D}))) b=none→H b=none:=λb z=>by
    cases e:H b with
    |none=>rfl
    |some o =>
     by_cases hb:b=p
     ·subst hb;rw[ac]at z;cases z
     ·rw[af hb,sD _ _ e]at z;cases z
   have kp:∀b o,H b=some o→b∉own x p→(upd H1 p (.ins CM dx (bv {x with f:=D}))) b=some o:=λb o e hb=>by
    rw[af λz=>hb (by rw[z];unfold own;simp)];exact sD _ _ e
   generalize upd H1 p (.ins CM dx (bv {x with f:=D}))=H2 at L1 t1 bk kp;refine tK _ rfl (by show 1≤sizeLine;decide) (λq hq=>?_);have sq:ao H2 (upd H2 q (.lst [.int ((a.now.sum:Nat):Int)])):=ay hq;exact k _ {x with f:=D} q ⟨L1.same sq,t1.same sq,λb o e hb _=>sq _ _ (kp _ _ e hb),mv,ac,bk _ hq,λb z=>bk _ (sq.free z)⟩ rfl rfl
theorem scNow:ap ["self"] ["self"] (ag (mth 11)):=⟨rfl,rfl,rfl,by decide +kernel,rfl,by decide +kernel,by decide +kernel⟩
theorem ok_now{f:Addr}{fd:FuncData}(F:Fun K "now" "MachineLine.now" (mth 11) f fd)(T:be K mg CM)(X:dF K mg):aZ P w K mg base CX0 1 f fd ["self"] (spC P w CM CR tabs (iu .now)):=by
 refine F.ok scNow (λvs H Q E h=>?_) (λcdv A outer s H vs Q E hr h=>?_)
 ·obtain⟨p,x,a,n,rest,c,rfl,⟨rfl,_⟩,_⟩:=h;rfl
 ·obtain⟨p,x,a,n,rest,c,rfl,⟨rfl,rfl⟩,L,hn,tk,G,k⟩:=h;obtain⟨dx,hp⟩:=L.ins;refine tF _ (ah (aj (aT cA (aG (aa (aM (jF rfl) (by rfl) X.T.hsum (by decide +kernel) (aa (ax (pv 0) rfl) ae)) ae)) (ax (pv 0) rfl)))) ?_;have hl:=G.v.len;have hnl:=G.fits.len;have hm:a.chances.length≤4:=G.m;refine tV _ rfl p CM dx _ (tJ _ rfl hp T.cl T.n3 (lk_f x) (tP x.f (cI a.now) rfl (by rw[←nV_cI];exact SqL.of L.f) (by show 1≤sizeLine;decide) (λq1 hq1=>?_)));rw[sum_cI];have s1:ao H (upd H q1 (.lst [.int ((a.now.sum:Nat):Int)])):=ay hq1;refine tQ _ rfl p CM (tI dx _ _ rfl (s1 _ _ hp) T.cl (uu T.n3 (lk_f x) q1 x.f _ (tJ _ rfl rfl ac (s1 _ _ L.f) ?_ (λq hq=>?_))))
  ·rw[aD];show 1+a.now.length≤sizeLine;exact rq (show 1+a.now.length≤10 by omega) (by decide)
  ·refine k _ x q (dR L tk (s1.trans (ay hq)) ?_ (s1.free hq));rw[ac];show some (HO.lst (V.int _::nV a.now))=some (HO.lst (V.int _::iV (a.now.map Su111.nat)));congr 2;unfold iV nV;rw[sN];rfl
theorem scState:ap ["self"] ["self"] (ag (mth 8)):=⟨rfl,rfl,rfl,by decide +kernel,rfl,by decide +kernel,by decide +kernel⟩
theorem ok_state{f:Addr}{fd:FuncData}(F:Fun K "state" "MachineLine.state" (mth 8) f fd)(T:be K mg CM)(X:dF K mg):aZ P w K mg base CX0 1 f fd ["self"] (spC P w CM CR tabs (iu .state)):=by
 refine F.ok scState (λvs H Q E h=>?_) (λcdv A outer s H vs Q E hr h=>?_)
 ·obtain⟨p,x,a,n,rest,c,rfl,⟨rfl,_⟩,_⟩:=h;rfl
 ·obtain⟨p,x,a,n,rest,c,rfl,⟨rfl,rfl⟩,L,hn,tk,G,k⟩:=h;obtain⟨dx,hp⟩:=L.ins;refine tF _ (ah (aj (aT cA (aT cA (aG (aa (aM au (by rfl) X.T.hlen PySem.boot_len (aa (ax (pv 0) rfl) ae)) ae)) (ax (pv 0) rfl)) (ax (pv 0) rfl)))) ?_;have hl:=G.v.len;have hm:a.chances.length≤4:=G.m;refine tV _ rfl p CM dx _ (tJ _ rfl hp T.cl T.n1 (d3 x) (tP x.c _ rfl (.inl (SqL.of L.c)) (by show 1≤sizeLine;decide) (λq1 hq1=>?_)));rw[aD];have s1:ao H (upd H q1 (.lst [.int ((a.chances.length:Nat):Int)])):=ay hq1;refine tQ _ rfl p CM (tI dx _ _ rfl (s1 _ _ hp) T.cl (uu T.n1 (d3 x) q1 x.c _ (tJ _ rfl rfl ac (s1 _ _ L.c) ?_ (λq2 hq2=>?_))))
  ·rw[aD];show 1+a.chances.length≤sizeLine;exact rq (show 1+a.chances.length≤10 by omega) (by decide)
  ·have s2:=s1.trans (ay (o:=.lst ([.int ((a.chances.length:Nat):Int)]++nV a.chances)) hq2);refine tQ _ rfl p CM (tI dx _ _ rfl (s2 _ _ hp) T.cl (uu T.n2 (eK x) q2 x.h _ (tJ _ rfl rfl ac (s2 _ _ L.h) ?_ (λq hq=>?_))))
   ·rw[r9,aD,aD];show 1+a.chances.length+a.rooms.length≤sizeLine;exact rq (show 1+a.chances.length+a.rooms.length≤20 by omega) (by decide)
   ·refine k _ x q (dR L tk (s2.trans (ay hq)) ?_ (s2.free hq));rw[ac];show some (HO.lst ((V.int _::nV a.chances)++nV a.rooms))=some (HO.lst (V.int _::iV ((a.chances++a.rooms).map Su111.nat)));congr 2;unfold iV nV;rw[sQ,sQ,List.cons_append,sN,sN];rfl
end
section
variable {P:Program} {w:World} {K:fG} {mg:Str→Option Value} {base:Heap} {CM CR:Addr} {tabs:List (Addr×Str)}
theorem empty_spC{vs:List V}{H:Hp}{Q:VK}{E:XK}(h:spC P w CM CR tabs (iu .empty) vs H Q E):spEmpty P w CM CR tabs vs H Q E:=by
 obtain⟨p,x,a,n,rest,c,rfl,⟨rfl,rfl⟩,L,hn,tk,G,k⟩:=h;have hl:=G.v.len;have hm:a.chances.length≤4:=G.m;exact tU p x (tG a n rfl L (by omega) tk (λH' x' q O _ _=>k H' x' q ⟨O.line.mono (by omega),O.tabs,O.keep,O.moved,O.ans,O.fresh,O.back⟩))
theorem scRoom:ap ["self","room","hold","changed","earlier"] ["self","room","hold"] (ag (mth 6)):=⟨rfl,rfl,rfl,by decide +kernel,rfl,by decide +kernel,by decide +kernel⟩
theorem hX{l:List Nat}{i r:Nat}(h:∀q,q∈l→q<2^60)(hr:r<2^60):∀q,q∈l.set i r→q<2^60:=λq hq=>by
 rcases tu hq with h1|h1
 ·exact h q h1
 ·rw[h1];exact hr
theorem gd{a:Su111.Abs}(G:dv a):∀q,q∈a.rooms→q<2^60:=λq hq=>by
 have h1:=iQ hq;have:=G.vol;have e60:(2:Nat)^60=1152921504606846976:=by decide
 omega
theorem ok_room{f:Addr}{fd:FuncData}(F:Fun K "room" "MachineLine.room" (mth 6) f fd)(T:be K mg CM)(X:dF K mg)(EM:aY K CM "empty" "MachineLine.empty" (mth 10) ["self"]):aZ P w K mg base CX0 3 f fd ["self","room","hold"] (spC P w CM CR tabs (relTwo .room)):=by
 refine F.ok scRoom (λvs H Q E h=>?_) (λcdv A outer s H vs Q E hr h=>?_)
 ·obtain⟨p,x,a,n,rest,c,rfl,⟨i,kk,rfl,_⟩,_⟩:=h;rfl
 ·obtain⟨p,x,a,n,rest,c,rfl,⟨i,r,rfl,rfl,hi32,hr32⟩,L,hn,tk,G,k⟩:=h;obtain⟨dx,hp⟩:=L.ins;have hr1:bP 1 _:=hr.mono (by decide);refine tF _ (ad (bh (aP ja (pv 1) (aM au (by rfl) X.T.hlen PySem.boot_len (aa (ax (pv 0) rfl) ae)) (aO _)) (ah (aj (aG (aa (a8 (v:=.int (-2)) rfl X.R2.h ⟨_,rfl⟩) ae)))) aI)
   (ad (bh (jw (di (aJ (ok_isR X.DR.F X.N8) hr1 rfl X.DR.mgf X.DR.F.kp X.DR.b .nil az (aa (pv 2) ae)))) (ah (aj (aG (aa (a8 (v:=.int (-22)) rfl X.R22.h ⟨_,rfl⟩) ae)))) aI)
   (ad (aC (i:=3) scRoom.nd rfl (Or.inl rfl) (aJ (ok_chg X.DK.F X.T.hlist) hr1 rfl X.DK.mgf X.DK.F.kp X.DK.b .nil az (aa (ax (pv 0) rfl) (aa (pv 1) (aa (pv 2) ae)))))
   (ad (bh (di (aJ (nU X.DY.F X.T.DP X.N27) hr rfl X.DY.mgf X.DY.F.kp X.DY.b .nil az (aa (pv 3) ae))) (ah (aj (aG (aa (a8 (v:=.int (-28)) rfl X.R28.h ⟨_,rfl⟩) ae)))) aI)
   (ad (aC (i:=4) scRoom.nd rfl (Or.inl rfl) (aU aA (ax (pv 0) rfl) (pv 1) (λ_ _=>rfl)))
   (ad (cR (pv 0) (pv 3) rfl)
   (ad (bU (bn (pv 0) T.cl EM.M (k6 (P:=P) (w:=w) (base:=base) (CR:=CR) (tabs:=tabs) EM.F T X) hr1 EM.b .nil az))
   (ah (aj (aG (aa (pv 4) ae))))))))))) ?_
  have ed:Su111.does a (.room i r)=if a.isR i=false then (a,Su111.no (-2)) else if r=0∨8<r then (a,Su111.no (-22)) else if Su111.STATES<({a with rooms:=a.rooms.set i r}:Su111.Abs).size then (a,Su111.no (-28)) else (⟨a.chances,a.rooms.set i r,a.rooms.map λ_=>0⟩,Su111.num (a.room i) []):=rfl
  have hl:=G.v.len;have hm:a.chances.length≤4:=G.m;refine tT _ rfl _ rfl p CM (tI dx _ _ rfl hp T.cl (ue T.n2 (eK x) x.h _ rfl (.inl (SqL.of L.h)) (ug _ _ rfl rfl _ rfl ?_)));rw[aD];by_cases h1:a.rooms.length≤i
  ·rw[ed,if_pos (eR.mpr h1)]at k;refine bT (decide_eq_true (by omega)) ?_;exact⟨(by show 1≤sizeLine;decide),λq hq=>k _ x q (bw L tk hq rfl)⟩
  ·rw[ed,if_neg (λz=>h1 (eR.mp z))]at k;refine bF (decide_eq_false (by omega)) ?_;refine uC _ rfl r rfl _ rfl ?_;cases okr:(decide (1≤r)&&decide (r≤8)) with
   |false =>
    rw[if_pos (by simp at okr;omega)]at k;exact⟨(by show 1≤sizeLine;decide),λq hq=>k _ x q (bw L tk hq rfl)⟩
   |true =>
    have hr8:1≤r∧r≤8:=by simpa using okr
    rw[if_neg (by omega)]at k;have hi:i<a.rooms.length:=by omega
    refine tV _ rfl p CM dx _ (tJ _ rfl hp T.cl T.n2 (eK x) (ur _ rfl _ rfl x.h (tI a.rooms i r rfl (SqL.of L.h) hi (λq1 hq1=>?_))));have s1:ao H (upd H q1 (.lst (nV (a.rooms.set i r)))):=ay hq1;have hq1':(upd H q1 (.lst (nV (a.rooms.set i r)))) q1=some (.lst (nV (a.rooms.set i r))):=ac;generalize upd H q1 (.lst (nV (a.rooms.set i r)))=H1 at s1 hq1';refine tF _ rfl (tG q1 (a.rooms.set i r) rfl (SqL.of hq1') (by rw[si];omega) (hX (gd G) (by
     have e60:(2:Nat)^60=1152921504606846976:=by decide
     omega)) (λH2 s2=>?_))
    have s12:=s1.trans s2;refine tF _ rfl ?_;have es:({a with rooms:=a.rooms.set i r}:Su111.Abs).size=Lr.vol (a.rooms.set i r):=f7 _;by_cases h27:27<Lr.vol (a.rooms.set i r)
    ·rw[if_pos (by rw[es];exact h27)]at k;refine bT (decide_eq_true h27) ?_;exact⟨(by show 1≤sizeLine;decide),λq hq=>k _ x q (dR L tk (s12.trans (ay hq)) ac (s12.free hq))⟩
    ·rw[if_neg (by rw[es];exact h27)]at k;refine bF (decide_eq_false h27) ?_;have L2:=L.same s12;have hq2:=s2 _ _ hq1';refine tQ _ rfl p CM (tI dx _ _ rfl (s12 _ _ hp) T.cl (t9 T.n2 (eK x) _ rfl x.h _ (tG _ _ rfl rfl (SqL.of L2.h) (aR (cP hi)) ?_)));refine tF _ rfl (tR _ rfl p CM dx (tJ _ rfl (s12 _ _ hp) T.cl T.n2 (by show 4<1000;decide) ?_));rw[put_h];have mv:∀b∈own {x with h:=q1} p,b∈own x p∨H b=none:=λb hb=>by
      unfold own at hb ⊢;simp at hb ⊢;rcases hb with rfl|rfl|rfl|rfl|rfl
      ·exact .inl (.inl rfl)
      ·exact .inl (.inr (.inl rfl))
      ·exact .inr hq1
      ·exact .inl (.inr (.inr (.inr (.inl rfl))))
      ·exact .inl (.inr (.inr (.inr (.inr rfl))))
     have L3:ba P w CM CR (upd H2 p (.ins CM dx (bv {x with h:=q1}))) p {x with h:=q1} ⟨a.chances,a.rooms.set i r,a.now⟩ n:=by
      refine fj L ⟨dx,ac⟩ ?_ ?_ ?_ rfl (λxs z=>?_) (ai L.c hq1) L.n2 (ai L.f hq1).symm (λb o e hb _=>?_) mv
      ·rw[af (a9 L2.c (s12 _ _ hp) (λz=>nomatch z))];exact L2.c
      ·rw[af (a9 hq2 (s12 _ _ hp) (λz=>nomatch z))];exact hq2
      ·rw[af (a9 L2.f (s12 _ _ hp) (λz=>nomatch z))];exact L2.f
      ·rw[af (a9 z hp (λz=>nomatch z))];exact s12 _ _ z
      ·rw[af λz=>hb (by rw[z];unfold own;simp)];exact s12 _ _ e
     have t3:aQ tabs (upd H2 p (.ins CM dx (bv {x with h:=q1}))):=oU (tk.same s12) (s12 _ _ hp);have bk:∀b,(upd H2 p (.ins CM dx (bv {x with h:=q1}))) b=none→H b=none:=λb z=>by
      cases e:H b with
      |none=>rfl
      |some o =>
       by_cases hb:b=p
       ·subst hb;rw[ac]at z;cases z
       ·rw[af hb,s12 _ _ e]at z;cases z
     have kp:∀b o,H b=some o→b≠p→(upd H2 p (.ins CM dx (bv {x with h:=q1}))) b=some o:=λb o e hb=>by
      rw[af hb];exact s12 _ _ e
     have p3:(upd H2 p (.ins CM dx (bv {x with h:=q1}))) p=some (.ins CM dx (bv {x with h:=q1})):=ac;generalize upd H2 p (.ins CM dx (bv {x with h:=q1}))=H3 at L3 t3 bk kp p3;refine tR _ rfl p dx _ (ub rfl p3 rfl p {x with h:=q1} (tG _ n rfl L3 (by rw[si];omega) t3 (λH4 x4 q4 O xc xh=>?_)));refine tK _ rfl (by show 1≤sizeLine;decide) (λq hq=>?_);have sq:ao H4 (upd H4 q (.lst [.int ((a.rooms.getD i 0:Nat):Int)])):=ay hq;have bk4:∀b,H4 b=none→H b=none:=λb z=>bk _ (O.back _ z);have mv4:∀b∈own x4 p,b∈own x p∨H b=none:=λb hb=>by
      rcases O.moved b hb with h|h
      ·exact mv b h
      ·exact .inr (bk _ h)
     have kp4:∀b o,H b=some o→b∉own x p→fQ o=false→H4 b=some o:=λb o e hb ht=>by
      refine O.keep b o (kp _ _ e λz=>hb (by rw[z];unfold own;simp)) (λz=>?_) ht;rcases mv b z with h|h
      ·exact hb h
      ·rw[h]at e;cases e
     have e0:(a.rooms.set i r).map (λ_=>0)=a.rooms.map λ_=>0:=by rw[gr,gr,si]
     have OL:=O.line;rw[e0]at OL;exact k _ x4 q ⟨(OL.same sq).mono (by omega),O.tabs.same sq,λb o e hb ht=>sq _ _ (kp4 b o e hb ht),mv4,ac,bk4 _ hq,λb z=>bk4 _ (sq.free z)⟩
end
theorem n8(l:List Nat):(nV l).reverse=nV l.reverse:=by
 unfold nV;rw[List.map_reverse]
section
variable {P:Program} {w:World} {K:fG} {mg:Str→Option Value} {base:Heap} {CM CR:Addr} {tabs:List (Addr×Str)}
theorem scTurn:ap ["self"] ["self"] (ag (mth 7)):=⟨rfl,rfl,rfl,by decide +kernel,rfl,by decide +kernel,by decide +kernel⟩
theorem ok_turn{f:Addr}{fd:FuncData}(F:Fun K "turn" "MachineLine.turn" (mth 7) f fd)(T:be K mg CM)(X:dF K mg)(EM:aY K CM "empty" "MachineLine.empty" (mth 10) ["self"]):aZ P w K mg base CX0 2 f fd ["self"] (spC P w CM CR tabs (iu .turn)):=by
 refine F.ok scTurn (λvs H Q E h=>?_) (λcdv A outer s H vs Q E hr h=>?_)
 ·obtain⟨p,x,a,n,rest,c,rfl,⟨rfl,_⟩,_⟩:=h;rfl
 ·obtain⟨p,x,a,n,rest,c,rfl,⟨rfl,rfl⟩,L,hn,tk,G,k⟩:=h;obtain⟨dx,hp⟩:=L.ins;refine tF _ (ad (cR (pv 0) (fE rfl rfl X.T.hlist rfl X.T.hrev (aa (ax (pv 0) rfl) ae)) rfl)
   (ad (cR (pv 0) (fE rfl rfl X.T.hlist rfl X.T.hrev (aa (ax (pv 0) rfl) ae)) rfl)
   (ad (bU (bn (pv 0) T.cl EM.M (k6 (P:=P) (w:=w) (base:=base) (CR:=CR) (tabs:=tabs) EM.F T X) hr EM.b .nil az))
   (ah (aj (aG (aa (aM au (by rfl) X.T.hlen PySem.boot_len (aa (ax (pv 0) rfl) ae)) ae))))))) ?_
  have hl:=G.v.len;have hm:a.chances.length≤4:=G.m;refine tV _ rfl p CM dx _ (tJ _ rfl hp T.cl T.n1 (d3 x) (tP x.c _ rfl (SqL.of L.c) ?_ (λq1 hq1=>?_)))
  ·rw[aD];exact rq (show a.chances.length≤4 by omega) (by decide)
  refine tR _ rfl p CM dx (tJ _ rfl (ay hq1 _ _ hp) T.cl T.n1 (by show 4<1000;decide) ?_);rw[n8];have S1:=gO (l:=nV a.chances.reverse) (fs':=a7 "chances" (.ref q1) (bv x)) hp hq1;have t1:=S1.tbs hp tk;rw[put_c]at S1 t1 ⊢;generalize upd (upd H q1 (.lst (nV a.chances.reverse))) p (.ins CM dx (bv {x with c:=q1}))=H1 at S1 t1;have nhp:x.h≠p:=a9 L.h hp (λz=>nomatch z);have nfp:x.f≠p:=a9 L.f hp (λz=>nomatch z);refine tV _ rfl p CM dx _ (tJ _ rfl S1.ins T.cl T.n2 (eK _) (tP x.h _ rfl (SqL.of (S1.keep _ _ L.h nhp)) ?_ (λq2 hq2=>?_)))
  ·rw[aD];exact rq (show a.rooms.length≤4 by omega) (by decide)
  refine tR _ rfl p CM dx (tJ _ rfl (ay hq2 _ _ S1.ins) T.cl T.n2 (by show 4<1000;decide) ?_);rw[n8];have S2:=gO (l:=nV a.rooms.reverse) (fs':=a7 "holds" (.ref q2) (bv {x with c:=q1})) S1.ins hq2;have t2:=S2.tbs S1.ins t1;rw[put_h]at S2 t2 ⊢;dsimp only at S2 t2 ⊢;generalize upd (upd H1 q2 (.lst (nV a.rooms.reverse))) p (.ins CM dx (bv ⟨q1,q2,x.f,x.d⟩))=H2 at S2 t2;have kp:∀b o,H b=some o→b≠p→H2 b=some o:=λb o e hb=>S2.keep _ _ (S1.keep _ _ e hb) hb;have bk:∀b,H2 b=none→H b=none:=λb z=>S1.back _ (S2.back _ z);have mv:∀b∈own ⟨q1,q2,x.f,x.d⟩ p,b∈own x p∨H b=none:=λb hb=>by
   unfold own at hb ⊢;simp at hb ⊢;rcases hb with rfl|rfl|rfl|rfl|rfl
   ·exact .inl (.inl rfl)
   ·exact .inr hq1
   ·exact .inr (S1.back _ hq2)
   ·exact .inl (.inr (.inr (.inr (.inl rfl))))
   ·exact .inl (.inr (.inr (.inr (.inr rfl))))
  have pd:x.d≠p:=by
   obtain⟨xs,h1,_⟩:=L.kn;exact a9 h1 hp (λz=>nomatch z)
  have L2:ba P w CM CR H2 p ⟨q1,q2,x.f,x.d⟩ ⟨a.chances.reverse,a.rooms.reverse,a.now⟩ n :=
   fj L ⟨dx,S2.ins⟩ (S2.keep _ _ S1.lst S1.ne) S2.lst (kp _ _ L.f nfp) rfl (λxs z=>kp _ _ z pd) (ai S1.lst hq2) (ai L.f hq1).symm (ai (S1.keep _ _ L.f nfp) hq2).symm (λb o e hb _=>kp _ _ e λz=>hb (by rw[z];unfold own;simp)) mv
  refine tR _ rfl p dx _ (ub rfl S2.ins rfl p ⟨q1,q2,x.f,x.d⟩ (tG _ n rfl L2 (by rw[tz];omega) t2 (λH4 x4 q4 O xc xh=>?_)));obtain⟨dx4,hp4⟩:=O.line.ins;refine tV _ rfl p CM dx4 _ (tJ _ rfl hp4 T.cl T.n1 (d3 _) (tP x4.c _ rfl (.inl (SqL.of O.line.c)) (by show 1≤sizeLine;decide) (λq hq=>?_)));have sq:ao H4 (upd H4 q (.lst [.int (((nV a.chances.reverse).length:Nat):Int)])):=ay hq;have bk4:∀b,H4 b=none→H b=none:=λb z=>bk _ (O.back _ z);have mv4:∀b∈own x4 p,b∈own x p∨H b=none:=λb hb=>by
   rcases O.moved b hb with h|h
   ·exact mv b h
   ·exact .inr (bk _ h)
  have kp4:∀b o,H b=some o→b∉own x p→fQ o=false→H4 b=some o:=λb o e hb ht=>by
   refine O.keep b o (kp _ _ e λz=>hb (by rw[z];unfold own;simp)) (λz=>?_) ht;rcases mv b z with h|h
   ·exact hb h
   ·rw[h]at e;cases e
  have e0:a.rooms.reverse.map (λ_=>0)=a.rooms.map λ_=>0:=by rw[gr,gr,tz]
  have OL:=O.line;dsimp only at OL;rw[e0]at OL;refine k _ x4 q ⟨(OL.same sq).mono (by omega),O.tabs.same sq,λb o e hb ht=>sq _ _ (kp4 b o e hb ht),mv4,?_,bk4 _ hq,λb z=>bk4 _ (sq.free z)⟩;rw[ac,aD,tz];rfl
def relRow(K:fG)(g:List Nat→Su111.Call):Hp→List V→List Addr→Su111.Call→Prop:=λH rest ow c=>∃(pu:Addr) (l:List Nat),rest=[.ref pu]∧H pu=some (.lst (nV l))∧pu∉ow∧l.length≤6∧c=g l
theorem scHour:ap ["self","ups","works"] ["self","ups"] (ag (mth 9)):=⟨rfl,rfl,rfl,by decide +kernel,rfl,by decide +kernel,by decide +kernel⟩
theorem any_max{l:List Nat}{m:Int}(hm:m∈cI l)(hx:∀y,y∈cI l→y≤m):(l.any λx=>decide (1<x))=decide (1<m):=by
 cases h:l.any λx=>decide (1<x) with
 |true =>
  obtain⟨z,hz,h1⟩:=List.any_eq_true.mp h;have h1:1<z:=of_decide_eq_true h1;have:=hx (z:Int) (sv.mpr (tF z hz rfl));exact(decide_eq_true (by omega)).symm
 |false =>
  obtain⟨z,hz,rfl⟩:=sv.mp hm;have h1:=List.any_eq_false.mp h z hz;have h1:¬1<z:=λe=>h1 (decide_eq_true e);exact(decide_eq_false (by omega)).symm
theorem ok_hour{f:Addr}{fd:FuncData}(F:Fun K "hour" "MachineLine.hour" (mth 9) f fd)(T:be K mg CM)(X:dF K mg):aZ P w K mg base CX0 3 f fd ["self","ups"] (spC P w CM CR tabs (relRow K .hour)):=by
 refine F.ok scHour (λvs H Q E h=>?_) (λcdv A outer s H vs Q E hr h=>?_)
 ·obtain⟨p,x,a,n,rest,c,rfl,⟨pu,l,rfl,_⟩,_⟩:=h;rfl
 ·obtain⟨p,x,a,n,rest,c,rfl,⟨pu,l,rfl,hpu,hpo,hl6,rfl⟩,L,hn,tk,G,k⟩:=h;obtain⟨dx,hp⟩:=L.ins;have hr1:bP 1 _:=hr.mono (by decide);refine tF _ (ad (bh (PW.pt (pw_or (aP op_ne (aM au (by rfl) X.T.hlen PySem.boot_len (aa (pv 1) ae)) (aM au (by rfl) X.T.hlen PySem.boot_len (aa (ax (pv 0) rfl) ae)) (aO _)) (nH (aP k5 (aM (cr_max rfl) (by rfl) X.T.hmax (by decide +kernel) (aa (pv 1) ae)) al (aO _))))) (ah (aj (aG (aa (a8 (v:=.int (-22)) rfl X.R22.h ⟨_,rfl⟩) ae)))) aI)
   (ad (aC (i:=2) scHour.nd rfl (Or.inl rfl) (aJ (ok_who X.T.DW.F X.T.DH X.T.hlen X.T.hrange) hr rfl X.T.DW.mgf X.T.DW.F.kp X.T.DW.b .nil az (aa (pv 1) (aa (ax (pv 0) rfl) (aa (ax (pv 0) rfl) ae)))))
   (ad (cR (pv 0) (aJ (k7 X.T.DA.F X.T.hlen X.T.hrange) hr1 rfl X.T.DA.mgf X.T.DA.F.kp X.T.DA.b .nil az (aa (pv 2) (aa (ax (pv 0) rfl) ae))) rfl)
   (ah (aj (aT cA (aG (aa (aU aA (pv 2) (jX fY al) (λ_ _=>rfl)) ae)) (pv 2))))))) ?_
  have ed:Su111.does a (.hour l)=if l.length≠a.m∨l.any (λx=>decide (1<x))=true then (a,Su111.no (-22)) else ({a with now:=a.next a.now l},Su111.num (if (a.works a.now l).getD (a.m-1) false then 1 else 0) ((a.works a.now l).map λb=>if b then 1 else 0)):=rfl
  have hl:=G.v.len;have hm:a.chances.length=a.m:=rfl;have hm4:=G.m;refine tQ _ rfl pu _ (t9 rfl (.inl (SqL.of hpu)) _ rfl p CM (tM dx _ _ rfl hp (ub T.cl T.n1 (d3 x) x.c _ (ui rfl (.inl (SqL.of L.c)) rfl _ rfl ?_))));rw[aD,aD,hm];by_cases h1:l.length=a.m
  ·refine bF (by rw[decide_eq_true (by rw[h1])];rfl) ?_;refine tF _ rfl (tP pu (cI l) rfl (by rw[←nV_cI];exact SqL.of hpu) ?_ (λmx hmx hall=>?_))
   ·unfold cI;rw[rR];omega
   ·refine ug _ _ rfl rfl _ rfl ?_;have ea:=any_max hmx hall;show if decide ((1:Int)<mx)=true then _ else _
    rw[←ea];cases hb:l.any λx=>decide (1<x) with
    |true =>
     rw[ed,if_pos (.inr hb)]at k;exact⟨(by show 1≤sizeLine;decide),λq hq=>k _ x q (bw L tk hq rfl)⟩
    |false =>
     rw[ed,if_neg (by rw[hb];simp[h1])]at k;have hsl:=G.fits.len;refine tT _ rfl _ rfl p CM (tI dx _ _ rfl hp T.cl (t9 T.n2 (eK x) _ rfl p CM (tI dx _ _ rfl hp T.cl (uu T.n3 (lk_f x) pu x.h x.f (tM a a.now l rfl ⟨SqL.of hpu,.inl (SqL.of L.h),.inl (SqL.of L.f),h1,by omega,hsl,hm4⟩ (λpw hpw=>?_))))));have s1:ao H (upd H pw (.lst (nV (wk a a.now l)))):=ay hpw;have w1:(upd H pw (.lst (nV (wk a a.now l)))) pw=some (.lst (nV (wk a a.now l))):=ac;generalize upd H pw (.lst (nV (wk a a.now l)))=H1 at s1 w1;refine tT _ rfl _ rfl p CM (tM dx _ _ rfl (s1 _ _ hp) (ub T.cl T.n3 (lk_f x) pw x.f (tM a a.now l rfl ⟨.inl (SqL.of w1),.inl (SqL.of (s1 _ _ L.f)),by omega,hsl,hm4⟩ (λq2 hq2=>?_))));refine tR _ rfl p CM dx (tJ _ rfl (ay hq2 _ _ (s1 _ _ hp)) T.cl T.n3 (by show 4<1000;decide) ?_);have S2:=gO (l:=nV (a.next a.now l)) (fs':=a7 "filling" (.ref q2) (bv x)) (s1 _ _ hp) hq2;have t2:=S2.tbs (s1 _ _ hp) (tk.same s1);rw[put_f]at S2 t2 ⊢;generalize upd (upd H1 q2 (.lst (nV (a.next a.now l)))) p (.ins CM dx (bv {x with f:=q2}))=H2 at S2 t2;have kp:∀b o,H b=some o→b≠p→H2 b=some o:=λb o e hb=>S2.keep _ _ (s1 _ _ e) hb;have bk:∀b,H2 b=none→H b=none:=λb z=>s1.free (S2.back _ z);have mv:∀b∈own {x with f:=q2} p,b∈own x p∨H b=none:=λb hb=>by
      unfold own at hb ⊢;simp at hb ⊢;rcases hb with rfl|rfl|rfl|rfl|rfl
      ·exact .inl (.inl rfl)
      ·exact .inl (.inr (.inl rfl))
      ·exact .inl (.inr (.inr (.inl rfl)))
      ·exact .inr (s1.free hq2)
      ·exact .inl (.inr (.inr (.inr (.inr rfl))))
     have pd:x.d≠p:=by
      obtain⟨xs,z,_⟩:=L.kn;exact a9 z hp (λz=>nomatch z)
     have ncp:x.c≠p:=a9 L.c hp (λz=>nomatch z);have nhp:x.h≠p:=a9 L.h hp (λz=>nomatch z);have kpo:∀b o,H b=some o→b∉own x p→fQ o=false→H2 b=some o:=λb o e hb _=>kp _ _ e λz=>hb (by rw[z];unfold own;simp);have L2:ba P w CM CR H2 p {x with f:=q2} {a with now:=a.next a.now l} n :=
      fj L ⟨dx,S2.ins⟩ (kp _ _ L.c ncp) (kp _ _ L.h nhp) S2.lst rfl (λxs z=>kp _ _ z pd) L.n1 (ai (s1 _ _ L.c) hq2) (ai (s1 _ _ L.h) hq2) kpo mv
     have w2:H2 pw=some (.lst (nV (wk a a.now l))):=S2.keep _ _ w1 (a9 w1 (s1 _ _ hp) (λz=>nomatch z));refine tF _ rfl (tR _ rfl pw _ _ (tJ _ rfl rfl (SqL.of w2) (lG (by rw[dA];omega)) (by show 1≤sizeLine;decide) (λq3 hq3=>?_)));rw[dA];have s3:ao H2 (upd H2 q3 (.lst [V.int (((wk a a.now l).getD (a.m-1) 0:Nat):Int)])):=ay hq3;refine tR _ rfl q3 pw _ (tJ _ rfl rfl ac (s3 _ _ w2) ?_ (λq hq=>?_))
     ·rw[aD,dA];show 1+a.m≤sizeLine;exact rq (show 1+a.m≤10 by omega) (by decide)
     ·have sq:=s3.trans (ay (o:=.lst ([V.int (((wk a a.now l).getD (a.m-1) 0:Nat):Int)]++nV (wk a a.now l))) hq);refine k _ {x with f:=q2} q ⟨(L2.same sq).mono (by omega),t2.same sq,λb o e hb ht=>sq _ _ (kpo b o e hb ht),mv,?_,bk _ (s3.free hq),λb z=>bk _ (sq.free z)⟩;rw[ac,lY (by omega)];show some (HO.lst (V.int _::nV (wk a a.now l)))=some (HO.lst (V.int _::iV ((a.works a.now l).map λb=>if b then 1 else 0)));have e1:nV (wk a a.now l)=iV ((a.works a.now l).map λb=>if b then 1 else 0):=by
       unfold nV wk iV;rw[sN,sN];refine sS λb _=>?_;cases b<;>rfl
      rw[e1];congr 3
  ·rw[ed,if_pos (.inl h1)]at k;refine bT (by rw[decide_eq_false (by intro e;injection e with e;omega)];rfl) ?_;exact⟨(by show 1≤sizeLine;decide),λq hq=>k _ x q (bw L tk hq rfl)⟩
end
end My
end
section
namespace My
open PySem PySem.Spec PyProof.Rows L2
open PySem.W (kla_fn kla_obj envX)
structure cH(K:fG)(mg:Str→Option Value)(tabs:List (Addr×Str))(CM:Addr) where
 R:oF K mg
 LK:aY K R.C "looked_for" "LongRun.looked_for" kO ["self","worth"]
 OF:aY K R.C "how_often" "LongRun.how_often" ip ["self","happens"]
 O0:aY K R.C "how_often_out" "LongRun.how_often_out" gQ ["self"]
 M1:dy K tabs OF.fd jv
 M0:dy K tabs O0.fd i6
 hf:Func tabs
 RO:aY K CM "run_of" "MachineLine.run_of" kN ["self","chances","holds"]
 LR:aY K CM "long_run" "MachineLine.long_run" i4 ["self"]
section
variable {P:Program} {w:World} {K:fG} {mg:Str→Option Value} {base:Heap} {CM CR:Addr} {tabs:List (Addr×Str)}
structure d7(P:Program)(w:World)(CM CR:Addr)(tabs:List (Addr×Str))(H H':Hp)(p:Addr)(x:Adr)(a:Su111.Abs)(n:Nat):Prop where
 line:ba P w CM CR H' p x a n
 tabs:aQ tabs H'
 keep:∀b o,H b=some o→b≠x.d→fQ o=false→H' b=some o
 back:iO H H'
variable {H H1 H2:Hp} {p q:Addr} {x:Adr} {a:Su111.Abs} {n n':Nat}
theorem d7.start(L:ba P w CM CR H p x a n)(tk:aQ tabs H):d7 P w CM CR tabs H H p x a n:=⟨L,tk,λ_ _ e _ _=>e,λ_ z=>z⟩
theorem d7.same(W:d7 P w CM CR tabs H H1 p x a n)(e:ao H1 H2):d7 P w CM CR tabs H H2 p x a n:=⟨W.line.same e,W.tabs.same e,λb o z h1 h2=>e _ _ (W.keep b o z h1 h2),W.back.trans (ao.back e)⟩
theorem d7.run(W:d7 P w CM CR tabs H H1 p x a n)(KN:dJ P w CR H2 (hid H2 (own x p)) x.d n')(B:But x.d H1 H2):d7 P w CM CR tabs H H2 p x a n':=by
 obtain⟨dx,hp⟩:=W.line.ins;obtain⟨xs,hx,_⟩:=W.line.kn;obtain⟨xs2,hx2,_⟩:=id KN;refine⟨⟨⟨dx,B _ _ hp (a9 hp hx (λz=>nomatch z))⟩,B _ _ W.line.c (a9 W.line.c hx (λz=>nomatch z)),B _ _ W.line.h (a9 W.line.h hx (λz=>nomatch z)),B _ _ W.line.f (a9 W.line.f hx (λz=>nomatch z)),KN,W.line.n1,W.line.n2,W.line.n3⟩,
  W.tabs.keep λb o e ho=>B _ _ e λz=>?_,λb o z h1 h2=>B _ _ (W.keep b o z h1 h2) h1,λb z=>W.back _ ?_⟩
 ·rw[z,hx]at e;cases e;rcases ho with ho|⟨_,ho⟩
  ·cases ho
  ·cases ho
 ·cases e:H1 b with
  |none=>rfl
  |some o =>
   by_cases hb:b=x.d
   ·subst hb;rw[hx2]at z;cases z
   ·rw[B _ _ e hb]at z;cases z
theorem d7.mild(W:d7 P w CM CR tabs H H1 p x a n)(m:de H1 H2)(b:iO H1 H2)(t:aQ tabs H2):d7 P w CM CR tabs H H2 p x a n:=by
 refine⟨⟨let ⟨dx,h⟩:=W.line.ins;⟨dx,m _ _ h rfl⟩,m _ _ W.line.c rfl,m _ _ W.line.h rfl,m _ _ W.line.f rfl,?_,W.line.n1,W.line.n2,W.line.n3⟩,t,λb o z h1 h2=>m _ _ (W.keep b o z h1 h2) h2,W.back.trans b⟩;obtain⟨xs,h1,h2,h3⟩:=W.line.kn;refine tK xs (m _ _ h1 rfl) h2 (h3.keep λb o z ho=>li _ m _ _ z ?_);rcases ho with ho|⟨_,_,_,rfl⟩
 ·cases o<;>first|rfl|cases ho
 ·rfl
theorem d7.mono(W:d7 P w CM CR tabs H H1 p x a n)(e:n≤n'):d7 P w CM CR tabs H H1 p x a n':=⟨W.line.mono e,W.tabs,W.keep,W.back⟩
theorem d7.out{l:List V}{ans:List Int}(W:d7 P w CM CR tabs H H1 p x a n)(hq:H1 q=none)(e:l=iV ans):Out P w CM CR tabs H (upd H1 q (.lst l)) p x x a n q ans:=by
 subst e;have W2:=W.same (ay (o:=.lst (iV ans)) hq);exact⟨W2.line,W2.tabs,λb o z hb ht=>W2.keep b o z (λe=>hb (by rw[e];unfold own;simp)) ht,λb hb=>.inl hb,ac,W.back _ hq,W2.back⟩
theorem cW.ins{C r:Addr}{H:Hp}{a:Su111.Abs}(R:cW C H r a):∃dx c f h s,H r=some (.ins C dx (runF c f h s)):=by
 obtain⟨dx,pf,ph,ps,fs,hs,d,Z,hp,_⟩:=R.ex;exact uA dx _ _ _ _ hp
theorem dG{c f h s:V}{g:Str}(h1:¬g="shares")(h2:¬g="hours")(h3:¬g="fillings")(h4:¬g="cases"):(runF c f h s).lookup g=none:=by
 unfold runF;rw[bj,bj,bj,bj,if_neg h1,if_neg h2,if_neg h3,if_neg h4];rfl
theorem dE{r f:Addr}{b:Su111.Abs}{cells:List (Str×Addr)}{cap:List (Str×Nat)}{σ:L2.St}{H3:Hp}{CH:Hp→Prop}{g:List Nat→List Nat→Bool}{kw:Nat}{Q:VK}{C:Addr}(hv:Lr.a0 b)(hvol:Lr.vol b.rooms≤27)(hm:b.m≤4)(RA:cW C H2 r b)(tk:aQ tabs H2)(Sh:eU cells cap σ H2 H3)(hσ:∀p∈cap,∃v,σ[p.2]?=some (some v))(W:m6 P w K mg base kw f b CH (λs u=>.bl (g s u)))(hC:CH H3)(k:∀(H4:Hp) (q:Addr),de H2 (hid H4 (cT cells cap))→iO H2 (hid H4 (cT cells cap))→aQ tabs (hid H4 (cT cells cap))→(hid H4 (cT cells cap)) q=some (.lst (iV (fr (b.often g))))→H2 q=none→Q (.ref q) H4):nj P w K mg base C tabs kw [.ref r,.ref f] H3 (λv H4=>(∀c∈cT cells cap,H4 c=H3 c)→Q v H4) E0:=by
 refine tU r f (tM b CH g rfl (RA.mild (ao.mild Sh.same)) (tN hv hvol hm W hC (tk.same Sh.same) (λH4 q4 m4 b4 t4 hq4 hn4 hcs=>?_)));have hn:=Sh.none hσ;refine k _ q4 (Sh.backM hσ m4) (Sh.backB hσ b4) (t4.hid λc hc=>?_) ?_ (Sh.same.free hn4)
 ·obtain⟨_,o,e,v,hv⟩:=hn c hc;exact⟨o,uj ((hcs c hc).trans e) v hv⟩
 ·rw[aV λz=>?_]
  ·exact hq4
  ·obtain⟨_,o,e,_⟩:=hn q4 z;rw[hn4]at e;cases e
theorem look_read{r f:Addr}{b:Su111.Abs}{cells:List (Str×Addr)}{cap:List (Str×Nat)}{σ:L2.St}{H3:Hp}{CH:Hp→Prop}{g:List Nat→List Nat→Int}{kw:Nat}{Q:VK}{C:Addr}(hv:Lr.a0 b)(hvol:Lr.vol b.rooms≤27)(hm:b.m≤4)(RA:cW C H2 r b)(Sh:eU cells cap σ H2 H3)(hσ:∀p∈cap,∃v,σ[p.2]?=some (some v))(W:m6 P w K mg base kw f b CH (λs u=>.int (g s u)))(hC:CH H3)(hg:∀s u,Lr.cu b.rooms s→0≤g s u∧g s u≤1000)(k:∀(S:Nat→Int) (T:Nat),Lr.Bal b S T→∀(H4:Hp) (q:Addr),ao H2 (hid H4 (cT cells cap))→(hid H4 (cT cells cap)) q=some (.lst (iV (fr (Lr.look b S T g))))→H2 q=none→Q (.ref q) H4):spLook P w K mg base C kw [.ref r,.ref f] H3 (λv H4=>(∀c∈cT cells cap,H4 c=H3 c)→Q v H4) E0:=by
 refine tU r f (tM b CH g rfl (RA.mild (ao.mild Sh.same)) (tN hv hvol hm W hC hg (λS T hb H4 q4 s4 hq4 hn4 hcs=>?_)));refine k S T hb _ q4 (Sh.back hσ s4) ?_ (Sh.same.free hn4);rw[aV λz=>?_]
 ·exact hq4
 ·obtain⟨_,o,e,_⟩:=Sh.none hσ q4 z;rw[hn4]at e;cases e
end
section
variable {P:Program} {w:World} {K:fG} {mg:Str→Option Value} {base:Heap} {CM:Addr} {tabs:List (Addr×Str)}
theorem okLR(A:cH K mg tabs CM)(T:be K mg CM)(X:dF K mg):aZ P w K mg base CX0 7 A.LR.f A.LR.fd ["self"] (mj P w K CM A.R.C):=qM A.LR.F T X.T A.R A.RO
theorem okO0(A:cH K mg tabs CM)(X:dF K mg)(hB:BAt mg base):aZ P w K mg base CX0 8 A.O0.f A.O0.fd ["self"] (o0 A.R.C tabs):=ok_often0 A.O0.F A.R.T A.LK A.OF A.M1 A.M0 A.hf hB X.T.DLo X.T.DGc X.T.hzip X.T.hsum
theorem okOF(A:cH K mg tabs CM)(X:dF K mg)(hB:BAt mg base)(kw:Nat):aZ P w K mg base CX0 (kw+5) A.OF.f A.OF.fd ["self","happens"] (nj P w K mg base A.R.C tabs kw):=pM A.OF.F A.R.T A.LK A.M1 A.hf hB X.T.DLo X.T.DGc X.T.hzip X.T.hsum
theorem okLK(A:cH K mg tabs CM)(X:dF K mg)(kw:Nat):aZ P w K mg base CX0 (kw+3) A.LK.f A.LK.fd ["self","worth"] (spLook P w K mg base A.R.C kw):=ok_look A.LK.F A.R.T X.T.DLo X.T.DGc X.T.hzip X.T.hsum
theorem scOut:ap ["self"] ["self"] (ag (mth 15)):=⟨rfl,rfl,rfl,by decide +kernel,rfl,by decide +kernel,by decide +kernel⟩
theorem ok_out{f:Addr}{fd:FuncData}(F:Fun K "out" "MachineLine.out" (mth 15) f fd)(T:be K mg CM)(X:dF K mg)(RN:cH K mg tabs CM)(hB:BAt mg base):aZ P w K mg base CX0 9 f fd ["self"] (spC P w CM RN.R.C tabs (iu .out)):=by
 refine F.ok scOut (λvs H Q E h=>?_) (λcdv A outer s H vs Q E hr h=>?_)
 ·obtain⟨p,x,a,n,rest,c,rfl,⟨rfl,_⟩,_⟩:=h;rfl
 ·obtain⟨p,x,a,n,rest,c,rfl,⟨rfl,rfl⟩,L,hn,tk,G,k⟩:=h;refine tF _ (ah (aj (aT cA (aG (aa al ae)) (bn (bn (pv 0) T.cl RN.LR.M (okLR RN T X) (hr.mono (by decide)) RN.LR.b .nil az) RN.R.T.cl RN.O0.M (okO0 RN X hB) hr RN.O0.b .nil az)))) ?_;have GL:=G.l;refine⟨(by show 1≤sizeLine;decide),λq0 hq0=>?_⟩;have W0:=(d7.start L tk).same (ay (o:=.lst [V.int 0]) hq0);have z0:(upd H q0 (.lst [V.int 0])) q0=some (.lst [V.int 0]):=ac;generalize upd H q0 (.lst [V.int 0])=H0 at W0 z0;obtain⟨dx,hp⟩:=W0.line.ins;refine tR _ rfl p dx _ (ub rfl hp rfl p x (tG a n rfl W0.line (by omega) GL (λH1 r RA KN B=>?_)));have W1:=W0.run KN B;have z1:=B _ _ z0 (by
   obtain⟨xs,h1,_⟩:=W0.line.kn;exact a9 z0 h1 (λz=>nomatch z))
  obtain⟨dxr,c1,f1,h1,s1,hri⟩:=RA.ins;refine t6 r dxr _ rfl (uv hri (dG (by decide) (by decide) (by decide) (by decide)) r ⟨a.chances,a.rooms,[]⟩ rfl (um RA GL.v GL.vol GL.m W1.tabs (λH2 q2 m2 b2 t2 hq2 hn2=>?_)));have W2:=W1.mild m2 b2 t2;refine tY q0 q2 _ _ (um rfl rfl (m2 _ _ z1 rfl) hq2 (by show 1+2≤sizeLine;decide) (λq hq=>?_));refine k _ x q ?_;have O:=(W2.mono (n':=n+2) (by omega)).out (l:=[V.int 0]++iV (fr (Su111.Abs.out ⟨a.chances,a.rooms,[]⟩))) (ans:=e9 (Su111.does a .out).2) hq rfl;exact O
end
end My
end
section
namespace My
open PySem PySem.Spec PyProof.Rows L2
open PySem.W (kla_fn kla_obj envX fnMade)
abbrev qRate:Str:="MachineLine.rate.<locals>.<lambda>"
abbrev fb:Str:="MachineLine.starved.<locals>.is_starved"
abbrev fe:Str:="MachineLine.blocked.<locals>.is_blocked"
section
variable {P:Program} {w:World} {K:fG} {mg:Str→Option Value} {base:Heap} {CM:Addr} {tabs:List (Addr×Str)}
def ge(g:Nat→Su111.Call):Hp→List V→List Addr→Su111.Call→Prop:=λ_ rest _ c=>∃i:Nat,rest=[.int i]∧c=g i∧i<2^32
theorem scRate:ap ["self","machine"] ["self","machine"] (ag (mth 16)):=⟨rfl,rfl,rfl,by decide +kernel,rfl,by decide +kernel,by decide +kernel⟩
theorem ok_rate{f:Addr}{fd:FuncData}(F:Fun K "rate" "MachineLine.rate" (mth 16) f fd)(T:be K mg CM)(X:dF K mg)(RN:cH K mg tabs CM)(MK:dy K tabs fd qRate)(hB:BAt mg base):aZ P w K mg base CX0 9 f fd ["self","machine"] (spC P w CM RN.R.C tabs (ge .rate)):=by
 obtain⟨cc,Tb,ec,hcd,hmem⟩:=MK.ex;refine gz F scRate (λvs H Q E h=>?_) (λA outer s H vs Q E hr h=>?_)
 ·obtain⟨p,x,a,n,rest,c,rfl,⟨i,rfl,_⟩,_⟩:=h;rfl
 ·obtain⟨p,x,a,n,rest,c,rfl,⟨i,rfl,rfl,_⟩,L,hn,tk,G,k⟩:=h;refine tF _ (ad (bh (aP ja (pv 1) (aM au (by rfl) X.T.hlen PySem.boot_len (aa (ax (pv 0) rfl) ae)) (aO _)) (ah (aj (aG (aa (a8 (v:=.int (-2)) rfl X.R2.h ⟨_,rfl⟩) ae)))) aI)
   (ah (aj (aT cA (aG (aa al ae)) (dj [("machine",1)] (λp hp=>by simp at hp;subst hp;exact tS rfl rfl rfl) (bn (pv 0) T.cl RN.LR.M (okLR RN T X) (hr.mono (by decide)) RN.LR.b .nil az) RN.R.T.cl RN.OF.M (okOF RN X hB 1) (hr.mono (by decide)) RN.OF.b (aa (iz (T:=Tb) (q:=qRate) hB ec hcd rfl (show ∀y∈(iY ["machine"]).names,y.2=.free→(ag (mth 16)).names.lookup y.1=some .cell∨(ag (mth 16)).names.lookup y.1=some .free by decide +kernel)) ae)))))) ?_
  have ed:Su111.does a (.rate i)=if a.isM i=false then (a,Su111.no (-2)) else (a,Su111.num 0 (Su111.two (a.rate i))):=rfl
  have GL:=G.l;have hm:a.chances.length=a.m:=rfl;obtain⟨dx,hp⟩:=L.ins;refine tT _ rfl _ rfl p CM (tI dx _ _ rfl hp T.cl (ue T.n1 (d3 x) x.c _ rfl (.inl (SqL.of L.c)) (ug _ _ rfl rfl _ rfl ?_)));rw[aD,hm];by_cases h1:a.m≤i
  ·rw[ed,if_pos (dH.mpr h1)]at k;refine bT (decide_eq_true (by omega)) ?_;exact⟨(by show 1≤sizeLine;decide),λq hq=>k _ x q (bw L tk hq rfl)⟩
  ·rw[ed,if_neg (λz=>h1 (dH.mp z))]at k;refine bF (decide_eq_false (by omega)) ?_;refine⟨(by show 1≤sizeLine;decide),λq0 hq0=>?_⟩;have W0:=(d7.start L tk).same (ay (o:=.lst [V.int 0]) hq0);have z0:(upd H q0 (.lst [V.int 0])) q0=some (.lst [V.int 0]):=ac;generalize upd H q0 (.lst [V.int 0])=H0 at W0 z0;obtain⟨dx,hp⟩:=W0.line.ins;refine tR _ rfl p dx _ (ub rfl hp rfl p x (tG a n rfl W0.line (by omega) GL (λH1 r RA KN B=>?_)));have W1:=W0.run KN B;have z1:=B _ _ z0 (by
    obtain⟨xs,h1,_⟩:=W0.line.kn;exact a9 z0 h1 (λz=>nomatch z))
   obtain⟨dxr,c1,f1,h1',s1,hri⟩:=RA.ins;refine⟨r,tG dxr _ rfl hri (dG (by decide) (by decide) (by decide) (by decide)) (W1.tabs _ hmem) (λfn c' ctv H2 M=>λH3 Sh=>?_)⟩;have hσ:∀p'∈([("machine",1)]:List (Str×Nat)),∃v,([some (V.ref p),some (V.int (i:Int))]:L2.St)[p'.2]?=some (some v):=λp' hp'=>by simp at hp';subst hp';exact⟨_,rfl⟩
   have m1:de H1 H2:=M.mild (W1.tabs _ hmem);have t2:aQ tabs H2:=W1.tabs.made RN.hf hmem M;have W2:=W1.mild m1 M.back t2;have S:iN ["filling","ups","works","machine"] psW ["machine"] (iY ["machine"]):=⟨rfl,rfl,rfl,by decide +kernel,rfl,by decide +kernel,by decide +kernel,by decide +kernel,by decide +kernel⟩
   obtain⟨C3,hcl,hcn⟩:=fM (cap:=[("machine",1)]) (vs:=[V.int (i:Int)]) S M.fn M.code rfl rfl rfl Sh (λj p' hj=>by
    cases j with
    |zero=>cases hj;exact tF _ rfl rfl
    |succ j=>simp at hj) rfl
   have W':=dz (P:=P) (w:=w) (K:=K) (mg:=mg) (base:=base) (k:=0) (f:=fn) (a:=⟨a.chances,a.rooms,[]⟩) (CH:=λ_=>True) (g:=λs u=>V.bl ((Su111.Abs.works ⟨a.chances,a.rooms,[]⟩ s u).getD i false)) (N:=["filling","ups","works","machine"]) (fv:=["machine"]) (fvs:=[V.int (i:Int)]) C3 rfl rfl rfl rfl (ck.all (λus hl=>match us,hl with|[_,_,_],_=>rfl)) hcl S (λ_ _ _ _=>trivial) (λA outer s H pf pu pw s' u hr h1 h2 h3 hl hul hC'=>by
    refine tF _ (b8 bH (aU aA (pv 2) (pv 3) (λ_ _=>rfl)) al (aO _)) ?_;exact tF _ rfl (tV _ rfl pw _ _ _ (tN rfl rfl (SqL.of h3) (aR (cP (by rw[dA];show i<a.m;omega))) rfl (wk_bl (show i<a.m by omega)) rfl)))
   refine dE (b:=⟨a.chances,a.rooms,[]⟩) GL.v GL.vol GL.m (RA.mild m1) t2 Sh hσ W' ⟨C3,trivial⟩ λH4 q4 m4 b4 t4 hq4 hn4=>?_;have W4:=W2.mild m4 b4 t4;refine tY q0 q4 _ _ (um rfl rfl (m4 _ _ (m1 _ _ z1 rfl) rfl) hq4 (by show 1+2≤sizeLine;decide) (λq hq=>?_));exact k _ x q ((W4.mono (n':=n+2) (by omega)).out (ans:=e9 (Su111.num 0 (Su111.two (a.rate i)))) hq rfl)
theorem mr:ap ["self","machine","is_starved"] ["self","machine"] (ag (mth 17)):=⟨rfl,rfl,rfl,by decide +kernel,rfl,by decide +kernel,by decide +kernel⟩
theorem mt:ap ["self","machine","is_blocked"] ["self","machine"] (ag (mth 18)):=⟨rfl,rfl,rfl,by decide +kernel,rfl,by decide +kernel,by decide +kernel⟩
abbrev scpD:Scope:={kind:=.function,names:=[(("filling" : Str),NameKind.local),(("ups" : Str),NameKind.local),(("works" : Str),NameKind.local),(("machine" : Str),NameKind.free),(("has_piece" : Str),NameKind.globalImplicit)],isGenerator:=false,isCoroutine:=false}
theorem qB{i:Nat}{s u:List Nat}:(u.getD i 0==1 && !hasP i s)=(u.getD i 0==1&&(i != 0&&s.getD (i-1) 0==0)):=by
 unfold hasP;congr 1;by_cases h0:i=0
 ·subst h0;rfl
 ·have e1:(i==0)=false:=beq_eq_false_iff_ne.mpr h0;have e2:(i != 0)=true:=by simp[h0]
  rw[e1,e2,Bool.false_or,Bool.true_and];by_cases h:s.getD (i-1) 0=0
  ·rw[h];rfl
  ·have e3:(s.getD (i-1) 0==0)=false:=beq_eq_false_iff_ne.mpr h;rw[e3,decide_eq_true (by omega)];rfl
theorem qK{f:Addr}{fd:FuncData}(F:Fun K "starved" "MachineLine.starved" (mth 17) f fd)(T:be K mg CM)(X:dF K mg)(RN:cH K mg tabs CM)(MK:dy K tabs fd fb)(hB:BAt mg base):aZ P w K mg base CX0 9 f fd ["self","machine"] (spC P w CM RN.R.C tabs (ge .starved)):=by
 obtain⟨cc,Tb,ec,hcd,hmem⟩:=MK.ex;refine gz F mr (λvs H Q E h=>?_) (λA outer s H vs Q E hr h=>?_)
 ·obtain⟨p,x,a,n,rest,c,rfl,⟨i,rfl,_⟩,_⟩:=h;rfl
 ·obtain⟨p,x,a,n,rest,c,rfl,⟨i,rfl,rfl,_⟩,L,hn,tk,G,k⟩:=h;refine tF _ (ad (bh (aP ja (pv 1) (aM au (by rfl) X.T.hlen PySem.boot_len (aa (ax (pv 0) rfl) ae)) (aO _)) (ah (aj (aG (aa (a8 (v:=.int (-2)) rfl X.R2.h ⟨_,rfl⟩) ae)))) aI)
   (ad (ps_def (i:=2) (T:=Tb) (q:=fb) mr.nd rfl rfl hB ec hcd rfl (show ∀y∈scpD.names,y.2=.free→(ag (mth 17)).names.lookup y.1=some .cell∨(ag (mth 17)).names.lookup y.1=some .free by decide +kernel))
   (ah (aj (aT cA (aG (aa al ae)) (dj [("machine",1)] (λp hp=>by simp at hp;subst hp;exact tS rfl rfl rfl) (bn (pv 0) T.cl RN.LR.M (okLR RN T X) (hr.mono (by decide)) RN.LR.b .nil az) RN.R.T.cl RN.OF.M (okOF RN X hB 2) (hr.mono (by decide)) RN.OF.b (aa (pv 2) ae))))))) ?_
  have ed:Su111.does a (.starved i)=if a.isM i=false then (a,Su111.no (-2)) else (a,Su111.num 0 (Su111.two (a.starved i))):=rfl
  have GL:=G.l;have hm:a.chances.length=a.m:=rfl;obtain⟨dx,hp⟩:=L.ins;refine tT _ rfl _ rfl p CM (tI dx _ _ rfl hp T.cl (ue T.n1 (d3 x) x.c _ rfl (.inl (SqL.of L.c)) (ug _ _ rfl rfl _ rfl ?_)));rw[aD,hm];by_cases h1:a.m≤i
  ·rw[ed,if_pos (dH.mpr h1)]at k;refine bT (decide_eq_true (by omega)) ?_;exact⟨(by show 1≤sizeLine;decide),λq hq=>k _ x q (bw L tk hq rfl)⟩
  ·rw[ed,if_neg (λz=>h1 (dH.mp z))]at k;refine bF (decide_eq_false (by omega)) ?_;refine⟨tk _ hmem,λfn c' ctv doc Hm M=>?_⟩;have mM:de H Hm:=M.mild (tk _ hmem);have Wm:=(d7.start L tk).mild mM M.back (tk.made RN.hf hmem M);refine⟨(by show 1≤sizeLine;decide),λq0 hq0=>?_⟩;have sH0:ao Hm (upd Hm q0 (.lst [V.int 0])):=ay hq0;have W0:=Wm.same sH0;have z0:(upd Hm q0 (.lst [V.int 0])) q0=some (.lst [V.int 0]):=ac;generalize upd Hm q0 (.lst [V.int 0])=H0 at W0 z0 sH0;obtain⟨dx,hp⟩:=W0.line.ins;refine tR _ rfl p dx _ (ub rfl hp rfl p x (tG a n rfl W0.line (by omega) GL (λH1 r RA KN B=>?_)));have W1:=W0.run KN B;obtain⟨xs0,hx0,_⟩:=W0.line.kn;have z1:=B _ _ z0 (a9 z0 hx0 (λz=>nomatch z));have fn1:H1 fn=some (cO _):=B _ _ (sH0 _ _ M.fn) (a9 (sH0 _ _ M.fn) hx0 (λz=>nomatch z));have cf1:eW H1 c' fb:=by
    obtain⟨oc,cvs,tc,g1,g2,g3⟩:=M.code;exact tM oc cvs tc (B _ _ (sH0 _ _ g1) (a9 (sH0 _ _ g1) hx0 (λz=>nomatch z))) g2 g3
   obtain⟨dxr,c1,f1,h1',s1,hri⟩:=RA.ins;refine t6 r dxr _ rfl (uz hri (dG (by decide) (by decide) (by decide) (by decide)) _ rfl (λH3 Sh=>?_));have hσ:∀p'∈([("machine",1)]:List (Str×Nat)),∃v,([some (V.ref p),some (V.int (i:Int)),some (V.ref fn)]:L2.St)[p'.2]?=some (some v):=λp' hp'=>by simp at hp';subst hp';exact⟨_,rfl⟩
   have S:iN ["filling","ups","works","machine"] psW ["machine"] scpD:=⟨rfl,rfl,rfl,by decide +kernel,rfl,by decide +kernel,by decide +kernel,by decide +kernel,by decide +kernel⟩
   obtain⟨C3,hcl,hcn⟩:=fM (cap:=[("machine",1)]) (vs:=[V.int (i:Int)]) S fn1 cf1 rfl rfl rfl Sh (λj p' hj=>by
    cases j with
    |zero=>cases hj;exact tF _ rfl rfl
    |succ j=>simp at hj) rfl
   have W':=lX (P:=P) (w:=w) (K:=K) (mg:=mg) (base:=base) (k:=1) (f:=fn) (a:=⟨a.chances,a.rooms,[]⟩) (CH:=λ_=>True) (g:=λs u=>V.bl (u.getD i 0==1&&(i != 0&&s.getD (i-1) 0==0))) (N:=["filling","ups","works","machine"]) (fv:=["machine"]) (fvs:=[V.int (i:Int)]) C3 rfl rfl rfl rfl (ck.all (λus hl=>match us,hl with|[_,_,_],_=>rfl)) hcl S (λ_ _ _ _=>trivial) (λA outer s H pf pu pw s' u hr h1 h2 h3 hl hul hC'=>by
    refine tF _ (ah (aj (pe_and (b8 bH (aU aA (pv 1) (pv 3) (λ_ _=>rfl)) al (aO _)) (nP (pe_not (aJ (ok_has X.T.DH.F) hr rfl X.T.DH.mgf X.T.DH.F.kp X.T.DH.b .nil az (aa (pv 3) (aa (pv 0) ae)))))))) ?_;have him:i<a.m:=by omega
    have hul:u.length=a.m:=hul;have hl:s'.length=a.rooms.length:=hl;refine ur _ rfl _ rfl pu (tM _ _ _ rfl rfl (ui (SqL.of h2) (aR (cP (by omega))) rfl _ rfl ?_));rw[←qB];by_cases hu1:u.getD i 0=1
    ·refine bT (decide_eq_true (by rw[hu1];rfl)) ?_;refine t0 _ rfl _ rfl (tM i pf s' rfl (.inl (SqL.of h1)) (uk (by have:=G.v.len;omega) _ rfl ?_ rfl));rw[hu1];rfl
    ·refine bF (decide_eq_false (by intro e;injection e with e;exact hu1 (Int.ofNat_inj.mp e))) ⟨?_,rfl⟩;rw[beq_eq_false_iff_ne.mpr hu1];rfl)
   refine dE (b:=⟨a.chances,a.rooms,[]⟩) (g:=λs u=>u.getD i 0==1&&(i != 0&&s.getD (i-1) 0==0)) GL.v GL.vol GL.m RA W1.tabs Sh hσ W' ⟨C3,trivial⟩ λH4 q4 m4 b4 t4 hq4 hn4=>?_;have W4:=W1.mild m4 b4 t4;refine tY q0 q4 _ _ (um rfl rfl (m4 _ _ z1 rfl) hq4 (by show 1+2≤sizeLine;decide) (λq hq=>?_));exact k _ x q ((W4.mono (n':=n+2) (by omega)).out (ans:=e9 (Su111.num 0 (Su111.two (a.starved i)))) hq rfl)
end
end My
end
section
namespace My
open PySem PySem.Spec PyProof.Rows L2
theorem vol_rev:∀l:List Nat,Lr.vol l.reverse=Lr.vol l
 |[]=>rfl
 |r::l=>by
  rw[List.reverse_cons,iP,vol_rev l];show Lr.vol l*(r+1)=(r+1)*Lr.vol l;rw[Nat.mul_comm]
section
variable {P:Program} {w:World} {K:fG} {mg:Str→Option Value} {base:Heap} {CM CR:Addr} {tabs:List (Addr×Str)}
theorem Out.pre{H H1 H':Hp}{p q:Addr}{x x':Adr}{a:Su111.Abs}{n:Nat}{ans:List Int}(e:ao H H1)(O:Out P w CM CR tabs H1 H' p x x' a n q ans):Out P w CM CR tabs H H' p x x' a n q ans :=
 ⟨O.line,O.tabs,λb o z hb ht=>O.keep b o (e _ _ z) hb ht,λb hb=>(O.moved b hb).imp id λz=>e.free z,O.ans,e.free O.fresh,(ao.back e).trans O.back⟩
end
section
variable {P:Program} {w:World} {K:fG} {mg:Str→Option Value} {base:Heap} {CM:Addr} {tabs:List (Addr×Str)}
def spBoth(P:Program)(w:World)(K:fG)(CM CR:Addr)(tabs:List (Addr×Str)):Sp:=λvs H Q _=>∃(p pc ph:Addr) (x:Adr) (a:Su111.Abs) (n:Nat) (cs hs:List Nat),vs=[.ref p,.ref pc,.ref ph]∧ba P w CM CR H p x a n∧n≤90000∧aQ tabs H∧SqL K H pc (nV cs)∧SqL K H ph (nV hs)∧j7 cs hs∧j7 a.chances a.rooms ∧
 ∀(H':Hp) (q:Addr),Out P w CM CR tabs H H' p x x a (n+2) q (0::(Su111.two (Su111.Abs.out ⟨cs,hs,[]⟩)++Su111.two a.out))→Q (.ref q) H'
theorem scBoth:ap ["self","chances","holds"] ["self","chances","holds"] (ag (mth 22)):=⟨rfl,rfl,rfl,by decide +kernel,rfl,by decide +kernel,by decide +kernel⟩
theorem nW{f:Addr}{fd:FuncData}(F:Fun K "both_outs" "MachineLine.both_outs" (mth 22) f fd)(T:be K mg CM)(X:dF K mg)(RN:cH K mg tabs CM)(hB:BAt mg base):aZ P w K mg base CX0 9 f fd ["self","chances","holds"] (spBoth P w K CM RN.R.C tabs):=by
 refine F.ok scBoth (λvs H Q E h=>?_) (λcdv A outer s H vs Q E hr h=>?_)
 ·obtain⟨p,pc,ph,x,a,n,cs,hs,rfl,_⟩:=h;rfl
 ·obtain⟨p,pc,ph,x,a,n,cs,hs,rfl,L,hn,tk,hc,hh,GC,GL,k⟩:=h;refine tF _ (ah (aj (aT cA (aT cA (aG (aa al ae)) (bn (bM (pv 0) T.cl RN.RO.M (pJ RN.RO.F T X.T RN.R) (hr.mono (by decide)) RN.RO.b .nil az (aa (pv 1) (aa (pv 2) ae))) RN.R.T.cl RN.O0.M (okO0 RN X hB) hr RN.O0.b .nil az)) (bn (bn (pv 0) T.cl RN.LR.M (okLR RN T X) (hr.mono (by decide)) RN.LR.b .nil az) RN.R.T.cl RN.O0.M (okO0 RN X hB) hr RN.O0.b .nil az)))) ?_;refine⟨(by show 1≤sizeLine;decide),λq0 hq0=>?_⟩;have s0:ao H (upd H q0 (.lst [V.int 0])):=ay hq0;have W0:=(d7.start L tk).same s0;have z0:(upd H q0 (.lst [V.int 0])) q0=some (.lst [V.int 0]):=ac;have hc0:=s0.seq hc;have hh0:=s0.seq hh;generalize upd H q0 (.lst [V.int 0])=H0 at W0 z0 hc0 hh0;obtain⟨dx,hp⟩:=W0.line.ins;obtain⟨xs0,hx0,_⟩:=W0.line.kn;refine tF _ rfl (tI p dx _ rfl hp rfl (tT _ rfl _ rfl p pc (tZ ph x a n cs hs (tN rfl W0.line (by omega) hc0 hh0 GC (λH1 r RA KN B=>?_)))));have W1:=W0.run KN B;have z1:=B _ _ z0 (a9 z0 hx0 (λz=>nomatch z));obtain⟨dxr,c1,f1,h1,s1,hri⟩:=RA.ins;refine t6 r dxr _ rfl (uv hri (dG (by decide) (by decide) (by decide) (by decide)) r ⟨cs,hs,[]⟩ rfl (um RA GC.v GC.vol GC.m W1.tabs (λH2 q2 m2 b2 t2 hq2 hn2=>?_)));have W2:=W1.mild m2 b2 t2;refine tY q0 q2 _ _ (um rfl rfl (m2 _ _ z1 rfl) hq2 (by show 1+2≤sizeLine;decide) (λq3 hq3=>?_));have s3:ao H2 (upd H2 q3 (.lst ([V.int 0]++iV (fr (Su111.Abs.out ⟨cs,hs,[]⟩))))):=ay hq3;have W3:=W2.same s3;have z3:(upd H2 q3 (.lst ([V.int 0]++iV (fr (Su111.Abs.out ⟨cs,hs,[]⟩))))) q3=some (.lst ([V.int 0]++iV (fr (Su111.Abs.out ⟨cs,hs,[]⟩)))):=ac;generalize upd H2 q3 (.lst ([V.int 0]++iV (fr (Su111.Abs.out ⟨cs,hs,[]⟩))))=H3 at W3 z3;obtain⟨dx3,hp3⟩:=W3.line.ins;obtain⟨xs3,hx3,_⟩:=W3.line.kn;refine tR _ rfl p dx3 _ (ub rfl hp3 rfl p x (tG a (n+1) rfl W3.line (by omega) GL (λH4 r4 RA4 KN4 B4=>?_)));have W4:=W3.run KN4 B4;have z4:=B4 _ _ z3 (a9 z3 hx3 (λz=>nomatch z));obtain⟨dxr4,c4,f4,h4,s4,hri4⟩:=RA4.ins;refine t6 r4 dxr4 _ rfl (uv hri4 (dG (by decide) (by decide) (by decide) (by decide)) r4 ⟨a.chances,a.rooms,[]⟩ rfl (um RA4 GL.v GL.vol GL.m W4.tabs (λH5 q5 m5 b5 t5 hq5 hn5=>?_)));have W5:=W4.mild m5 b5 t5;refine tY q3 q5 _ _ (um rfl rfl (m5 _ _ z4 rfl) hq5 (by show 3+2≤sizeLine;decide) (λq hq=>?_));exact k _ q (W5.out hq rfl)
theorem scTurned:ap ["self"] ["self"] (ag (mth 23)):=⟨rfl,rfl,rfl,by decide +kernel,rfl,by decide +kernel,by decide +kernel⟩
theorem j7.rev{cs hs:List Nat}(g:j7 cs hs):j7 cs.reverse hs.reverse:=by
 refine⟨⟨?_,λp hp=>g.v.chance p (by simpa using hp),λr hr=>g.v.room r (by simpa using hr)⟩,by rw[vol_rev];exact g.vol,by rw[tz];exact g.m⟩;have:=g.v.len;show cs.reverse.length=hs.reverse.length+1;rw[tz,tz];exact this
theorem ok_turned{f:Addr}{fd:FuncData}(F:Fun K "turned" "MachineLine.turned" (mth 23) f fd)(T:be K mg CM)(X:dF K mg)(RN:cH K mg tabs CM)(BO:aY K CM "both_outs" "MachineLine.both_outs" (mth 22) ["self","chances","holds"])(hB:BAt mg base):aZ P w K mg base CX0 10 f fd ["self"] (spC P w CM RN.R.C tabs (iu .turned)):=by
 refine F.ok scTurned (λvs H Q E h=>?_) (λcdv A outer s H vs Q E hr h=>?_)
 ·obtain⟨p,x,a,n,rest,c,rfl,⟨rfl,_⟩,_⟩:=h;rfl
 ·obtain⟨p,x,a,n,rest,c,rfl,⟨rfl,rfl⟩,L,hn,tk,G,k⟩:=h;refine tF _ (ah (aj (bM (pv 0) T.cl BO.M (nW BO.F T X RN hB) hr BO.b .nil az (aa (fE rfl rfl X.T.hlist rfl X.T.hrev (aa (ax (pv 0) rfl) ae)) (aa (fE rfl rfl X.T.hlist rfl X.T.hrev (aa (ax (pv 0) rfl) ae)) ae))))) ?_;have GL:=G.l;have hl:=G.v.len;have hm:a.chances.length≤4:=G.m;obtain⟨dx,hp⟩:=L.ins;refine tF _ rfl (tI p dx _ rfl hp rfl (tV _ rfl p CM dx _ (tJ _ rfl hp T.cl T.n1 (d3 x) (tP x.c _ rfl (SqL.of L.c) ?_ (λq1 hq1=>?_)))))
  ·rw[aD];exact rq (show a.chances.length≤4 by omega) (by decide)
  rw[n8];have s1:ao H (upd H q1 (.lst (nV a.chances.reverse))):=ay hq1;have z1:(upd H q1 (.lst (nV a.chances.reverse))) q1=some (.lst (nV a.chances.reverse)):=ac;generalize upd H q1 (.lst (nV a.chances.reverse))=H1 at s1 z1;refine tV _ rfl p CM dx _ (tJ _ rfl (s1 _ _ hp) T.cl T.n2 (eK x) (tP x.h _ rfl (SqL.of (s1 _ _ L.h)) ?_ (λq2 hq2=>?_)))
  ·rw[aD];exact rq (show a.rooms.length≤4 by omega) (by decide)
  rw[n8];have s2:=s1.trans (ay (o:=.lst (nV a.rooms.reverse)) hq2);refine uA p q1 q2 x a (tM n a.chances.reverse a.rooms.reverse rfl (L.same s2) (tN hn (tk.same s2) (SqL.of (ay hq2 _ _ z1)) (SqL.of ac) GL.rev GL (λH' q O=>?_)));exact k H' x q (O.pre s2)
theorem o6:ap ["self","machine","chance"] ["self","machine"] (ag (mth 24)):=⟨rfl,rfl,rfl,by decide +kernel,rfl,by decide +kernel,by decide +kernel⟩
theorem ok_better{f:Addr}{fd:FuncData}(F:Fun K "better" "MachineLine.better" (mth 24) f fd)(T:be K mg CM)(X:dF K mg)(RN:cH K mg tabs CM)(BO:aY K CM "both_outs" "MachineLine.both_outs" (mth 22) ["self","chances","holds"])(hB:BAt mg base):aZ P w K mg base CX0 10 f fd ["self","machine"] (spC P w CM RN.R.C tabs (ge .better)):=by
 refine F.ok o6 (λvs H Q E h=>?_) (λcdv A outer s H vs Q E hr h=>?_)
 ·obtain⟨p,x,a,n,rest,c,rfl,⟨i,rfl,_⟩,_⟩:=h;rfl
 ·obtain⟨p,x,a,n,rest,c,rfl,⟨i,rfl,rfl,_⟩,L,hn,tk,G,k⟩:=h;refine tF _ (ad (bh (aP ja (pv 1) (aM au (by rfl) X.T.hlen PySem.boot_len (aa (ax (pv 0) rfl) ae)) (aO _)) (ah (aj (aG (aa (a8 (v:=.int (-2)) rfl X.R2.h ⟨_,rfl⟩) ae)))) aI)
   (ad (aC (i:=2) o6.nd rfl (Or.inl rfl) (aU aA (ax (pv 0) rfl) (pv 1) (λ_ _=>rfl)))
   (ad (bh (aP bH (pv 2) (a8 (v:=.int 9) rfl X.N9.h ⟨_,rfl⟩) (aO _)) (ah (aj (aG (aa (a8 (v:=.int (-17)) rfl X.R17.h ⟨_,rfl⟩) ae)))) aI)
   (ah (aj (bM (pv 0) T.cl BO.M (nW BO.F T X RN hB) hr BO.b .nil az (aa (aJ (ok_chg X.DK.F X.T.hlist) (hr.mono (by decide)) rfl X.DK.mgf X.DK.F.kp X.DK.b .nil az (aa (ax (pv 0) rfl) (aa (pv 1) (aa (aT cB (pv 2) al) ae)))) (aa (ax (pv 0) rfl) ae)))))))) ?_
  have ed:Su111.does a (.better i)=if a.isM i=false then (a,Su111.no (-2)) else if a.p i=9 then (a,Su111.no (-17)) else (a,Su111.num 0 (Su111.two ({a with chances:=a.chances.set i (a.p i+1)}:Su111.Abs).out++Su111.two a.out)):=rfl
  have GL:=G.l;have hm:a.chances.length=a.m:=rfl;obtain⟨dx,hp⟩:=L.ins;refine tT _ rfl _ rfl p CM (tI dx _ _ rfl hp T.cl (ue T.n1 (d3 x) x.c _ rfl (.inl (SqL.of L.c)) (ug _ _ rfl rfl _ rfl ?_)));rw[aD,hm];by_cases h1:a.m≤i
  ·rw[ed,if_pos (dH.mpr h1)]at k;refine bT (decide_eq_true (by omega)) ?_;exact⟨(by show 1≤sizeLine;decide),λq hq=>k _ x q (bw L tk hq rfl)⟩
  ·rw[ed,if_neg (λz=>h1 (dH.mp z))]at k;refine bF (decide_eq_false (by omega)) ?_;have hi:i<a.chances.length:=by omega
   have epi:a.p i=a.chances.getD i 0:=rfl;refine tQ _ rfl p CM (tI dx _ _ rfl hp T.cl (t9 T.n1 (d3 x) _ rfl x.c _ (tG _ _ rfl rfl (SqL.of L.c) (aR (cP hi)) ?_)));refine tL _ rfl rfl _ rfl ?_;by_cases h9:a.chances.getD i 0=9
   ·rw[if_pos (by rw[epi];exact h9)]at k;refine bT (decide_eq_true (by rw[h9];rfl)) ?_;exact⟨(by show 1≤sizeLine;decide),λq hq=>k _ x q (bw L tk hq rfl)⟩
   ·rw[if_neg (by rw[epi];exact h9)]at k;refine bF (decide_eq_false (by intro e;injection e with e;omega)) ?_;have hmem:a.chances.getD i 0∈a.chances:=by
     rw[so,sG hi];exact List.getElem_mem hi
    have hc:=G.v.chance _ hmem;refine tF _ rfl (tI p dx _ rfl hp rfl (tV _ rfl p CM dx _ (tJ _ rfl hp T.cl T.n1 (d3 x) (ur _ rfl _ rfl _ (ux _ rfl rfl x.c (tI a.chances i (a.chances.getD i 0+1) rfl (SqL.of L.c) hi (λq1 hq1=>?_)))))));have s1:ao H (upd H q1 (.lst (nV (a.chances.set i (a.chances.getD i 0+1))))):=ay hq1;refine tV _ rfl p CM dx _ (tJ _ rfl (s1 _ _ hp) T.cl T.n2 (eK x) (uA p q1 x.h x a (tM n (a.chances.set i (a.chances.getD i 0+1)) a.rooms rfl (L.same s1) (tN hn (tk.same s1) (SqL.of ac) (SqL.of (s1 _ _ L.h)) ⟨⟨?_,λp' hp'=>?_,G.v.room⟩,G.vol,?_⟩ GL (λH' q O=>k H' x q (O.pre s1))))))
    ·show(a.chances.set i _).length=a.rooms.length+1;rw[si];exact G.v.len
    ·rcases tu hp' with h|h
     ·exact G.v.chance p' h
     ·rw[h];omega
    ·rw[si];exact G.m
theorem scMore:ap ["self","room","changed"] ["self","room"] (ag (mth 25)):=⟨rfl,rfl,rfl,by decide +kernel,rfl,by decide +kernel,by decide +kernel⟩
theorem ok_more{f:Addr}{fd:FuncData}(F:Fun K "more" "MachineLine.more" (mth 25) f fd)(T:be K mg CM)(X:dF K mg)(RN:cH K mg tabs CM)(BO:aY K CM "both_outs" "MachineLine.both_outs" (mth 22) ["self","chances","holds"])(hB:BAt mg base):aZ P w K mg base CX0 10 f fd ["self","room"] (spC P w CM RN.R.C tabs (ge .more)):=by
 refine F.ok scMore (λvs H Q E h=>?_) (λcdv A outer s H vs Q E hr h=>?_)
 ·obtain⟨p,x,a,n,rest,c,rfl,⟨i,rfl,_⟩,_⟩:=h;rfl
 ·obtain⟨p,x,a,n,rest,c,rfl,⟨i,rfl,rfl,_⟩,L,hn,tk,G,k⟩:=h;refine tF _ (ad (bh (aP ja (pv 1) (aM au (by rfl) X.T.hlen PySem.boot_len (aa (ax (pv 0) rfl) ae)) (aO _)) (ah (aj (aG (aa (a8 (v:=.int (-2)) rfl X.R2.h ⟨_,rfl⟩) ae)))) aI)
   (ad (aC (i:=2) scMore.nd rfl (Or.inl rfl) (aJ (ok_chg X.DK.F X.T.hlist) (hr.mono (by decide)) rfl X.DK.mgf X.DK.F.kp X.DK.b .nil az (aa (ax (pv 0) rfl) (aa (pv 1) (aa (aT cB (aU aA (ax (pv 0) rfl) (pv 1) (λ_ _=>rfl)) al) ae)))))
   (ad (bh (di (aJ (nU X.DY.F X.T.DP X.N27) (hr.mono (by decide)) rfl X.DY.mgf X.DY.F.kp X.DY.b .nil az (aa (pv 2) ae))) (ah (aj (aG (aa (a8 (v:=.int (-28)) rfl X.R28.h ⟨_,rfl⟩) ae)))) aI)
   (ah (aj (bM (pv 0) T.cl BO.M (nW BO.F T X RN hB) hr BO.b .nil az (aa (ax (pv 0) rfl) (aa (pv 2) ae)))))))) ?_
  have ed:Su111.does a (.more i)=if a.isR i=false then (a,Su111.no (-2)) else if Su111.STATES<({a with rooms:=a.rooms.set i (a.room i+1)}:Su111.Abs).size then (a,Su111.no (-28)) else (a,Su111.num 0 (Su111.two ({a with rooms:=a.rooms.set i (a.room i+1)}:Su111.Abs).out++Su111.two a.out)):=rfl
  have GL:=G.l;have hl:=G.v.len;have hm:a.chances.length≤4:=G.m;obtain⟨dx,hp⟩:=L.ins;refine tT _ rfl _ rfl p CM (tI dx _ _ rfl hp T.cl (ue T.n2 (eK x) x.h _ rfl (.inl (SqL.of L.h)) (ug _ _ rfl rfl _ rfl ?_)));rw[aD];by_cases h1:a.rooms.length≤i
  ·rw[ed,if_pos (eR.mpr h1)]at k;refine bT (decide_eq_true (by omega)) ?_;exact⟨(by show 1≤sizeLine;decide),λq hq=>k _ x q (bw L tk hq rfl)⟩
  ·rw[ed,if_neg (λz=>h1 (eR.mp z))]at k;refine bF (decide_eq_false (by omega)) ?_;have hi:i<a.rooms.length:=by omega
   have hmem:a.rooms.getD i 0∈a.rooms:=by
    rw[so,sG hi];exact List.getElem_mem hi
   have hsm:=gd G _ hmem;refine tV _ rfl p CM dx _ (tJ _ rfl hp T.cl T.n2 (eK x) (tT _ rfl _ rfl p CM (tI dx _ _ rfl hp T.cl (t9 T.n2 (eK x) _ rfl x.h _ (tO _ _ rfl (ub rfl (SqL.of L.h) (aR (cP hi)) _ _ (uu rfl rfl x.h a.rooms i (ua (a.rooms.getD i 0+1) rfl (SqL.of L.h) hi (λq1 hq1=>?_)))))))));have s1:ao H (upd H q1 (.lst (nV (a.rooms.set i (a.rooms.getD i 0+1))))):=ay hq1;have z1:(upd H q1 (.lst (nV (a.rooms.set i (a.rooms.getD i 0+1))))) q1=some (.lst (nV (a.rooms.set i (a.rooms.getD i 0+1)))):=ac;generalize upd H q1 (.lst (nV (a.rooms.set i (a.rooms.getD i 0+1))))=H1 at s1 z1;refine tF _ rfl (tG q1 (a.rooms.set i (a.rooms.getD i 0+1)) rfl (SqL.of z1) (by rw[si];omega) (hX (gd G) (by
    have h2:=iQ hmem;have h3:=G.vol;have e60:(2:Nat)^60=1152921504606846976:=by decide
    omega)) (λH2 s2=>?_))
   have s12:=s1.trans s2;have z2:=s2 _ _ z1;refine tF _ rfl ?_;have es:({a with rooms:=a.rooms.set i (a.room i+1)}:Su111.Abs).size=Lr.vol (a.rooms.set i (a.rooms.getD i 0+1)):=f7 _;by_cases h27:27<Lr.vol (a.rooms.set i (a.rooms.getD i 0+1))
   ·rw[if_pos (by rw[es];exact h27)]at k;refine bT (decide_eq_true h27) ?_;exact⟨(by show 1≤sizeLine;decide),λq hq=>k _ x q (dR L tk (s12.trans (ay hq)) ac (s12.free hq))⟩
   ·rw[if_neg (by rw[es];exact h27)]at k;refine bF (decide_eq_false h27) ?_;refine tF _ rfl (t6 p dx _ rfl (t9 (s12 _ _ hp) rfl _ rfl p CM (tM dx _ _ rfl (s12 _ _ hp) (ui T.cl T.n1 (d3 x) _ rfl (uA p x.c q1 x a (tM n a.chances (a.rooms.set i (a.rooms.getD i 0+1)) rfl (L.same s12) (tN hn (tk.same s12) (SqL.of (s12 _ _ L.c)) (SqL.of z2) ⟨⟨?_,G.v.chance,λr' hr'=>?_⟩,by omega,G.m⟩ GL (λH' q O=>k H' x q (O.pre s12)))))))))
    ·show a.chances.length=(a.rooms.set i _).length+1;rw[si];exact G.v.len
    ·rcases tu hr' with h|h
     ·exact G.v.room r' h
     ·rw[h];omega
end
end My
end
section
namespace My
open PySem PySem.Spec PyProof.Rows L2
open PySem.W (kla_fn kla_obj envX fnMade)
abbrev qLong:Str:="MachineLine.long.<locals>.<lambda>"
def dI(l:List Nat):List PyData:=l.map λ(n:Nat)=>PyData.int (n:Int)
theorem oz{K:fG}{H:Hp}:∀l:List Nat,lQ K H (nV l) (dI l)
 |[]=>.nil
 |n::l=>.cons (.int _) (oz l)
theorem j6:∀l m:List Nat,PyData.eqvAll (dI l) (dI m)=decide (l=m)
 |[],[]=>rfl
 |[],_::_=>rfl
 |_::_,[]=>rfl
 |x::l,y::m=>by
  have ih:=j6 l m;show(((x:Int)==(y:Int))&&PyData.eqvAll (dI l) (dI m))=_;rw[ih];by_cases h:x=y
  ·subst h;by_cases h2:l=m
   ·subst h2;simp
   ·simp[h2]
  ·have e:((x:Int)==(y:Int))=false:=beq_eq_false_iff_ne.mpr (by omega);rw[e];simp[h]
theorem eqv_ints(l m:List Nat):PyData.eqv (.list (dI l)) (.list (dI m))=decide (l=m):=by
 rw[←j6];unfold PyData.eqv;rfl
theorem p6:∀l:List Nat,PyData.canLayAll0 (dI l)=true∧PyData.depthAll (dI l)=0
 |[]=>⟨rfl,rfl⟩
 |n::l=>by
  obtain⟨h1,h2⟩:=p6 l;refine⟨?_,?_⟩
  ·show(true&&PyData.canLayAll0 (dI l))=true;rw[h1];rfl
  ·show max 0 (PyData.depthAll (dI l))=0;rw[h2];rfl
theorem jV(l:List Nat):SeqAt.shaped (.list (dI l))=true:=by
 obtain⟨h1,h2⟩:=p6 l;unfold SeqAt.shaped;have e1:PyData.canLay0 (.list (dI l))=true:=h1;have e2:PyData.depth (.list (dI l))=1:=by
  show PyData.depthAll (dI l)+1=1;rw[h2]
 rw[e1,e2];rfl
def over(l rs:List Nat):List Bool:=List.zipWith (λx r=>decide (r<x)) l rs
theorem nR{l rs:List Nat}(h:l.length=rs.length){i:Nat}(hi:i<l.length):(over l rs)[i]?=some (decide (rs.getD i 0<l.getD i 0)):=by
 unfold over;rw[List.getElem?_zipWith,sG hi,sG (show i<rs.length by omega),so,so,sG hi,sG (show i<rs.length by omega)];rfl
theorem pG{l rs:List Nat}(h:l.length=rs.length):(over l rs).length=l.length:=by
 unfold over;rw[List.length_zipWith];omega
theorem over_any{l rs:List Nat}(h:l.length=rs.length):(over l rs).any id=((rn l.length).any λi=>decide (rs.getD i 0<l.getD i 0)):=by
 apply Bool.eq_iff_iff.mpr;rw[List.any_eq_true,List.any_eq_true];constructor
 ·rintro ⟨b,hb,hbt⟩;obtain⟨i,hi⟩:=sM hb;have hil:i<l.length:=by
   have:=(rE.mp hi).1;rw[pG h]at this;exact this
  rw[nR h hil]at hi;exact tF i (rp.mpr hil) (by rw[Option.some.inj hi];exact hbt)
 ·rintro ⟨i,hi,ht⟩;have hil:=rp.mp hi;exact tF _ (r8 (nR h hil)) ht
theorem fits_of:∀{rs l:List Nat},l.length=rs.length→(∀i,i<l.length→l.getD i 0≤rs.getD i 0)→Lr.cu rs l
 |[],[],_,_=>trivial
 |r::rs,x::l,h,k=>⟨k 0 (by simp),fits_of (by simpa using h) λi hi=>k (i+1) (by simpa using hi)⟩
 |[],_::_,h,_=>by simp at h
 |_::_,[],h,_=>by simp at h
theorem pQ{b:Su111.Abs}(hv:Lr.a0 b){l:List Nat}(hl:Lr.cu b.rooms l):b.often (λs _=>decide (s=l))=b.long.getD (b.states.idxOf l) (0,1):=by
 obtain⟨d,Z,F⟩:=Lr.found hv;rw[←Lr.iB hv F.bal,Lr.qX hv F.bal hl]
section
variable {P:Program} {w:World} {K:fG} {mg:Str→Option Value} {base:Heap} {CM:Addr} {tabs:List (Addr×Str)}
abbrev nLong:List Str:=["self","wanted","lies","hold"]
theorem nD:ap nLong ["self","wanted"] (ag (mth 21)):=⟨rfl,rfl,rfl,by decide +kernel,rfl,by decide +kernel,by decide +kernel⟩
theorem ok_long{f:Addr}{fd:FuncData}(F:Fun K "long" "MachineLine.long" (mth 21) f fd)(T:be K mg CM)(X:dF K mg)(RN:cH K mg tabs CM)(MK:dy K tabs fd qLong)(hB:BAt mg base):aZ P w K mg base CX0 9 f fd ["self","wanted"] (spC P w CM RN.R.C tabs (relRow K .long)):=by
 obtain⟨cc,Tb,ec,hcd,hmem⟩:=MK.ex;refine gz F nD (λvs H Q E h=>?_) (λA outer s H vs Q E hr h=>?_)
 ·obtain⟨p,x,a,n,rest,c,rfl,⟨pu,l,rfl,_⟩,_⟩:=h;rfl
 ·obtain⟨p,x,a,n,rest,c,rfl,⟨pl,l,rfl,hpl,hpo,hl6,rfl⟩,L,hn,tk,G,k⟩:=h;refine tF _ (ad (bh (PW.pt (pw_or (aP op_ne (aM au (by rfl) X.T.hlen PySem.boot_len (aa (pv 1) ae)) (aM au (by rfl) X.T.hlen PySem.boot_len (aa (ax (pv 0) rfl) ae)) (aO _)) (nH (di (aM (cr_any rfl) (by rfl) X.T.hany (by decide +kernel) (aa (fi (own:=[("lies",2),("hold",3)]) rfl nD.nd (nM .lst .lst rfl X.T.hzip (aa (pv 1) (aa (ax (pv 0) rfl) ae))) (show db nLong (ag (mth 21)) _ [("lies",2),("hold",3)] from⟨rfl,by decide +kernel,by decide +kernel,by decide +kernel,by decide +kernel⟩)
     (g:=gTup K 2 (fq (dq 2) (fq (dq 3) gNil))) (λ_ _ _ _ _=>dD rfl (aS (aw (i:=2) nD.nd rfl (Or.inl rfl)) (aS (aw (i:=3) nD.nd rfl (Or.inl rfl)) cM))) (λ_ _ _ _ _=>bY) (λ_ _ _ _ _=>b8 k5 (pv 2) (pv 3) (aO _))) ae)))))) (ah (aj (aG (aa (a8 (v:=.int (-22)) rfl X.R22.h ⟨_,rfl⟩) ae)))) aI)
   (ah (aj (aT cA (aG (aa al ae)) (dj [("wanted",1)] (λp hp=>by simp at hp;subst hp;exact tS rfl rfl rfl) (bn (pv 0) T.cl RN.LR.M (okLR RN T X) (hr.mono (by decide)) RN.LR.b .nil az) RN.R.T.cl RN.OF.M (okOF RN X hB 1) (hr.mono (by decide)) RN.OF.b (aa (iz (T:=Tb) (q:=qLong) hB ec hcd rfl (show ∀y∈(iY ["wanted"]).names,y.2=.free→(ag (mth 21)).names.lookup y.1=some .cell∨(ag (mth 21)).names.lookup y.1=some .free by decide +kernel)) ae)))))) ?_
  have ed:Su111.does a (.long l)=if l.length≠a.rooms.length∨((rn l.length).any λi=>decide (a.room i<l.getD i 0))=true then (a,Su111.no (-22)) else (a,Su111.num 0 (Su111.two (a.long.getD (a.states.idxOf l) (0,1)))):=rfl
  have GL:=G.l;obtain⟨dx,hp⟩:=L.ins;refine tQ _ rfl pl _ (t9 rfl (.inl (SqL.of hpl)) _ rfl p CM (tM dx _ _ rfl hp (ub T.cl T.n2 (eK x) x.h _ (ui rfl (.inl (SqL.of L.h)) rfl _ rfl ?_))));rw[aD,aD];by_cases h1:l.length=a.rooms.length
  ·refine bF (by rw[decide_eq_true (by rw[h1])];rfl) ?_;refine tT _ rfl _ rfl p CM (tM dx _ _ rfl hp (ub T.cl T.n2 (eK x) pl x.h (tP _ _ rfl (SqL.of hpl) (SqL.of L.h) (λD hD=>lc_z2 (K:=K) (k1:=.lst) (k2:=.lst) (a1:=pl) (a2:=x.h) (x1s:=nV l) (x2s:=nV a.rooms) (by rw[aD,aD,h1]) (λj H'=>ao H H'∧H' D=some (.lst (((over l a.rooms).take j).map V.bl)))
    ⟨ay hD,ac⟩ (λj H' _ e=>⟨SqL.of (e.1 _ _ hpl),SqL.of (e.1 _ _ L.h)⟩) ?_ ?_))))
   ·rintro j y1 y2 T1 H' hy1 hy2 hT ⟨sm,hDl⟩;obtain⟨v1,hv1,rfl⟩:=jA hy1;obtain⟨v2,hv2,rfl⟩:=jA hy2;have hjl:j<l.length:=(rE.mp hv1).1;have hDT:D≠T1:=ai hDl hT;refine tO T1 _ rfl (uv (SqT.of ac) rfl _ _ rfl (tP _ _ rfl rfl rfl ?_));refine tF _ rfl (tW _ rfl _ _ rfl rfl (ua _ (by rw[af hDT];exact hDl) ?_ (bp (sm.trans (ay hT)) hD) ?_))
    ·rw[rR,rX];exact sA (Nat.min_le_left _ _) (rh (show j<7 by omega) (by decide))
    ·have e0:=nR h1 hjl;have e1:l.getD j 0=v1:=by rw[so,hv1];rfl
     have e2:a.rooms.getD j 0=v2:=by rw[so,hv2];rfl
     rw[ac,sI,e0,sQ,e1,e2];have e3:decide ((v2:Int)<(v1:Int))=decide (v2<v1):=decide_eq_decide.mpr (by omega);show some (HO.lst (_++[V.bl (decide ((v2:Int)<(v1:Int)))]))=_;rw[e3];rfl
   ·rintro H' ⟨sm,hDl⟩;rw[aD,←pG h1,tm]at hDl;refine ug D (over l a.rooms) rfl (SqL.of hDl) _ rfl ?_;rw[over_any h1];have er:((rn l.length).any λi=>decide (a.room i<l.getD i 0))=((rn l.length).any λi=>decide (a.rooms.getD i 0<l.getD i 0)):=rfl;cases hb:((rn l.length).any λi=>decide (a.rooms.getD i 0<l.getD i 0)) with
    |true =>
     rw[ed,if_pos (.inr (er.trans hb))]at k;exact⟨(by show 1≤sizeLine;decide),λq hq=>k _ x q (dR L tk (sm.trans (ay hq)) ac (sm.free hq))⟩
    |false =>
     rw[ed,if_neg (by rw[er,hb];simp[h1])]at k;have hfit:Lr.cu a.rooms l:=fits_of h1 λj hj=>by
      have z:=List.any_eq_false.mp hb j (rp.mpr hj);have z:¬a.rooms.getD j 0<l.getD j 0:=λe=>z (decide_eq_true e);omega
     refine⟨(by show 1≤sizeLine;decide),λq0 hq0=>?_⟩;have s0:ao H (upd H' q0 (.lst [V.int 0])):=sm.trans (ay hq0);have W0:=(d7.start L tk).same s0;have z0:(upd H' q0 (.lst [V.int 0])) q0=some (.lst [V.int 0]):=ac;have l0:=s0 _ _ hpl;generalize upd H' q0 (.lst [V.int 0])=H0 at W0 z0 l0;obtain⟨dx,hp⟩:=W0.line.ins;refine tR _ rfl p dx _ (ub rfl hp rfl p x (tG a n rfl W0.line (by omega) GL (λH1 r RA KN B=>?_)));have W1:=W0.run KN B;obtain⟨xs0,hx0,_⟩:=W0.line.kn;have z1:=B _ _ z0 (a9 z0 hx0 (λz=>nomatch z));have l1:=B _ _ l0 (a9 l0 hx0 (λz=>nomatch z));obtain⟨dxr,c1,f1,h1',s1,hri⟩:=RA.ins;refine⟨r,tG dxr _ rfl hri (dG (by decide) (by decide) (by decide) (by decide)) (W1.tabs _ hmem) (λfn c' ctv H2 M=>λH3 Sh=>?_)⟩;have hσ:∀p'∈([("wanted",1)]:List (Str×Nat)),∃v,([some (V.ref p),some (V.ref pl),none,none]:L2.St)[p'.2]?=some (some v):=λp' hp'=>by simp at hp';subst hp';exact⟨_,rfl⟩
     have m1:de H1 H2:=M.mild (W1.tabs _ hmem);have t2:aQ tabs H2:=W1.tabs.made RN.hf hmem M;have W2:=W1.mild m1 M.back t2;have S:iN ["filling","ups","works","wanted"] psW ["wanted"] (iY ["wanted"]):=⟨rfl,rfl,rfl,by decide +kernel,rfl,by decide +kernel,by decide +kernel,by decide +kernel,by decide +kernel⟩
     obtain⟨C3,hcl,hcn⟩:=fM (cap:=[("wanted",1)]) (vs:=[V.ref pl]) S M.fn M.code rfl rfl rfl Sh (λj p' hj=>by
      cases j with
      |zero=>cases hj;exact tF _ rfl rfl
      |succ j=>simp at hj) rfl
     have W':=dz (P:=P) (w:=w) (K:=K) (mg:=mg) (base:=base) (k:=0) (f:=fn) (a:=⟨a.chances,a.rooms,[]⟩) (CH:=λH=>H pl=some (.lst (nV l))) (g:=λs u=>V.bl (decide (s=l))) (N:=["filling","ups","works","wanted"]) (fv:=["wanted"]) (fvs:=[V.ref pl]) C3 rfl rfl rfl rfl (ck.all (λus hl=>match us,hl with|[_,_,_],_=>rfl)) hcl S (λ_ _ h e=>e _ _ h rfl) (λA outer s H pf pu pw s' u hr h1 h2 h3 hl hul hC'=>by
      refine tF _ (b8 (op_eqD hr.units) (pv 0) (pv 3) (aO _)) ?_;refine ur _ rfl _ rfl (.list (dI s')) (tJ (.list (dI l)) (.lst (SqL.of h1) (oz _)) (.lst (SqL.of hC') (oz _)) (jV _) (jV _) ?_ rfl);rw[eqv_ints])
     refine dE (b:=⟨a.chances,a.rooms,[]⟩) (g:=λs u=>decide (s=l)) GL.v GL.vol GL.m (RA.mild m1) t2 Sh hσ W' ⟨C3,o7 hcn Sh.same _ _ (m1 _ _ l1 rfl)⟩ λH4 q4 m4 b4 t4 hq4 hn4=>?_;have W4:=W2.mild m4 b4 t4;rw[pQ (b:=⟨a.chances,a.rooms,[]⟩) GL.v hfit]at hq4;refine tY q0 q4 _ _ (um rfl rfl (m4 _ _ (m1 _ _ z1 rfl) rfl) hq4 (by show 1+2≤sizeLine;decide) (λq hq=>?_));exact k _ x q ((W4.mono (n':=n+2) (by omega)).out (ans:=e9 (Su111.num 0 (Su111.two (a.long.getD (a.states.idxOf l) (0,1))))) hq rfl)
  ·rw[ed,if_pos (.inl h1)]at k;refine bT (by rw[decide_eq_false (by intro e;injection e with e;omega)];rfl) ?_;exact⟨(by show 1≤sizeLine;decide),λq hq=>k _ x q (bw L tk hq rfl)⟩
end
abbrev qMean:Str:="MachineLine.mean.<locals>.<lambda>"
abbrev mz:Str:="MachineLine.full.<locals>.<lambda>"
theorem lx:∀{l s:List Nat} {r:Nat},Lr.cu l s→s.getD r 0<Lr.vol l
 |[],[],r,_=>by
  have:([]:List Nat).getD r 0=0:=by simp
  rw[this];exact Lr.bK []
 |q::l,k::s,0,h=>by
  have hv:=Lr.bK l;show k<(q+1)*Lr.vol l;have:(q+1)*1≤(q+1)*Lr.vol l:=Nat.mul_le_mul_left _ hv;have:=h.1;omega
 |q::l,k::s,r+1,h=>by
  have h1:=lx (r:=r) h.2;show s.getD r 0<(q+1)*Lr.vol l;have:1*Lr.vol l≤(q+1)*Lr.vol l:=sU _ (by omega);omega
 |[],_::_,_,h=>h.elim
 |_::_,[],_,h=>h.elim
theorem k8{b:Su111.Abs}(hv:Lr.a0 b)(p:List Nat→Prop)[DecidablePred p]:b.often (λs _=>decide (p s))=((b.states.zip b.long).map λx=>if p x.1 then x.2 else (0,1)).foldl Su111.plus (0,1):=by
 obtain⟨d,Z,F⟩:=Lr.found hv;rw[←Lr.iB hv F.bal,Lr.look_some hv F.bal]
section
variable {P:Program} {w:World} {K:fG} {mg:Str→Option Value} {base:Heap} {CM:Addr} {tabs:List (Addr×Str)}
theorem scMean:ap ["self","room"] ["self","room"] (ag (mth 19)):=⟨rfl,rfl,rfl,by decide +kernel,rfl,by decide +kernel,by decide +kernel⟩
theorem ok_mean{f:Addr}{fd:FuncData}(F:Fun K "mean" "MachineLine.mean" (mth 19) f fd)(T:be K mg CM)(X:dF K mg)(RN:cH K mg tabs CM)(MK:dy K tabs fd qMean)(hB:BAt mg base):aZ P w K mg base CX0 9 f fd ["self","room"] (spC P w CM RN.R.C tabs (ge .mean)):=by
 obtain⟨cc,Tb,ec,hcd,hmem⟩:=MK.ex;refine gz F scMean (λvs H Q E h=>?_) (λA outer s H vs Q E hr h=>?_)
 ·obtain⟨p,x,a,n,rest,c,rfl,⟨i,rfl,_⟩,_⟩:=h;rfl
 ·obtain⟨p,x,a,n,rest,c,rfl,⟨i,rfl,rfl,_⟩,L,hn,tk,G,k⟩:=h;refine tF _ (ad (bh (aP ja (pv 1) (aM au (by rfl) X.T.hlen PySem.boot_len (aa (ax (pv 0) rfl) ae)) (aO _)) (ah (aj (aG (aa (a8 (v:=.int (-2)) rfl X.R2.h ⟨_,rfl⟩) ae)))) aI)
   (ah (aj (aT cA (aG (aa al ae)) (dj [("room",1)] (λp hp=>by simp at hp;subst hp;exact tS rfl rfl rfl) (bn (pv 0) T.cl RN.LR.M (okLR RN T X) (hr.mono (by decide)) RN.LR.b .nil az) RN.R.T.cl RN.LK.M (okLK RN X 1) (hr.mono (by decide)) RN.LK.b (aa (iz (T:=Tb) (q:=qMean) hB ec hcd rfl (show ∀y∈(iY ["room"]).names,y.2=.free→(ag (mth 19)).names.lookup y.1=some .cell∨(ag (mth 19)).names.lookup y.1=some .free by decide +kernel)) ae)))))) ?_
  have ed:Su111.does a (.mean i)=if a.isR i=false then (a,Su111.no (-2)) else (a,Su111.num 0 (Su111.two (a.mean i))):=rfl
  have GL:=G.l;obtain⟨dx,hp⟩:=L.ins;refine tT _ rfl _ rfl p CM (tI dx _ _ rfl hp T.cl (ue T.n2 (eK x) x.h _ rfl (.inl (SqL.of L.h)) (ug _ _ rfl rfl _ rfl ?_)));rw[aD];by_cases h1:a.rooms.length≤i
  ·rw[ed,if_pos (eR.mpr h1)]at k;refine bT (decide_eq_true (by omega)) ?_;exact⟨(by show 1≤sizeLine;decide),λq hq=>k _ x q (bw L tk hq rfl)⟩
  ·rw[ed,if_neg (λz=>h1 (eR.mp z))]at k;refine bF (decide_eq_false (by omega)) ?_;refine⟨(by show 1≤sizeLine;decide),λq0 hq0=>?_⟩;have W0:=(d7.start L tk).same (ay (o:=.lst [V.int 0]) hq0);have z0:(upd H q0 (.lst [V.int 0])) q0=some (.lst [V.int 0]):=ac;generalize upd H q0 (.lst [V.int 0])=H0 at W0 z0;obtain⟨dx,hp⟩:=W0.line.ins;refine tR _ rfl p dx _ (ub rfl hp rfl p x (tG a n rfl W0.line (by omega) GL (λH1 r RA KN B=>?_)));have W1:=W0.run KN B;have z1:=B _ _ z0 (by
    obtain⟨xs,h1,_⟩:=W0.line.kn;exact a9 z0 h1 (λz=>nomatch z))
   obtain⟨dxr,c1,f1,h1',s1,hri⟩:=RA.ins;refine⟨r,tG dxr _ rfl hri (dG (by decide) (by decide) (by decide) (by decide)) (W1.tabs _ hmem) (λfn c' ctv H2 M=>λH3 Sh=>?_)⟩;have hσ:∀p'∈([("room",1)]:List (Str×Nat)),∃v,([some (V.ref p),some (V.int (i:Int))]:L2.St)[p'.2]?=some (some v):=λp' hp'=>by simp at hp';subst hp';exact⟨_,rfl⟩
   have m1:de H1 H2:=M.mild (W1.tabs _ hmem);have t2:aQ tabs H2:=W1.tabs.made RN.hf hmem M;have W2:=W1.mild m1 M.back t2;have S:iN ["filling","ups","works","room"] psW ["room"] (iY ["room"]):=⟨rfl,rfl,rfl,by decide +kernel,rfl,by decide +kernel,by decide +kernel,by decide +kernel,by decide +kernel⟩
   obtain⟨C3,hcl,hcn⟩:=fM (cap:=[("room",1)]) (vs:=[V.int (i:Int)]) S M.fn M.code rfl rfl rfl Sh (λj p' hj=>by
    cases j with
    |zero=>cases hj;exact tF _ rfl rfl
    |succ j=>simp at hj) rfl
   have W':=dz (P:=P) (w:=w) (K:=K) (mg:=mg) (base:=base) (k:=0) (f:=fn) (a:=⟨a.chances,a.rooms,[]⟩) (CH:=λ_=>True) (g:=λs u=>V.int ((s.getD i 0:Nat):Int)) (N:=["filling","ups","works","room"]) (fv:=["room"]) (fvs:=[V.int (i:Int)]) C3 rfl rfl rfl rfl (ck.all (λus hl=>match us,hl with|[_,_,_],_=>rfl)) hcl S (λ_ _ _ _=>trivial) (λA outer s H pf pu pw s' u hr h1 h2 h3 hl hul hC'=>by
    refine tF _ (aU aA (pv 0) (pv 3) (λ_ _=>rfl)) ?_;have hl:s'.length=a.rooms.length:=hl;exact tF _ rfl (tR _ rfl pf _ _ (tJ _ rfl rfl (SqL.of h1) (aR (cP (by omega))) rfl rfl)))
   refine look_read (b:=⟨a.chances,a.rooms,[]⟩) (g:=λs u=>((s.getD i 0:Nat):Int)) GL.v GL.vol GL.m (RA.mild m1) Sh hσ W' ⟨C3,trivial⟩ (λs' u hf=>?_) λSx Tx hb H4 q4 s4 hq4 hn4=>?_
   ·have h1:=lx (r:=i) hf;have h2:Lr.vol a.rooms≤27:=G.vol;have h1:s'.getD i 0<Lr.vol a.rooms:=h1;omega
   ·rw[Lr.look_mean GL.v hb]at hq4;have W4:=W2.same s4;refine tY q0 q4 _ _ (um rfl rfl (s4 _ _ (m1 _ _ z1 rfl)) hq4 (by show 1+2≤sizeLine;decide) (λq hq=>?_));exact k _ x q ((W4.mono (n':=n+2) (by omega)).out (ans:=e9 (Su111.num 0 (Su111.two (a.mean i)))) hq rfl)
abbrev nFull:List Str:=["self","room","hold","run","is_full","is_empty"]
theorem kM:ap nFull ["self","room"] (ag (mth 20)):=⟨rfl,rfl,rfl,by decide +kernel,rfl,by decide +kernel,by decide +kernel⟩
theorem ok_full{f:Addr}{fd:FuncData}(F:Fun K "full" "MachineLine.full" (mth 20) f fd)(T:be K mg CM)(X:dF K mg)(RN:cH K mg tabs CM)(MK:dy K tabs fd mz)(hB:BAt mg base):aZ P w K mg base CX0 9 f fd ["self","room"] (spC P w CM RN.R.C tabs (ge .full)):=by
 obtain⟨cc,Tb,ec,hcd,hmem⟩:=MK.ex;refine gz F kM (λvs H Q E h=>?_) (λA outer s H vs Q E hr h=>?_)
 ·obtain⟨p,x,a,n,rest,c,rfl,⟨i,rfl,_⟩,_⟩:=h;rfl
 ·obtain⟨p,x,a,n,rest,c,rfl,⟨i,rfl,rfl,_⟩,L,hn,tk,G,k⟩:=h;refine tF _ (ad (bh (aP ja (pv 1) (aM au (by rfl) X.T.hlen PySem.boot_len (aa (ax (pv 0) rfl) ae)) (aO _)) (ah (aj (aG (aa (a8 (v:=.int (-2)) rfl X.R2.h ⟨_,rfl⟩) ae)))) aI)
   (ad (aC (i:=2) kM.nd rfl (Or.inr rfl) (aU aA (ax (pv 0) rfl) (pv 1) (λ_ _=>rfl)))
   (ad (aC (i:=3) kM.nd rfl (Or.inl rfl) (bn (pv 0) T.cl RN.LR.M (okLR RN T X) (hr.mono (by decide)) RN.LR.b .nil az))
   (ad (aC (i:=4) kM.nd rfl (Or.inl rfl) (dj [("room",1),("hold",2)] (λp hp=>by simp at hp;rcases hp with rfl|rfl<;>exact tS rfl rfl rfl) (pv 3) RN.R.T.cl RN.OF.M (okOF RN X hB 1) (hr.mono (by decide)) RN.OF.b (aa (iz (T:=Tb) (q:=mz) hB ec hcd rfl (show ∀y∈(iY ["hold","room"]).names,y.2=.free→(ag (mth 20)).names.lookup y.1=some .cell∨(ag (mth 20)).names.lookup y.1=some .free by decide +kernel)) ae)))
   (ad (aC (i:=5) kM.nd rfl (Or.inl rfl) (dj [("room",1)] (λp hp=>by simp at hp;subst hp;exact tS rfl rfl rfl) (pv 3) RN.R.T.cl RN.OF.M (okOF RN X hB 1) (hr.mono (by decide)) RN.OF.b (aa (iz (T:=Tb) (q:=mz) hB ec hcd rfl (show ∀y∈(iY ["room"]).names,y.2=.free→(ag (mth 20)).names.lookup y.1=some .cell∨(ag (mth 20)).names.lookup y.1=some .free by decide +kernel)) ae)))
   (ah (aj (aT cA (aT cA (aG (aa al ae)) (pv 4)) (pv 5))))))))) ?_
  have ed:Su111.does a (.full i)=if a.isR i=false then (a,Su111.no (-2)) else (a,Su111.num 0 (Su111.two (((a.states.zip a.long).map λx=>if x.1.getD i 0=a.room i then x.2 else (0,1)).foldl Su111.plus (0,1))++Su111.two (((a.states.zip a.long).map λx=>if x.1.getD i 0=0 then x.2 else (0,1)).foldl Su111.plus (0,1)))):=rfl
  have GL:=G.l;obtain⟨dx,hp⟩:=L.ins;refine tT _ rfl _ rfl p CM (tI dx _ _ rfl hp T.cl (ue T.n2 (eK x) x.h _ rfl (.inl (SqL.of L.h)) (ug _ _ rfl rfl _ rfl ?_)));rw[aD];by_cases h1:a.rooms.length≤i
  ·rw[ed,if_pos (eR.mpr h1)]at k;refine bT (decide_eq_true (by omega)) ?_;exact⟨(by show 1≤sizeLine;decide),λq hq=>k _ x q (bw L tk hq rfl)⟩
  ·rw[ed,if_neg (λz=>h1 (eR.mp z))]at k;refine bF (decide_eq_false (by omega)) ?_;have hi:i<a.rooms.length:=by omega
   refine tQ _ rfl p CM (tI dx _ _ rfl hp T.cl (t9 T.n2 (eK x) _ rfl x.h _ (tG _ _ rfl rfl (SqL.of L.h) (aR (cP hi)) ?_)));refine tR _ rfl p dx _ (ub rfl hp rfl p x (tG a n rfl L (by omega) GL (λH1 r RA KN B=>?_)));have W1:=(d7.start L tk).run KN B;obtain⟨dxr,c1,f1,h1',s1,hri⟩:=RA.ins;refine tQ _ rfl r dxr (t8 _ rfl hri (dG (by decide) (by decide) (by decide) (by decide)) (W1.tabs _ hmem) (λfn c' ctv H2 M=>λH3 Sh=>?_));have hσ:∀p'∈([("room",1),("hold",2)]:List (Str×Nat)),∃v,([some (V.ref p),some (V.int (i:Int)),some (V.int ((a.rooms.getD i 0:Nat):Int)),some (V.ref r),none,none]:L2.St)[p'.2]?=some (some v):=λp' hp'=>by
    simp at hp';rcases hp' with rfl|rfl
    ·exact⟨_,rfl⟩
    ·exact⟨_,rfl⟩
   have m1:de H1 H2:=M.mild (W1.tabs _ hmem);have t2:aQ tabs H2:=W1.tabs.made RN.hf hmem M;have W2:=W1.mild m1 M.back t2;have S:iN ["filling","ups","works","room","hold"] psW ["room","hold"] (iY ["hold","room"]):=⟨rfl,rfl,rfl,by decide +kernel,rfl,by decide +kernel,by decide +kernel,by decide +kernel,by decide +kernel⟩
   obtain⟨C3,hcl,hcn⟩:=fM (cap:=[("room",1),("hold",2)]) (vs:=[V.int (i:Int),V.int ((a.rooms.getD i 0:Nat):Int)]) S M.fn M.code rfl rfl rfl Sh (λj p' hj=>by
    match j,hj with
    |0,hj=>cases hj;exact tF _ rfl rfl
    |1,hj=>cases hj;exact tF _ rfl rfl
    |j+2,hj=>simp at hj) rfl
   have W':=dz (P:=P) (w:=w) (K:=K) (mg:=mg) (base:=base) (k:=0) (f:=fn) (a:=⟨a.chances,a.rooms,[]⟩) (CH:=λ_=>True) (g:=λs u=>V.bl (decide (s.getD i 0=a.rooms.getD i 0))) (N:=["filling","ups","works","room","hold"]) (fv:=["room","hold"]) (fvs:=[V.int (i:Int),V.int ((a.rooms.getD i 0:Nat):Int)]) C3 rfl rfl rfl rfl (ck.all (λus hl=>match us,hl with|[_,_,_],_=>rfl)) hcl S (λ_ _ _ _=>trivial) (λA outer s H pf pu pw s' u hr h1 h2 h3 hl hul hC'=>by
    refine tF _ (b8 bH (aU aA (pv 0) (pv 3) (λ_ _=>rfl)) (pv 4) (aO _)) ?_;have hl:s'.length=a.rooms.length:=hl;refine tT _ rfl _ rfl pf _ (tG _ _ rfl rfl (SqL.of h1) (aR (cP (by omega))) (ua _ rfl rfl ?_ rfl));congr 1;exact decide_eq_decide.mpr ⟨λe=>by injection e with e;exact Int.ofNat_inj.mp e,λe=>by rw[e]⟩)
   refine dE (b:=⟨a.chances,a.rooms,[]⟩) (g:=λs u=>decide (s.getD i 0=a.rooms.getD i 0)) GL.v GL.vol GL.m (RA.mild m1) t2 Sh hσ W' ⟨C3,trivial⟩ λH4 q4 m4 b4 t4 hq4 hn4=>?_;have W4:=W2.mild m4 b4 t4;have RA4:=RA.mild (m1.trans m4);generalize hid H4 _=G4 at W4 RA4 m4 b4 t4 hq4 ⊢;obtain⟨dxr4,c4,f4,h4',s4,hri4⟩:=RA4.ins;refine tQ _ rfl r dxr4 (t8 _ rfl hri4 (dG (by decide) (by decide) (by decide) (by decide)) (W4.tabs _ hmem) (λfn5 c5 ctv5 H5 M5=>λH6 Sh6=>?_));have hσ6:∀p'∈([("room",1)]:List (Str×Nat)),∃v,([some (V.ref p),some (V.int (i:Int)),some (V.int ((a.rooms.getD i 0:Nat):Int)),some (V.ref r),some (V.ref q4),none]:L2.St)[p'.2]?=some (some v):=λp' hp'=>by simp at hp';subst hp';exact⟨_,rfl⟩
   have m5:de G4 H5:=M5.mild (W4.tabs _ hmem);have t5:aQ tabs H5:=W4.tabs.made RN.hf hmem M5;have W5:=W4.mild m5 M5.back t5;have S6:iN ["filling","ups","works","room"] psW ["room"] (iY ["room"]):=⟨rfl,rfl,rfl,by decide +kernel,rfl,by decide +kernel,by decide +kernel,by decide +kernel,by decide +kernel⟩
   obtain⟨C6,hcl6,hcn6⟩:=fM (cap:=[("room",1)]) (vs:=[V.int (i:Int)]) S6 M5.fn M5.code rfl rfl rfl Sh6 (λj p' hj=>by
    cases j with
    |zero=>cases hj;exact tF _ rfl rfl
    |succ j=>simp at hj) rfl
   have W6':=dz (P:=P) (w:=w) (K:=K) (mg:=mg) (base:=base) (k:=0) (f:=fn5) (a:=⟨a.chances,a.rooms,[]⟩) (CH:=λ_=>True) (g:=λs u=>V.bl (decide (s.getD i 0=0))) (N:=["filling","ups","works","room"]) (fv:=["room"]) (fvs:=[V.int (i:Int)]) C6 rfl rfl rfl rfl (ck.all (λus hl=>match us,hl with|[_,_,_],_=>rfl)) hcl6 S6 (λ_ _ _ _=>trivial) (λA outer s H pf pu pw s' u hr h1 h2 h3 hl hul hC'=>by
    refine tF _ (b8 bH (aU aA (pv 0) (pv 3) (λ_ _=>rfl)) al (aO _)) ?_;have hl:s'.length=a.rooms.length:=hl;refine tF _ rfl (tV _ rfl pf _ _ _ (tN rfl rfl (SqL.of h1) (aR (cP (by omega))) rfl ?_ rfl));congr 1;exact decide_eq_decide.mpr ⟨λe=>by injection e with e;exact Int.ofNat_inj.mp e,λe=>by rw[e];rfl⟩)
   refine dE (b:=⟨a.chances,a.rooms,[]⟩) (g:=λs u=>decide (s.getD i 0=0)) GL.v GL.vol GL.m (RA4.mild m5) t5 Sh6 hσ6 W6' ⟨C6,trivial⟩ λH7 q7 m7 b7 t7 hq7 hn7=>?_;have W7:=W5.mild m7 b7 t7;have q4':=m7 _ _ (m5 _ _ hq4 rfl) rfl;generalize hid H7 _=G7 at W7 m7 b7 t7 hq7 q4' ⊢;rw[k8 (b:=⟨a.chances,a.rooms,[]⟩) GL.v (λs=>s.getD i 0=a.rooms.getD i 0)]at q4';rw[k8 (b:=⟨a.chances,a.rooms,[]⟩) GL.v (λs=>s.getD i 0=0)]at hq7;refine⟨(by show 1≤sizeLine;decide),λq0 hq0=>?_⟩;have s0:ao G7 (upd G7 q0 (.lst [V.int 0])):=ay hq0;refine tR _ rfl q0 q4 _ (tJ _ rfl rfl ac (s0 _ _ q4') (by show 1+2≤sizeLine;decide) (λq8 hq8=>?_));have s8:=s0.trans (ay (o:=.lst ([V.int 0]++iV (fr (((Su111.Abs.states ⟨a.chances,a.rooms,[]⟩).zip (Su111.Abs.long ⟨a.chances,a.rooms,[]⟩)).map (λx=>if x.1.getD i 0=a.rooms.getD i 0 then x.2 else (0,1)) |>.foldl Su111.plus (0,1))))) hq8);refine tR _ rfl q8 q7 _ (tJ _ rfl rfl ac (s8 _ _ hq7) (by show 3+2≤sizeLine;decide) (λq hq=>?_));exact k _ x q (((W7.same s8).mono (n':=n+2) (by omega)).out hq rfl)
end
section
variable {P:Program} {w:World} {K:fG} {mg:Str→Option Value} {base:Heap} {CM:Addr} {tabs:List (Addr×Str)}
theorem rf{i:Nat}{s u:List Nat}{w:Bool}:(u.getD i 0==1&&(hasP i s && !w))=(u.getD i 0==1&&(!(i != 0&&s.getD (i-1) 0==0) && !w)):=by
 congr 2;unfold hasP;by_cases h0:i=0
 ·subst h0;rfl
 ·have e1:(i==0)=false:=beq_eq_false_iff_ne.mpr h0;have e2:(i != 0)=true:=by simp[h0]
  rw[e1,e2,Bool.false_or,Bool.true_and];by_cases h:s.getD (i-1) 0=0
  ·rw[h];rfl
  ·have e3:(s.getD (i-1) 0==0)=false:=beq_eq_false_iff_ne.mpr h;rw[e3,decide_eq_true (by omega)];rfl
theorem qN{f:Addr}{fd:FuncData}(F:Fun K "blocked" "MachineLine.blocked" (mth 18) f fd)(T:be K mg CM)(X:dF K mg)(RN:cH K mg tabs CM)(MK:dy K tabs fd fe)(hB:BAt mg base):aZ P w K mg base CX0 9 f fd ["self","machine"] (spC P w CM RN.R.C tabs (ge .blocked)):=by
 obtain⟨cc,Tb,ec,hcd,hmem⟩:=MK.ex;refine gz F mt (λvs H Q E h=>?_) (λA outer s H vs Q E hr h=>?_)
 ·obtain⟨p,x,a,n,rest,c,rfl,⟨i,rfl,_⟩,_⟩:=h;rfl
 ·obtain⟨p,x,a,n,rest,c,rfl,⟨i,rfl,rfl,_⟩,L,hn,tk,G,k⟩:=h;refine tF _ (ad (bh (aP ja (pv 1) (aM au (by rfl) X.T.hlen PySem.boot_len (aa (ax (pv 0) rfl) ae)) (aO _)) (ah (aj (aG (aa (a8 (v:=.int (-2)) rfl X.R2.h ⟨_,rfl⟩) ae)))) aI)
   (ad (ps_def (i:=2) (T:=Tb) (q:=fe) mt.nd rfl rfl hB ec hcd rfl (show ∀y∈scpD.names,y.2=.free→(ag (mth 18)).names.lookup y.1=some .cell∨(ag (mth 18)).names.lookup y.1=some .free by decide +kernel))
   (ah (aj (aT cA (aG (aa al ae)) (dj [("machine",1)] (λp hp=>by simp at hp;subst hp;exact tS rfl rfl rfl) (bn (pv 0) T.cl RN.LR.M (okLR RN T X) (hr.mono (by decide)) RN.LR.b .nil az) RN.R.T.cl RN.OF.M (okOF RN X hB 2) (hr.mono (by decide)) RN.OF.b (aa (pv 2) ae))))))) ?_
  have ed:Su111.does a (.blocked i)=if a.isM i=false then (a,Su111.no (-2)) else (a,Su111.num 0 (Su111.two (a.blocked i))):=rfl
  have GL:=G.l;have hm:a.chances.length=a.m:=rfl;obtain⟨dx,hp⟩:=L.ins;refine tT _ rfl _ rfl p CM (tI dx _ _ rfl hp T.cl (ue T.n1 (d3 x) x.c _ rfl (.inl (SqL.of L.c)) (ug _ _ rfl rfl _ rfl ?_)));rw[aD,hm];by_cases h1:a.m≤i
  ·rw[ed,if_pos (dH.mpr h1)]at k;refine bT (decide_eq_true (by omega)) ?_;exact⟨(by show 1≤sizeLine;decide),λq hq=>k _ x q (bw L tk hq rfl)⟩
  ·rw[ed,if_neg (λz=>h1 (dH.mp z))]at k;refine bF (decide_eq_false (by omega)) ?_;refine⟨tk _ hmem,λfn c' ctv doc Hm M=>?_⟩;have mM:de H Hm:=M.mild (tk _ hmem);have Wm:=(d7.start L tk).mild mM M.back (tk.made RN.hf hmem M);refine⟨(by show 1≤sizeLine;decide),λq0 hq0=>?_⟩;have sH0:ao Hm (upd Hm q0 (.lst [V.int 0])):=ay hq0;have W0:=Wm.same sH0;have z0:(upd Hm q0 (.lst [V.int 0])) q0=some (.lst [V.int 0]):=ac;generalize upd Hm q0 (.lst [V.int 0])=H0 at W0 z0 sH0;obtain⟨dx,hp⟩:=W0.line.ins;refine tR _ rfl p dx _ (ub rfl hp rfl p x (tG a n rfl W0.line (by omega) GL (λH1 r RA KN B=>?_)));have W1:=W0.run KN B;obtain⟨xs0,hx0,_⟩:=W0.line.kn;have z1:=B _ _ z0 (a9 z0 hx0 (λz=>nomatch z));have fn1:H1 fn=some (cO _):=B _ _ (sH0 _ _ M.fn) (a9 (sH0 _ _ M.fn) hx0 (λz=>nomatch z));have cf1:eW H1 c' fe:=by
    obtain⟨oc,cvs,tc,g1,g2,g3⟩:=M.code;exact tM oc cvs tc (B _ _ (sH0 _ _ g1) (a9 (sH0 _ _ g1) hx0 (λz=>nomatch z))) g2 g3
   obtain⟨dxr,c1,f1,h1',s1,hri⟩:=RA.ins;refine t6 r dxr _ rfl (uz hri (dG (by decide) (by decide) (by decide) (by decide)) _ rfl (λH3 Sh=>?_));have hσ:∀p'∈([("machine",1)]:List (Str×Nat)),∃v,([some (V.ref p),some (V.int (i:Int)),some (V.ref fn)]:L2.St)[p'.2]?=some (some v):=λp' hp'=>by simp at hp';subst hp';exact⟨_,rfl⟩
   have S:iN ["filling","ups","works","machine"] psW ["machine"] scpD:=⟨rfl,rfl,rfl,by decide +kernel,rfl,by decide +kernel,by decide +kernel,by decide +kernel,by decide +kernel⟩
   obtain⟨C3,hcl,hcn⟩:=fM (cap:=[("machine",1)]) (vs:=[V.int (i:Int)]) S fn1 cf1 rfl rfl rfl Sh (λj p' hj=>by
    cases j with
    |zero=>cases hj;exact tF _ rfl rfl
    |succ j=>simp at hj) rfl
   have W':=lX (P:=P) (w:=w) (K:=K) (mg:=mg) (base:=base) (k:=1) (f:=fn) (a:=⟨a.chances,a.rooms,[]⟩) (CH:=λ_=>True) (g:=λs u=>V.bl (u.getD i 0==1&&(!(i != 0&&s.getD (i-1) 0==0) && !((Su111.Abs.works ⟨a.chances,a.rooms,[]⟩ s u).getD i false)))) (N:=["filling","ups","works","machine"]) (fv:=["machine"]) (fvs:=[V.int (i:Int)]) C3 rfl rfl rfl rfl (ck.all (λus hl=>match us,hl with|[_,_,_],_=>rfl)) hcl S (λ_ _ _ _=>trivial) (λA outer s H pf pu pw s' u hr h1 h2 h3 hl hul hC'=>by
    refine tF _ (ah (aj (pe_and (b8 bH (aU aA (pv 1) (pv 3) (λ_ _=>rfl)) al (aO _)) (pe_and (aJ (ok_has X.T.DH.F) hr rfl X.T.DH.mgf X.T.DH.F.kp X.T.DH.b .nil az (aa (pv 3) (aa (pv 0) ae))) (nP (b8 bH (aU aA (pv 2) (pv 3) (λ_ _=>rfl)) al (aO _))))))) ?_;have him:i<a.m:=by omega
    have hul:u.length=a.m:=hul;have hl:s'.length=a.rooms.length:=hl;refine ur _ rfl _ rfl pu (tM _ _ _ rfl rfl (ui (SqL.of h2) (aR (cP (by omega))) rfl _ rfl ?_));rw[←rf];by_cases hu1:u.getD i 0=1
    ·refine bT (decide_eq_true (by rw[hu1];rfl)) ?_;refine tF _ rfl (tR _ rfl i pf s' (ui rfl (.inl (SqL.of h1)) (by have:=G.v.len;omega) _ rfl ?_));rw[hu1];cases hh:hasP i s' with
     |false=>exact⟨rfl,rfl⟩
     |true =>
      refine tF _ rfl (tV _ rfl pw _ _ _ (tN rfl rfl (SqL.of h3) (aR (cP (by rw[dA];exact him))) rfl ?_ rfl));rw[lY (show i<Su111.Abs.m ⟨a.chances,a.rooms,[]⟩ from him)];cases (Su111.Abs.works ⟨a.chances,a.rooms,[]⟩ s' u).getD i false<;>rfl
    ·refine bF (decide_eq_false (by intro e;injection e with e;exact hu1 (Int.ofNat_inj.mp e))) ⟨?_,rfl⟩;rw[beq_eq_false_iff_ne.mpr hu1];rfl)
   refine dE (b:=⟨a.chances,a.rooms,[]⟩) (g:=λs u=>u.getD i 0==1&&(!(i != 0&&s.getD (i-1) 0==0) && !((Su111.Abs.works ⟨a.chances,a.rooms,[]⟩ s u).getD i false))) GL.v GL.vol GL.m RA W1.tabs Sh hσ W' ⟨C3,trivial⟩ λH4 q4 m4 b4 t4 hq4 hn4=>?_;have W4:=W1.mild m4 b4 t4;refine tY q0 q4 _ _ (um rfl rfl (m4 _ _ z1 rfl) hq4 (by show 1+2≤sizeLine;decide) (λq hq=>?_));exact k _ x q ((W4.mono (n':=n+2) (by omega)).out (ans:=e9 (Su111.num 0 (Su111.two (a.blocked i)))) hq rfl)
end
end My
end
section
namespace My
open PySem PySem.Spec PyProof.Rows L2
section
variable {prog:Program} {w:World} {A:Around} {E:Value→Shared→Prop} {s:Shared}
theorem qS(d:Addr)(hd:(d==sysModules)=false):MeetsIn prog w (Builtin.«dict.items» ⟨[.ref d],[]⟩) (λ_ R s=>s.TypeIs (.ref d) "dict" ∧
   R (.ok (.ret (.ref s.heap.objs.size))) {s with heap:=s.heap.push {cls:=.type "dict_items",data:=.fields #[.ref d]}}) :=
 .of_wp λA R s ⟨hm,h⟩=>by
  unfold Builtin.«dict.items»;refine wpAny_bind ?_;unfold Builtin.Dict.noArgs;refine wpAny_bind (wpAny_notOrdered_dict hm ?_);show wpAny _ _ (pure d) _ _ s;refine wpAny_pure ?_;show wpAny _ _ (Builtin.Dict.showsAll d >>= _) _ _ s;unfold Builtin.Dict.showsAll;rw[if_neg (by rw[hd];exact rG)];refine wpAny_bind (wpAny_pure ?_);exact wpAny_bind (wpAny_newObj_type (wpAny_pure (tF _ rfl h)))
theorem iterPairT{v d:Addr}{n ep:Nat}{o:Obj}{es:Array DictEntry}{Q:Value→Shared→Prop}(hv:s.heap.IsItemsView v d)(ho:s.heap.get? d=some o)(hdat:o.data=.dict es ep)(hsz:es.size=n)(hQ:Q (.ref s.heap.objs.size) {s with heap:=s.heap.push {cls:=.type "dict_itemiterator",data:=.fields #[.none,.bool false,.ref d,.int 0 0,.int n 0,.int ep 0,.none,.none]}}):wpAny (model prog w) A (pyIter (.ref v)) Q E s:=by
 obtain⟨ov,hov,hcv,hdv⟩:=id hv;refine wpAny_pyIter_slot hv.typeIs F.slot_dict_items_iter (wpAny_call_entry F.slot_dict_items_iter hv.typeIs F.entry_dict_items_iter ?_ (F.args_dict_items_iter_1 _));unfold Builtin.«dict_items.__iter__»;refine wpAny_bind (wpAny_pure ?_);refine wpAny_bind ?_;unfold Builtin.Dict_items.dictOf;refine wpAny_bind (wpAny_field hov hdv (x:=.ref d) rfl (wpAny_pure ?_));refine wpAny_bind ?_;unfold Builtin.Dict_items.newIterator;refine wpAny_bind (wpAny_dictEntries ho hdat ?_);refine wpAny_bind (wpAny_dictEpoch ho hdat ?_);have hown:Builtin.Dict_items.ownsTuple "dict_itemiterator" = true:=by decide
 simp only[hown,if_true];refine wpAny_newObj_type (wpAny_pure (tW _ rfl ("dict_itemiterator") _ (tF _ (rK _ rfl) rfl) F.slot_dict_itemiterator_next.lookup ?_))
  (by simp only[sizeOk,Builtin.Dict_items.ownedTupleFields,sh,r9,rP,sx,sizeLine_eq];omega)
 simpa [rawInt,hsz,Builtin.Dict_items.ownedTupleFields] using hQ
theorem nextPairT{it d:Addr}{i n ep:Nat}{od:Obj}{es:Array DictEntry}{en:DictEntry}{ok ov:Value}{Q:Option Value→Shared→Prop}(hit:IsItemIter s.heap it d i n ep ok ov)(hod:s.heap.get? d=some od)(hdd:od.data=.dict es ep)(hsz:es.size=n)(hx:es[i]?=some en)(hQ:∀h',IsItemIterOut h' it d (i+1) n ep en.key en.val s.heap.objs.size →
   h'.get? s.heap.objs.size=some {cls:=.type "tuple",data:=.seq #[en.key,en.val]}→h'.objs.size=s.heap.objs.size+1 →
   (∀b o,b≠it→s.heap.get? b=some o→h'.get? b=some o)→Q (some (.ref s.heap.objs.size)) {s with heap:=h'}):wpAny (model prog w) A (pyNext (.ref it)) Q E s:=by
 obtain⟨hp,g,dr,tk,os⟩:=s;have hT:Shared.TypeIs ⟨hp,g,dr,tk,os⟩ (.ref it) "dict_itemiterator":=tF _ hit rfl
 unfold pyNext;refine wpAny_bind (wpAny_attempt (wpAny_callSpecial?_slot (name:=Str.ofString "__next__") hT F.slot_dict_itemiterator_next
  (wpAny_call_entry F.slot_dict_itemiterator_next hT F.entry_dict_itemiterator_next ?_ (F.args_dict_itemiterator_next_1 _))))
 refine wpAny_bind (wpAny_pure ?_);refine wpAny_bind ?_;refine wpAny_bind ?_
 first|refine wpAny_bind (wpAny_typeNameOfWhole_itemiter hT (wpAny_pure ?_))|refine wpAny_bind (wpAny_typeNameOf_itemiter hT (wpAny_pure ?_))
 refine wpAny_bind (wpAny_fieldsOf hit rfl ?_);have hown:Builtin.Dict_items.ownsTuple "dict_itemiterator" = true:=by decide
 simp only[hown,if_true];show wpAny _ _ (if (Value.ref d==Value.none)=true then _ else _) _ _ _;rw[if_neg (show ¬((Value.ref d==Value.none)=true) from rG)];refine wpAny_bind (wpAny_pure ?_);refine wpAny_bind (wpAny_dictEntries hod hdd ?_);rw[if_neg (by rw[hsz];simp)];refine wpAny_bind (wpAny_pure ?_);refine wpAny_bind (wpAny_dictEpoch hod hdd ?_);rw[if_neg (by simp)];refine wpAny_pure ?_;obtain⟨hlt',hen⟩:=Array.getElem?_eq_some_iff.mp hx;simp only[show ¬((i:Int)<0) from by omega,if_false,Int.toNat_natCast,hx];refine wpAny_bind ?_
 first|refine wpAny_bind (wpAny_typeNameOfWhole_itemiter hT (wpAny_pure ?_))|refine wpAny_bind (wpAny_typeNameOf_itemiter hT (wpAny_pure ?_))
 refine wpAny_bind (wpAny_isOneOf_itemiter hT ?_);show wpAny _ _ (setField (.ref it) 3 (rawInt ((i:Int)+1)) >>= _) _ _ ⟨hp,g,dr,tk,os⟩;refine wpAny_bind (wpAny_setField_rec hit (by simp) λh₁ he₁ hs₁=>?_);replace hs₁:Heap.SameBut it hp h₁:=hs₁;replace he₁:IsItemIter h₁ it d (i+1) n ep ok ov:=by
  have e:((i+1:Nat):Int)=(i:Int)+1:=by omega
  unfold IsItemIter;rw[e];simpa [rawInt] using he₁
 have hT₁:Shared.TypeIs ⟨h₁,g,dr,tk,os⟩ (.ref it) "dict_itemiterator":=tF _ he₁ rfl
 refine wpAny_bind (wpAny_holding ?_);refine wpAny_bind (wpAny_isOneOf_itemiter hT₁ ?_);refine wpAny_bind (wpAny_isOneOf_itemiter hT₁ ?_);show wpAny _ _ (Builtin.Dict_items.pairFromOwner (.ref it) 6 en.key en.val) _ _ ⟨h₁,g,dr,tk,os⟩;unfold Builtin.Dict_items.pairFromOwner;refine wpAny_bind (wpAny_newTuple ?_);have he₂:IsItemIter (h₁.push {cls:=.type "tuple",data:=.seq #[en.key,en.val]}) it d (i+1) n ep ok ov:=rJ _ he₁;generalize hh₂:h₁.push {cls:=.type "tuple",data:=.seq #[en.key,en.val]}=h₂ at he₂;have hz₁:h₁.objs.size=hp.objs.size:=hs₁.1;have hil:it<hp.objs.size:=rg hit;have ht₂:h₂.get? hp.objs.size=some {cls:=.type "tuple",data:=.seq #[en.key,en.val]}:=by rw[←hh₂,←hz₁];exact rK _ rfl
 have hz₂:h₂.objs.size=hp.objs.size+1:=by rw[←hh₂,rS,hz₁]
 have hk₂:∀b o,b≠it→hp.get? b=some o→h₂.get? b=some o:=λb o hb e=>by rw[←hh₂];exact rJ _ (hs₁.extBut b o hb e)
 show wpAny _ _ (Builtin.Dict_items.ownedTupleIsFree (.ref it) >>= _) _ _ ⟨h₂,g,dr,tk,os⟩;rw[hz₁];clear hh₂ he₁ hs₁ hT₁ hz₁ h₁;refine wpAny_bind ?_;unfold Builtin.Dict_items.ownedTupleIsFree;refine wpAny_bind (wpAny_field he₂ rfl (x:=.none) rfl (wpAny_pure ?_));simp only[if_true];refine wpAny_bind (wpAny_field he₂ rfl (x:=ok) rfl ?_);refine wpAny_bind (wpAny_field he₂ rfl (x:=ov) rfl ?_);refine wpAny_bind (wpAny_setField_rec he₂ (by simp) λh₃ he₃ hs₃=>?_);replace hs₃:Heap.SameBut it h₂ h₃:=hs₃;replace he₃:IsItemIter h₃ it d (i+1) n ep en.key ov:=he₃;refine wpAny_bind (wpAny_setField_rec he₃ (by simp) λh₄ he₄ hs₄=>?_);replace hs₄:Heap.SameBut it h₃ h₄:=hs₄;replace he₄:IsItemIter h₄ it d (i+1) n ep en.key en.val:=he₄;refine wpAny_bind (wpAny_setField_rec he₄ (by simp) λh₅ he₅ hs₅=>?_);replace hs₅:Heap.SameBut it h₄ h₅:=hs₅;replace he₅:IsItemIterOut h₅ it d (i+1) n ep en.key en.val hp.objs.size:=he₅;refine wpAny_bind (wpAny_setField_rec he₅ (by simp) λh₆ he₆ hs₆=>?_);replace hs₆:Heap.SameBut it h₅ h₆:=hs₆;replace he₆:IsItemIterOut h₆ it d (i+1) n ep en.key en.val hp.objs.size:=he₆;refine wpAny_bind (wpAny_letGo (wpAny_pure (wpAny_pure (tF _ rfl (wpAny_pure (hQ h₆ he₆ ?_ ?_ ?_))))))
 ·exact hs₆.extBut _ _ (rH hil) (hs₅.extBut _ _ (rH hil) (hs₄.extBut _ _ (rH hil) (hs₃.extBut _ _ (rH hil) ht₂)))
 ·show h₆.objs.size=hp.objs.size+1;rw[hs₆.1,hs₅.1,hs₄.1,hs₃.1,hz₂]
 ·exact λb o hb e=>hs₆.extBut b o hb (hs₅.extBut b o hb (hs₄.extBut b o hb (hs₃.extBut b o hb (hk₂ b o hb e))))
theorem lastPairT{it d:Addr}{i n ep:Nat}{od:Obj}{es:Array DictEntry}{ok ov:Value}{Q:Option Value→Shared→Prop}(hh:A.handled=none)(hit:IsItemIter s.heap it d i n ep ok ov)(hod:s.heap.get? d=some od)(hdd:od.data=.dict es ep)(hsz:es.size=n)(hx:n≤i)(hQ:∀h',Heap.ExtBut it s.heap h'→Q none {s with heap:=h'}):wpAny (model prog w) A (pyNext (.ref it)) Q E s:=by
 have hT:s.TypeIs (.ref it) "dict_itemiterator":=tF _ hit rfl
 unfold pyNext;refine wpAny_bind (wpAny_attempt (wpAny_callSpecial?_slot (name:=Str.ofString "__next__") hT F.slot_dict_itemiterator_next
  (wpAny_call_entry F.slot_dict_itemiterator_next hT F.entry_dict_itemiterator_next ?_ (F.args_dict_itemiterator_next_1 _))))
 refine wpAny_bind (wpAny_pure ?_);refine wpAny_bind ?_;refine wpAny_bind ?_
 first|refine wpAny_bind (wpAny_typeNameOfWhole_itemiter hT (wpAny_pure ?_))|refine wpAny_bind (wpAny_typeNameOf_itemiter hT (wpAny_pure ?_))
 refine wpAny_bind (wpAny_fieldsOf hit rfl ?_);have hown:Builtin.Dict_items.ownsTuple "dict_itemiterator" = true:=by decide
 simp only[hown,if_true];show wpAny _ _ (if (Value.ref d==Value.none)=true then _ else _) _ _ s;rw[if_neg (show ¬((Value.ref d==Value.none)=true) from rG)];refine wpAny_bind (wpAny_pure ?_);refine wpAny_bind (wpAny_dictEntries hod hdd ?_);rw[if_neg (by rw[hsz];simp)];refine wpAny_bind (wpAny_pure ?_);refine wpAny_bind (wpAny_dictEpoch hod hdd ?_);rw[if_neg (by simp)];refine wpAny_pure ?_;have hge:es.size≤i:=by rw[hsz];exact hx
 simp only[show ¬((i:Int)<0) from by omega,if_false,Int.toNat_natCast,Array.getElem?_eq_none hge];refine wpAny_bind ?_
 first|refine wpAny_bind (wpAny_typeNameOfWhole_itemiter hT (wpAny_pure ?_))|refine wpAny_bind (wpAny_typeNameOf_itemiter hT (wpAny_pure ?_))
 show wpAny _ _ (setField (.ref it) 2 .none >>= _) _ _ s;refine wpAny_bind (wpAny_setField hit rfl (by simp) ?_);show wpAny _ _ (newExc (.type "StopIteration") [] >>= _) _ _ _;refine wpAny_bind ?_;simp only[newExc,newTuple];refine wpAny_bind (wpAny_newObj_type ?_ (by size_fits));refine wpAny_bind (m:=firstArgMember _ _) (wpAny_of_eq (a:=Value.none) (by first|rfl|(simp only[firstArgMember];rfl)) ?_);refine wpAny_newObj_type ?_ (by size_fits);simp only[raiseNew];refine wpAny_bind (wpAny_handled ?_);rw[show A.in1.handled=none from hh];refine wpAny_bind (wpAny_pure (wpAny_throw ?_));refine wpAny_bind (wpAny_isInstance (T:="StopIteration") (b:=true) (tF _ (rK _ rfl) rfl) isSubtype_stop ?_);exact wpAny_pure (hQ _ (((Heap.SameBut.update ..).extBut.push _).push _))
end
section
variable {X:Cx} {pins:List (Addr×Obj)} {σ:L2.St} {H:Hp} {s:Shared} {d:Addr} {o:Obj}
theorem frzTv{kvs:List (List Key×V)}(I:Inv X pins σ H s)(h:H d=some (.frz o (.dT kvs))):(d==sysModules)=false∧s.heap.get? d=some o∧o.ExactDict∧∃(es:Array DictEntry) (ep:Nat),o.data=.dict es ep∧es.size=kvs.length ∧
   ∀(i:Nat) (k:List Key) (v:V),kvs[i]?=some (k,v)→∃(en:DictEntry) (q:Addr),es[i]?=some en∧en.key=.ref q∧bg v en.val∧H q=some (.tup (k.map kV)):=by
 obtain⟨hd,z,hs,xs,pr,o',es,ep,ho,hx,hdt,he,_⟩:=I.hok d _ h;rw[hd]at ho;cases ho;refine⟨hs,ue hd hx es ep hdt ?_ (λi k v e=>?_)⟩
 ·have l1:es.size=xs.length:=size_of_entries he;have l2:kvs.length=xs.length:=Paired.length pr;omega
 ·obtain⟨b,hb,e1,e2,e3⟩:=qJ pr e;have q:=entry_at he i;rw[hb]at q;exact tP _ b.2.1 q rfl e3 e2
end
def Itit(d:Addr)(o:Obj)(kvs:List (List Key×V)):It :=
 ⟨λi H=>H d=some (.frz o (.dT kvs))∧i<kvs.length,λi H x H'=>∃T k v q,kvs[i]?=some (k,v)∧x=.ref T∧H T=none∧H q=some (.tup (k.map kV))∧H'=upd H T (.tup [.ref q,v]),λi H=>H d=some (.frz o (.dT kvs))∧kvs.length≤i⟩
section
variable {P:Program} {w:World} {K:fG} {tg:Expr} {d:Addr} {o:Obj} {es:Array DictEntry} {ep:Nat}
theorem qy{kvs:List (List Key×V)}{elts:List Expr}{kk:Nat}{tpos:Pos}(it:Addr)(hod:o.data=.dict es ep):Turn P w K (.Tuple elts kk tpos) (Itit d o kvs) [it] it (λi h=>∃ok ov,IsItemIter h it d i kvs.length ep ok ov) where
 mem:=by simp
 obj:=λi h st b hb=>by
  have e:b=it:=by simpa using hb
  subst e;obtain⟨ok,ov,e⟩:=st;exact tF _ e (λv z=>nomatch z)
 keep:=λi h h' st k=>let ⟨ok,ov,e⟩:=st;⟨ok,ov,k it (by simp) _ e⟩
 item:=by
  intro X hP hw hK hc i pins s σ H E I hf st hg;subst hP hw hK;obtain⟨hd,hi⟩:=hg;obtain⟨hs,hgd,hx,es',ep',hdt,hsz,ent⟩:=frzTv I hd;obtain⟨rfl,rfl⟩:=dict_ep hod hdt;obtain⟨⟨k,v⟩,hkv⟩:∃p,kvs[i]?=some p:=⟨kvs[i],sG hi⟩
  obtain⟨en,q,hen,hkey,ru,hq⟩:=ent i k v hkv;obtain⟨ok,ov,he⟩:=st;have hlt:it<s.heap.objs.size:=rg he;refine nextPairT he hgd hdt hsz hen λh' ho hT hz hk=>?_;refine tF _ rfl (wpAny_letOwnedTupleGo_items (s:={s with heap:=h'}) ho λh'' he' sb=>?_);have hT2:h''.get? s.heap.objs.size=some {cls:=.type "tuple",data:=.seq #[en.key,en.val]}:=(sb.2 _ (rH hlt)).trans hT;have new:bI X.prog X.w (upd H s.heap.objs.size (.tup [.ref q,v])) h'' s.heap.objs.size (.tup [.ref q,v]) :=
   (tX (by show 2≤sizeLine;decide) [en.key,en.val] (.cons hkey (.cons ru .nil)) (ux _ hT2 rfl _ rfl))
  have I1:Inv X pins σ (upd H s.heap.objs.size (.tup [.ref q,v])) {s with heap:=h''} :=
   I.turnedNew (t':=s.toks) (ch:=[it]) (λb ob hb e=>(sb.2 b (by simpa using hb)).trans (hk b ob (by simpa using hb) e)) hf (rL _) new
  refine tG (.ref s.heap.objs.size) _ I1 rfl (tU _ k (tG v q hkv rfl (I.hok.fresh (rL _)) hq rfl)) (tU en.key en.val he') (λb hb=>?_);have e:b=it:=by simpa using hb
  rw[e,af (rm hlt)];exact(hf it (by simp)).1
 done:=by
  intro X hP hw hK hc i pins s σ H E I hf st hg;subst hP hw hK;obtain⟨hd,hi⟩:=hg;obtain⟨f0,f1,f2,f3,f4,f5⟩:=hf it (by simp);obtain⟨hs,hgd,hx,es',ep',hdt,hsz,ent⟩:=frzTv I hd;obtain⟨rfl,rfl⟩:=dict_ep hod hdt;obtain⟨ok,ov,he⟩:=st;exact lastPairT (I.ok.hd hc) he hgd hdt hsz hi λh' eb=>⟨rfl,I.turned (t':=s.toks) (λb ob hb e=>eb b ob hb e) f0 f1 f3 f4 f5⟩
 self:=λA i s Q E st h=>let ⟨_,_,e⟩:=st;PySem.W.kcp_self e h
end
def iPairT(td:TE):TI:=λσ H R=>td σ H λx H1=>∃d o kvs,x=.ref d∧H1 d=some (.frz o (.dT kvs))∧R (Itit d o kvs) H1
section
variable {X:Cx} {tg e:Expr} {td:TE} {apos cpos:Pos}
theorem pi_pairT{elts:List Expr}{kk:Nat}{tpos:Pos}(he:PE X e td)(hbase:attributeBase e "items" X.env (eval e X.env)=eval e X.env:=by rfl)(hline:(apos.endLine==cpos.line)=true:=by rfl):PI X (.Tuple elts kk tpos) (.Call (.Attribute e "items" apos) [] [] cpos) (iPairT td):=by
 intro pins s σ H R I h;refine wpAny_Call_method (T:="dict") (id:="dict.items") hbase rfl hline F.plainAttrs_dict F.slot_dict_items F.type_dict_items (thn (he pins s σ H _ I h) λu s1 ⟨x,H1,I1,rx,d,o,kvs,ex,hd,q⟩=>?_);subst ex;obtain rfl:u=Value.ref d:=rx;obtain⟨hs,hgd,hx,es,ep,hdt,hsz,ent⟩:=frzTv I1 hd;have hT:s1.TypeIs (.ref d) "dict":=tF o hgd hx.1
 refine tS hT (λa e=>(by cases e;exact tF o hgd hx.2.1)) ?_;have I2:Inv X pins σ H1 {s1 with heap:=s1.heap.push {cls:=.type "dict_items",data:=.fields #[.ref d]}}:=I1.kept (t':=s1.toks) λb ob q=>rJ _ q;have fin:wpAny (model X.prog X.w) X.A (pyIter (.ref s1.heap.objs.size)) (PIE X pins σ (.Tuple elts kk tpos) R) X.xe {s1 with heap:=s1.heap.push {cls:=.type "dict_items",data:=.fields #[.ref d]}}:=by
  refine iterPairT (d:=d) (tK _ (rK _ rfl) rfl rfl) (rJ _ hgd) hdt hsz (pi_one (tk:=s1.toks) I2 _ (qy _ hdt) (tU .none .none ?_) q);exact rK _ rfl
 show wpAny _ _ (callWith cpos (.builtin "dict.items") [.ref d] [] []) _ X.xe s1;exact method_meetsIn F.slot_dict_items F.entry_dict_items rfl (PySem.evalArgs_none ⟨rfl,hT,F.args_dict_items_1 _,_,qS d hs,hT,fin⟩)
end
def tOneT(tk tv:TE):TE:=λσ H Q=>∀p,H p=none→tk σ (upd H p (.dT [])) λx H1=>tv σ H1 λy H2=>H2 p=some (.dT [])∧∃(k:List Key) (q:Addr),x=.ref q∧H2 q=some (.tup (k.map kV))∧Q (.ref p) (upd H2 p (.dT [(k,y)]))
theorem pe_oneT{X:Cx}{pos:Pos}{k v:Expr}{tk tv:TE}(hu:X.A.units+1<cLine)(hk:PE X k tk)(hv:PE X v tv):PE X (.Dict [some k] [v] pos) (tOneT tk tv):=by
 intro pins s σ H Q I q;have hn:=I.hok.fresh (rL s.heap.objs.size);have I1:=I.laid (a:=s.heap.objs.size) (o:=.dT []) (h':=s.heap.push {cls:=.type "dict",data:=.dict #[]}) (t':=s.toks) (λ_ _ q=>rJ _ q) (rL _) (qh s.heap I.big);refine wpAny_Dict_any rfl rfl (List.cons_ne_nil _ _) (by show 1≤15;decide) ?_;refine pairTrees_cons_walk (thn (hk pins _ σ _ _ I1 (q _ hn)) λu s1 ⟨x,H1,I1,rx,q1⟩=>thn (hv pins s1 σ H1 _ I1 q1) λw2 s2 ⟨y,H2,I2,ry,e,ks,a,ex,ea,q2⟩=>pairTrees_nil_walk ?_);subst ex;obtain rfl:u=Value.ref a:=rx;show wpAny _ _ (storeAll s.heap.objs.size [(.ref a,w2)]) _ _ s2;unfold storeAll;rw[List.forIn_cons];obtain⟨z,hd,xs,rel,dd⟩:=dt_of I2.hok e;cases rel;refine wpAny_bind (wpAny_bind (wpAny_dictSet_heap (knd:=tupleKind (bB X.prog X.w)) (by show X.A.units<cLine;omega) (iD I2.hok ea) dd λh' dd' hs=>wpAny_pure ?_));show wpAny _ _ (forIn [] PUnit.unit _) _ _ _;rw[List.forIn_nil];refine wpAny_pure (tH (.ref s.heap.objs.size) _ ?_ rfl q2);obtain⟨oq,es,ep,hq,h2,h3,h4,_,h5⟩:=dd';refine kt I2 (by rw[e];exact True.intro) hs ⟨oq,hq⟩ (t9 (by show 1≤sizeLine;decide) hd _ (((KT.put (kvs:=[]) (xs:=[]) .nil ks ea ry)).keeps λc ys ec=>?_) oq es (t8 ep hq h2 h3 h4 h5));rw[af (a9 ec e (λz=>nomatch z))];exact ec
abbrev sMF:Stmt:=top 28
abbrev sWA:Stmt:=top 29
def kvW(W:List (List Nat×Nat)):List (List Key×V):=W.map λp=>(aq p.1,V.int ((p.2:Nat):Int))
theorem kvW_len(W:List (List Nat×Nat)):(kvW W).length=W.length:=by unfold kvW;rw[rR]
theorem kvW_at{W:List (List Nat×Nat)}{i:Nat}{k:List Key}{v:V}(h:(kvW W)[i]?=some (k,v)):∃s c,W[i]?=some (s,c)∧k=aq s∧v=V.int ((c:Nat):Int):=by
 unfold kvW at h;rw[r6]at h;cases e:W[i]? with
 |none=>rw[e]at h;cases h
 |some z =>
  rw[e]at h;have h:=Option.some.inj h;exact tH z.1 z.2 rfl ((congrArg Prod.fst h).symm) ((congrArg Prod.snd h).symm)
def gotW(W:List (List Nat×Nat))(s:List Nat):Nat:=match W with
 |[]=>0
 |(t,d)::r=>if t=s then d else gotW r s
theorem valW(s:List Nat):∀W:List (List Nat×Nat),(fT (kvW W) (aq s)).getD (V.int 0)=V.int ((gotW W s:Nat):Int)
 |[]=>rfl
 |(t,d)::r=>by
  have ih:=valW s r;unfold gotW;by_cases e:t=s
  ·subst e;rw[if_pos rfl];show(fT ((aq t,V.int (d:Int))::kvW r) (aq t)).getD _=_;rw[iR rfl];rfl
  ·rw[if_neg e];show(fT ((aq t,V.int (d:Int))::kvW r) (aq s)).getD _=_;rw[iS (λz=>e (cN z))];exact ih
theorem pp(s:List Nat)(c:Nat):∀W:List (List Nat×Nat),(Lr.eB W s c).length≤W.length+1
 |[]=>by simp[Lr.eB]
 |(t,d)::r=>by
  unfold Lr.eB;by_cases e:t=s
  ·rw[if_pos e];simp
  ·rw[if_neg e];have:=pp s c r;simp only[rP];omega
theorem kU{s x:List Nat}{c:Nat}:∀{W:List (List Nat×Nat)},x∈(Lr.eB W s c).map (·.1)→x∈W.map (·.1)∨x=s
 |[],h=>by simp[Lr.eB]at h;exact .inr h
 |(t,d)::r,h=>by
  unfold Lr.eB at h;by_cases e:t=s
  ·rw[if_pos e]at h;exact .inl h
  ·rw[if_neg e]at h;rw[rQ]at h ⊢;rcases rC.mp h with h|h
   ·exact .inl (by rw[h];exact rA)
   ·rcases kU h with h|h
    ·exact .inl (rB _ h)
    ·exact .inr h
theorem kT(s:List Nat)(c:Nat):∀{W:List (List Nat×Nat)},(W.map (·.1)).Nodup→((Lr.eB W s c).map (·.1)).Nodup
 |[],_=>by simp[Lr.eB]
 |(t,d)::r,h=>by
  rw[rQ,rV]at h;unfold Lr.eB;by_cases e:t=s
  ·rw[if_pos e,rQ,rV];exact h
  ·rw[if_neg e,rQ,rV];refine⟨λz=>?_,kT s c h.2⟩;rcases kU z with z|z
   ·exact h.1 z
   ·exact e z
theorem mapW_no{s:List Nat}{v:V}:∀{W:List (List Nat×Nat)},s∉W.map (·.1)→(kvW W).map (λkv=>if kv.1=aq s then (kv.1,v) else kv)=kvW W
 |[],_=>rfl
 |(t,d)::r,h=>by
  rw[rQ,rC,not_or]at h;show(if aq t=aq s then (aq t,v) else (aq t,V.int (d:Int)))::(kvW r).map _=(aq t,V.int (d:Int))::kvW r;rw[mapW_no h.2,if_neg (λz=>h.1 (cN z).symm)]
theorem putW_kv(s:List Nat)(c:Nat):∀{W:List (List Nat×Nat)},(W.map (·.1)).Nodup→gf (kvW W) (aq s) (V.int (((gotW W s:Nat):Int)+((c:Nat):Int)))=kvW (Lr.eB W s c)
 |[],_=>by
  show [(aq s,V.int (((0:Nat):Int)+((c:Nat):Int)))]=[(aq s,V.int ((c:Nat):Int))];rw[show(((0:Nat):Int)+((c:Nat):Int))=(c:Int) by omega]
 |(t,d)::r,h=>by
  rw[rQ,rV]at h;have ih:=putW_kv s c h.2;unfold gotW Lr.eB;by_cases e:t=s
  ·subst e;rw[if_pos rfl,if_pos rfl];unfold gf;rw[if_pos (by show(decide (aq t=aq t)||_)=true;rw[decide_eq_true rfl];rfl)];show(if aq t=aq t then (aq t,_) else (aq t,V.int (d:Int)))::(kvW r).map _=(aq t,V.int ((d+c:Nat):Int))::kvW r;rw[mapW_no h.1,if_pos rfl,Int.natCast_add]
  ·rw[if_neg e,if_neg e];show gf ((aq t,V.int (d:Int))::kvW r) _ _=(aq t,V.int (d:Int))::kvW (Lr.eB r s c);rw[←ih];unfold gf;have hne:decide (aq t=aq s)=false:=decide_eq_false (λz=>e (cN z));have ha:(((aq t,V.int (d:Int))::kvW r).any λkv=>decide (kv.1=aq s))=((kvW r).any λkv=>decide (kv.1=aq s)):=by
    rw[List.any_cons,hne];rfl
   rw[ha];by_cases hb:((kvW r).any λkv=>decide (kv.1=aq s))=true
   ·rw[if_pos hb,if_pos hb,rQ,if_neg (λz=>e (cN z))]
   ·rw[if_neg hb,if_neg hb];rfl
structure jL(H:Hp)(p:Addr)(rs:List Addr)(M:List Lr.Mv):Prop where
 lst:H p=some (.lst (rs.map V.ref))
 len:rs.length=M.length
 at_:∀(i:Nat) (r:Addr) (x:Lr.Mv),rs[i]?=some r→M[i]?=some x→∃q:Addr,H r=some (.tup [.int ((x.1:Nat):Int),.ref q,.int ((x.2.2:Nat):Int)])∧H q=some (.tup (nV x.2.1))
theorem jL.same{H H':Hp}{p:Addr}{rs:List Addr}{M:List Lr.Mv}(h:jL H p rs M)(e:ao H H'):jL H' p rs M :=
 ⟨e _ _ h.lst,h.len,λi r x a b=>let ⟨q,h1,h2⟩:=h.at_ i r x a b;⟨q,e _ _ h1,e _ _ h2⟩⟩
theorem jL.snoc{H H':Hp}{p r q:Addr}{rs:List Addr}{M:List Lr.Mv}{x:Lr.Mv}(h:jL H p rs M)(hp:H' p=some (.lst (rs.map V.ref++[V.ref r])))(hr:H' r=some (.tup [.int ((x.1:Nat):Int),.ref q,.int ((x.2.2:Nat):Int)]))(hq:H' q=some (.tup (nV x.2.1)))(e:∀b o,H b=some o→b≠p→H' b=some o):jL H' p (rs++[r]) (M++[x]):=by
 have hlen:=h.len;refine⟨by rw[hp,sQ];rfl,by rw[r9,r9,hlen];rfl,λi r' x' a b=>?_⟩;by_cases hi:i<rs.length
 ·rw[rZ hi]at a;rw[rZ (by omega)]at b;obtain⟨q',h1,h2⟩:=h.at_ i r' x' a b;exact tF q' (e _ _ h1 (a9 h1 h.lst (λz=>nomatch z))) (e _ _ h2 (a9 h2 h.lst (λz=>nomatch z)))
 ·have h1:i=rs.length:=by
   have:=(rE.mp a).1;rw[r9,sk]at this;omega
  subst h1;rw[rY (rL _),sJ]at a;rw[rY (by omega),hlen,sJ]at b;simp at a b;subst a b;exact tF q hr hq
theorem for_pairT{d:Addr}{o:Obj}{es:List (List Key×V)}{g:TG}{tb:TS}{D:hG}{σ:L2.St}{H:Hp}(Pv:Nat→L2.St→Hp→Prop)(h0:Pv 0 σ H)(hl:∀i σ H,i≤es.length→Pv i σ H→H d=some (.frz o (.dT es)))(hs:∀i k v q T σ H,es[i]?=some (k,v)→H q=some (.tup (k.map kV))→H T=none→Pv i σ H→g (.ref T) σ (upd H T (.tup [.ref q,v])) λσ2 H2=>tb {D with nx:=Pv (i+1),ct:=Pv (i+1),bk:=D.nx} σ2 H2)(hd:∀σ H,Pv es.length σ H→D.nx σ H):∃W:Nat→Nat→L2.St→Hp→Prop,(∃m,W 0 m σ H)∧∀i m σ H,W i m σ H →
   ((Itit d o es).stop i H∧D.nx σ H)∨((Itit d o es).go i H∧∃N:L2.St→Hp→Prop,(∀σ' H',N σ' H'→∃m',m'<m∧W (i+1) m' σ' H')∧∀x H',(Itit d o es).yld i H x H'→g x σ H' λσ2 H2=>tb {D with nx:=N,ct:=N,bk:=D.nx} σ2 H2):=by
 refine tF (λi m σ H=>m=es.length-i∧i≤es.length∧Pv i σ H) (tK es.length (by simp) (rO _) h0) ?_;rintro i m σ H ⟨rfl,hi,p⟩;have q:=hl i σ H hi p;by_cases hlt:i<es.length
 ·refine .inr (tX ⟨q,hlt⟩ (Pv (i+1)) (λσ' H' p'=>ua (es.length-(i+1)) (by omega) rfl hlt p') (λx H' y=>?_));obtain⟨T,k,v,qa,hx,rfl,hT,hq,rfl⟩:=y;exact hs i k v qa T σ H hx hq hT p
 ·have e:i=es.length:=by omega
  subst e;exact .inl ⟨⟨q,rL _⟩,hd σ H p⟩
def tot(W:List (List Nat×Nat)):Nat:=Lr.eJ (λ_=>1) W
theorem tot_le{W:List (List Nat×Nat)}{p:List Nat×Nat}(h:p∈W):p.2≤tot W:=by
 have:=fH (λp:List Nat×Nat=>p.2*1) h;unfold tot Lr.eJ;simp only[Nat.mul_one]at this ⊢;exact this
theorem mvOf_sum{a:Su111.Abs}(hv:Lr.a0 a)(s:List Nat)(c:Nat):((Lr.fU a s c).map λx=>x.2.2).sum=c*10^a.m:=by
 unfold Lr.fU;rw[sN];have e:a.m=a.chances.length:=rfl;have h3:((Su111.ups a.m).map (Lr.wt a.chances)).sum=10^a.m:=by rw[e];exact Lr.ic hv.chance
 rw[←h3];generalize Su111.ups a.m=l;clear h3;induction l with
 |nil=>simp
 |cons u l ih =>
  simp only[rQ,sW,Nat.mul_add];rw[ih];rfl
theorem jB{a:Su111.Abs}(hv:Lr.a0 a)(W:List (List Nat×Nat)):((Lr.aE a W).map λx=>x.2.2).sum=tot W*10^a.m:=by
 induction W with
 |nil=>simp[Lr.aE,tot,Lr.eJ]
 |cons p r ih =>
  have e:Lr.aE a (p::r)=Lr.fU a p.1 p.2++Lr.aE a r:=rfl;rw[e,sQ,List.sum_append,ih,mvOf_sum hv];unfold tot Lr.eJ;simp only[rQ,sW,Nat.mul_one,sV]
theorem tot_after{a:Su111.Abs}(hv:Lr.a0 a)(W:List (List Nat×Nat)):tot (Lr.c6 (Lr.aE a W))=tot W*10^a.m:=by
 unfold tot;rw[Lr.kH];have:=jB hv W;simp only[Nat.mul_one];exact this
theorem jC(a:Su111.Abs)(W:List (List Nat×Nat)):(Lr.aE a W).length=W.length*2^a.m:=by
 induction W with
 |nil=>simp[Lr.aE]
 |cons p r ih =>
  have e:Lr.aE a (p::r)=Lr.fU a p.1 p.2++Lr.aE a r:=rfl;rw[e,r9,ih,rP,sV];unfold Lr.fU;rw[rR,cg];omega
theorem lw:∀(M:List Lr.Mv) (W:List (List Nat×Nat)),(M.foldl (λW x=>Lr.eB W x.2.1 x.2.2) W).length≤W.length+M.length
 |[],W=>by simp
 |x::M,W=>by
  rw[List.foldl_cons];have h1:=lw M (Lr.eB W x.2.1 x.2.2);have h2:=pp x.2.1 x.2.2 W;rw[rP];omega
theorem lv:∀(M:List Lr.Mv) {W:List (List Nat×Nat)},(W.map (·.1)).Nodup→((M.foldl (λW x=>Lr.eB W x.2.1 x.2.2) W).map (·.1)).Nodup
 |[],_,h=>h
 |x::M,_,h=>lv M (kT x.2.1 x.2.2 h)
theorem qg:∀(M:List Lr.Mv) {W:List (List Nat×Nat)} {s:List Nat},s∈(M.foldl (λW x=>Lr.eB W x.2.1 x.2.2) W).map (·.1)→s∈W.map (·.1)∨∃x,x∈M∧s=x.2.1
 |[],_,_,h=>.inl h
 |x::M,W,s,h=>by
  rcases qg M h with h|⟨y,hy,e⟩
  ·rcases kU h with h|h
   ·exact .inl h
   ·exact .inr (tF x rA h)
  ·exact .inr (tF y (rB _ hy) e)
theorem moves_at{a:Su111.Abs}{W:List (List Nat×Nat)}{x:Lr.Mv}(h:x∈Lr.aE a W):x.2.1.length=a.rooms.length:=by
 unfold Lr.aE at h;obtain⟨p,hp,h⟩:=List.mem_flatMap.mp h;unfold Lr.fU at h;obtain⟨u,hu,rfl⟩:=sv.mp h;exact Lr.jc a p.1 u
theorem qz{a:Su111.Abs}{W:List (List Nat×Nat)}{i:Nat}{s:List Nat}{c:Nat}(h:W[i]?=some (s,c)):Lr.aE a (W.take (i+1))=Lr.aE a (W.take i)++Lr.fU a s c:=by
 rw[sI,h];unfold Lr.aE;rw[List.flatMap_append];simp
section
variable {P:Program} {w:World} {K:fG} {mg:Str→Option Value} {base:Heap}
def spMF(K:fG):Sp:=λvs H Q _=>∃(pd pc ph:Addr) (o:Obj) (a:Su111.Abs) (W:List (List Nat×Nat)),vs=[.ref pd,.ref pc,.ref ph]∧H pd=some (.frz o (.dT (kvW W)))∧Sq K H pc (nV a.chances)∧Sq K H ph (nV a.rooms)∧Lr.a0 a∧a.m≤4 ∧
 (∀s c,(s,c)∈W→s.length=a.rooms.length)∧tot W<2^64∧W.length≤1000∧∀(H':Hp) (p:Addr) (rs:List Addr),ao H H'→jL H' p rs (Lr.aE a W)→Q (.ref p) H'
abbrev nMF:List Str:=["weights","chances","holds","moves","filling","weight","ups","works","likely"]
theorem scMF:ap nMF ["weights","chances","holds"] (ag sMF):=⟨rfl,rfl,rfl,by decide +kernel,rfl,by decide +kernel,by decide +kernel⟩
structure lN(K:fG)(mg:Str→Option Value) where
 DL:aN K mg "likely_hours" fC ["chances","holds","filling"]
 DE:aN K mg "every_choice" kP ["limits"]
 DW:aN K mg "who_works" sWho ["ups","holds","filling"]
 DH:aN K mg "has_piece" sHas ["machine","filling"]
 DG:aN K mg "weight_of" eP ["ups","chances"]
 DP:aN K mg "product" ib ["numbers"]
 DA:aN K mg "filling_after" gb ["works","filling"]
 hlen:mg "len" = none
 hrange:mg "range" = none
 hzip:mg "zip" = none
 htup:mg "tuple" = none
theorem ok_mf{f:Addr}{fd:FuncData}(F:Fun K "moves_from" "moves_from" sMF f fd)(D:lN K mg):aZ P w K mg base CX0 4 f fd ["weights","chances","holds"] (spMF K):=by
 refine F.ok scMF (λvs H Q E h=>?_) (λcdv A outer s H vs Q E hr h=>?_)
 ·obtain⟨pd,pc,ph,o,a,W,rfl,_⟩:=h;rfl
 ·obtain⟨pd,pc,ph,o,a,W,rfl,hd,hc,hh,hv,hm4,hW,hT,hL,k⟩:=h;have hr1:bP 1 _:=hr.mono (by decide);refine tF _ (ad (aC (i:=3) scMF.nd rfl (Or.inl rfl) (aG ae))
   (ad (cn PassesOwn.never rfl (pi_pairT (pv 0)) (dD rfl (aS (aw (i:=4) scMF.nd rfl (Or.inl rfl)) (aS (aw (i:=5) scMF.nd rfl (Or.inl rfl)) cM)))
    (ah (cn PassesOwn.never rfl (bZ (aJ (mD D.DL.F D.DE D.DW D.DH D.DG D.DP D.hlen D.hrange D.hzip) hr rfl D.DL.mgf D.DL.F.kp D.DL.b .nil az (aa (pv 1) (aa (pv 2) (aa (pv 4) ae))))) (dD rfl (aS (aw (i:=6) scMF.nd rfl (Or.inl rfl)) (aS (aw (i:=7) scMF.nd rfl (Or.inl rfl)) (aS (aw (i:=8) scMF.nd rfl (Or.inl rfl)) cM))))
     (ah (bU (fP PySem.F.plainAttrs_list PySem.F.slot_list_append PySem.F.type_list_append ci (pv 3) (aa (nO (aa (aU aA (pv 7) (jX fY al) (λ_ _=>rfl)) (aa (da cy rfl D.htup (by decide +kernel) (aa (aJ (k7 D.DA.F D.hlen D.hrange) hr1 rfl D.DA.mgf D.DA.F.kp D.DA.b .nil az (aa (pv 7) (aa (pv 4) ae))) ae)) (aa (aT dk (pv 5) (pv 8)) ae)))) ae)))))))
   (ah (aj (pv 3))))) ?_
  refine⟨rO _,λmo hmo=>?_⟩;have s1:ao H (upd H mo (.lst [])):=ay hmo;refine tF _ rfl (tM pd o (kvW W) rfl (s1 _ _ hd) (for_pairT (es:=kvW W) (λi σ H'=>∃(rs:List Addr) (v4 v5 v6 v7 v8:Option V),σ=[some (.ref pd),some (.ref pc),some (.ref ph),some (.ref mo),v4,v5,v6,v7,v8]∧ao H H'∧jL H' mo rs (Lr.aE a (W.take i)))
   (tY [] none none none (tH none none rfl s1 ⟨ac,rfl,λi r x a=>by simp at a⟩)) (λi σ H' _ ⟨_,_,_,_,_,_,_,sm,_⟩=>sm _ _ hd) ?_ ?_))
  ·rintro i ky v q T σ H' hx hq hT' ⟨rs2,v4,v5,v6,v7,v8,rfl,sm,MV⟩;obtain⟨l,c,hWi,rfl,rfl⟩:=kvW_at hx;rw[fI]at hq;have hll:=hW l c (r8 hWi);have sT:=ay (o:=.tup [.ref q,V.int ((c:Nat):Int)]) hT';have MV1:=MV.same sT;have hq1:=sT _ _ hq;have sm1:=sm.trans sT;have hT1:(upd H' T (.tup [.ref q,V.int ((c:Nat):Int)])) T=some (.tup [.ref q,V.int ((c:Nat):Int)]):=ac;generalize upd H' T (.tup [.ref q,V.int ((c:Nat):Int)])=H1 at MV1 hq1 sm1 hT1;refine uy T _ rfl (SqT.of hT1) rfl _ (tW _ rfl _ _ rfl rfl ?_);refine tF _ rfl (tT _ rfl _ rfl pc ph (t6 q a l rfl (tN (sqS sm1 hc) (sqS sm1 hh) (.inr (SqT.of hq1)) hv hll hm4 (λH2 hp hrs s2 HA=>?_))));have MV2:=MV1.same s2;have sm2:=sm1.trans s2;have hq2:=s2 _ _ hq1;have hlen2:hrs.length=2^a.m:=by rw[HA.len,cg]
   have hpos:0<2^a.m:=Nat.pow_pos (by decide);have hpmo:hp≠mo:=by
    intro z;subst z;have e:hrs.map V.ref=rs2.map V.ref:=by
     have:=HA.lst.symm.trans MV2.lst;injection this with this;injection this
    have e2:hrs=rs2:=List.map_inj_right (λ_ _ z=>V.ref.inj z) |>.mp e
    subst e2;have hl1:=MV2.len;obtain⟨u,hu⟩:∃u,(Su111.ups a.m)[0]?=some u:=⟨_,sG (by rw[cg];exact hpos)⟩
    obtain⟨x,hx2⟩:∃x,(Lr.aE a (W.take i))[0]?=some x:=⟨_,sG (by omega)⟩
    have h0:=sG (show 0<hrs.length by omega);obtain⟨pu,pw,g1,_⟩:=HA.at_ 0 _ u h0 hu;obtain⟨q',g2,_⟩:=MV2.at_ 0 _ x h0 hx2;rw[g1]at g2;injection g2 with g2;injection g2 with g2;injection g2 with g2;cases g2
   refine tK hp rfl ⟨_,SqL.of HA.lst⟩ (dS (K:=K) (a:=hp) (xs:=hrs.map V.ref) (λt σ H3=>∃(rs:List Addr) (v6 v7 v8:Option V),σ=[some (.ref pd),some (.ref pc),some (.ref ph),some (.ref mo),some (.ref q),some (.int ((c:Nat):Int)),v6,v7,v8]∧ao H H3∧(∀b o,H2 b=some o→b≠mo→H3 b=some o)∧jL H3 mo rs (Lr.aE a (W.take i)++(Lr.fU a l c).take t))
    ⟨rs2,tI v6 v7 v8 rfl sm2 (λ_ _ e _=>e) (by rw[List.take_zero,rT];exact MV2)⟩ (λt σ H3 _ ⟨_,_,_,_,_,_,kp,_⟩=>SqL.of (kp _ _ HA.lst hpmo)) ?_ ?_)
   ·rintro t y σ H3 hy ⟨rs,v6,v7,v8,rfl,sm3,kp,MV3⟩;obtain⟨r,hr2,ey⟩:∃r,hrs[t]?=some r∧y=V.ref r:=by
     rw[r6]at hy;cases e:hrs[t]? with
     |none=>rw[e]at hy;cases hy
     |some z=>rw[e]at hy;exact tF z rfl ((Option.some.inj hy).symm)
    subst ey;have htl:t<(Su111.ups a.m).length:=by
     rw[←HA.len];exact(rE.mp hr2).1
    obtain⟨u,hu2⟩:∃u,(Su111.ups a.m)[t]?=some u:=⟨_,sG htl⟩
    obtain⟨pu,pw,g1,g2,g3,n1,n2,n3⟩:=HA.at_ t r u hr2 hu2;have nr:∀{b:Addr} {xs:List V},H2 b=some (.tup xs)→b≠mo:=λh=>a9 h MV2.lst (λz=>nomatch z);have g1':=kp _ _ g1 (nr g1);have hq3:=kp _ _ hq2 (nr hq2);have hml:a.rooms.length+1=a.m:=hv.len.symm;have npw:pw≠mo:=by
     intro z;subst z;have e:=g3.symm.trans MV2.lst;injection e with e;injection e with e;have hw:=dA a l u;cases hwk:wk a l u with
     |nil=>rw[hwk]at hw;simp at hw;omega
     |cons x xs =>
      rw[hwk]at e;cases rs2 with
      |nil=>cases e
      |cons y ys=>cases e
    have g3':=kp _ _ g3 npw;refine uy r _ rfl (SqT.of g1') rfl _ (tQ _ rfl _ _ (uB rfl _ _ rfl rfl ?_));refine tK _ rfl (.inl (uj rfl _ (SqL.of MV3.lst))) ?_;refine tT _ rfl _ rfl pw _ (tG _ _ rfl rfl (SqL.of g3') (lG (by rw[dA];omega)) ?_);refine tT _ rfl _ rfl pw q (tM a l u rfl ⟨.inl (SqL.of g3'),.inr (SqT.of hq3),hml,hll,hm4⟩ (λna hna=>?_));have s4:ao H3 (upd H3 na (.lst (nV (a.next l u)))):=ay hna;refine tO na _ rfl (.inl ⟨SqL.of ac,λtp htp=>?_⟩);have s5:=s4.trans (ay (o:=.tup (nV (a.next l u))) htp);have htp5:(upd (upd H3 na (.lst (nV (a.next l u)))) tp (.tup (nV (a.next l u)))) tp=some (.tup (nV (a.next l u))):=ac;generalize upd (upd H3 na (.lst (nV (a.next l u)))) tp (.tup (nV (a.next l u)))=H5 at s5 htp5;have hcs:Sml 64 ((c:Nat):Int):=by
     have:=tot_le (r8 hWi);unfold Sml;omega
    refine t0 _ rfl _ rfl (tP _ _ rfl rfl (tH 64 64 hcs (oG hv hm4 (r8 hu2)) (by decide)) ?_);refine⟨(by show 3≤sizeLine;decide),λr' hr'=>?_⟩;rw[dA];have s6:=ay (o:=.tup [V.int (((wk a l u).getD (a.m-1) 0:Nat):Int),V.ref tp,V.int (((c:Nat):Int)*((Lr.wt a.chances u:Nat):Int))]) hr';have s56:=s5.trans s6;have hr6:(upd H5 r' (.tup [V.int (((wk a l u).getD (a.m-1) 0:Nat):Int),V.ref tp,V.int (((c:Nat):Int)*((Lr.wt a.chances u:Nat):Int))])) r'=some (.tup [V.int (((wk a l u).getD (a.m-1) 0:Nat):Int),V.ref tp,V.int (((c:Nat):Int)*((Lr.wt a.chances u:Nat):Int))]):=ac;have htp6:=s6 _ _ htp5;generalize upd H5 r' (.tup [V.int (((wk a l u).getD (a.m-1) 0:Nat):Int),V.ref tp,V.int (((c:Nat):Int)*((Lr.wt a.chances u:Nat):Int))])=H6 at s56 s6 hr6 htp6;have MV6:=MV3.same s56;have hx2:(Lr.fU a l c)[t]?=some (Lr.lastW a l u,a.next l u,c*Lr.wt a.chances u):=by
     unfold Lr.fU;rw[r6,hu2];rfl
    have nmo:∀{b:Addr} {xs:List V},H6 b=some (.tup xs)→b≠mo:=λh=>a9 h MV6.lst (λz=>nomatch z);refine⟨mo,tG _ _ rfl rfl MV6.lst ?_ ?_⟩
    ·rw[rR,MV6.len,r9,jC,rX,rX];have h1:min i W.length≤1000:=by omega
     have h2:2^a.m≤2^4:=sZ (by decide) hm4;have h3:min i W.length*2^a.m≤1000*2^4:=Nat.mul_le_mul h1 h2;have h4:min t (Lr.fU a l c).length≤2^4:=by
      rw[cg]at htl;omega
     rw[sizeLine_eq];omega
    ·refine⟨rs++[r'],tI _ _ _ rfl (bp (sm3.trans s56) hmo) (λb ob e nb=>by rw[af nb];exact s56 _ _ (kp b ob e nb)) ?_⟩;rw[sI,hx2,Option.toList_some,←sK];refine MV6.snoc ac (q:=tp) (by
      rw[af (nmo hr6),hr6,lY (by omega),tw];rfl) (by rw[af (nmo htp6)];exact htp6) (λb ob e nb=>by rw[af nb];exact e)
   ·rintro σ H3 ⟨rs,v6,v7,v8,rfl,sm3,kp,MV3⟩;rw[rR,hlen2,sn (show(Lr.fU a l c).length≤2^a.m by unfold Lr.fU;rw[rR,cg];exact rL _),←qz hWi]at MV3;exact tY rs _ _ _ (tH _ _ rfl sm3 MV3)
  ·rintro σ H' ⟨rs,v4,v5,v6,v7,v8,rfl,sm,MV⟩;rw[kvW_len,tm]at MV;exact tF _ rfl (k H' mo rs sm MV)
end
section
variable {P:Program} {w:World} {K:fG} {mg:Str→Option Value} {base:Heap}
def spWA:Sp:=λvs H Q _=>∃(pm:Addr) (rs:List Addr) (M:List Lr.Mv),vs=[.ref pm]∧jL H pm rs M∧M.length≤20000∧∀(H':Hp) (p:Addr),ao H H'→H' p=some (.dT (kvW (Lr.c6 M)))→H p=none→Q (.ref p) H'
abbrev nWA:List Str:=["moves","weights","piece","filling","weight"]
theorem scWA:ap nWA ["moves"] (ag sWA):=⟨rfl,rfl,rfl,by decide +kernel,rfl,by decide +kernel,by decide +kernel⟩
theorem ok_wa{f:Addr}{fd:FuncData}(F:Fun K "weights_after" "weights_after" sWA f fd):aZ P w K mg base CX0 1 f fd ["moves"] spWA:=by
 refine F.ok scWA (λvs H Q E h=>?_) (λcdv A outer s H vs Q E hr h=>?_)
 ·obtain⟨pm,rs,M,rfl,_⟩:=h;rfl
 ·obtain⟨pm,rs,M,rfl,MV,hM,k⟩:=h;have hu:=hu_of hr;refine tF _ (ad (aC (i:=1) scWA.nd rfl (Or.inl rfl) pD)
   (ad (cn PassesOwn.never rfl (bZ (pv 0)) (dD rfl (aS (aw (i:=2) scWA.nd rfl (Or.inl rfl)) (aS (aw (i:=3) scWA.nd rfl (Or.inl rfl)) (aS (aw (i:=4) scWA.nd rfl (Or.inl rfl)) cM))))
    (ah (ps_dput hu (pv 1) (pv 3) (aT cB (pe_dget2 hu (pv 1) (pv 3) al ⟨rfl,rfl,rfl,rfl⟩) (pv 4)) rfl)))
   (ah (aj (pv 1))))) ?_
  refine λpd hpd=>?_;have s1:ao H (upd H pd (.dT [])):=ay hpd;refine uq _ rfl pm rfl ⟨_,SqL.of (s1 _ _ MV.lst)⟩ (dS (K:=K) (a:=pm) (xs:=rs.map V.ref) (λt σ H'=>∃(v2 v3 v4:Option V),σ=[some (.ref pm),some (.ref pd),v2,v3,v4]∧ao H H'∧H' pd=some (.dT (kvW (Lr.c6 (M.take t)))))
   (tM none none none rfl s1 ac) (λt σ H' _ ⟨_,_,_,_,sm,_⟩=>SqL.of (sm _ _ MV.lst)) ?_ ?_)
  ·rintro t y σ H' hy ⟨v2,v3,v4,rfl,sm,hd⟩;obtain⟨r,hr2,ey⟩:∃r,rs[t]?=some r∧y=V.ref r:=by
    rw[r6]at hy;cases e:rs[t]? with
    |none=>rw[e]at hy;cases hy
    |some z=>rw[e]at hy;exact tF z rfl ((Option.some.inj hy).symm)
   subst ey;have htl:t<M.length:=by
    rw[←MV.len];exact(rE.mp hr2).1
   obtain⟨x,hx⟩:∃x,M[t]?=some x:=⟨_,sG htl⟩
   obtain⟨q,g1,g2⟩:=MV.at_ t r x hr2 hx;have g2':H' q=some (.tup ((aq x.2.1).map kV)):=by rw[fI];exact sm _ _ g2
   refine uy r _ rfl (SqT.of (sm _ _ g1)) rfl _ (tQ _ rfl _ _ (uB rfl _ _ rfl rfl ?_));refine uq _ rfl pd rfl (.inr ⟨_,.inl hd⟩) (uC _ rfl _ (DGet.t hd g2') _ rfl (ug _ _ (valW _ _) rfl _ rfl (tW _ rfl pd _ rfl (DPut.t hd g2' ?_) ?_)))
   ·rw[kvW_len];have h1:=lw (M.take t) [];rw[rX,sx]at h1;unfold Lr.c6;rw[sizeLine_eq];omega
   ·refine tM _ _ _ rfl (bp sm hpd) ?_;have e:=putW_kv x.2.1 x.2.2 (W:=Lr.c6 (M.take t)) (lv (M.take t) (W:=[]) List.nodup_nil);have e2:Lr.c6 (M.take (t+1))=Lr.eB (Lr.c6 (M.take t)) x.2.1 x.2.2:=by
     rw[sI,hx];unfold Lr.c6;rw[List.foldl_append];rfl
    rw[ac,e2,←e]
  ·rintro σ H' ⟨v2,v3,v4,rfl,sm,hd⟩;rw[rR,MV.len,tm]at hd;exact tF _ rfl (k H' pd sm hd hpd)
end
abbrev sPS:Stmt:=top 30
def outL(M:List Lr.Mv):List Int:=M.map λx=>((x.1:Nat):Int)*((x.2.2:Nat):Int)
theorem pH:∀M:List Lr.Mv,(outL M).sum=((Lr.outW M:Nat):Int)
 |[]=>rfl
 |x::M=>by
  have ih:=pH M;unfold outL Lr.outW at ih ⊢;simp only[rQ,sW,Int.natCast_add,tw];rw[ih]
theorem lastW_le(a:Su111.Abs)(s u:List Nat):Lr.lastW a s u≤1:=by
 unfold Lr.lastW;split<;>omega
theorem pB{a:Su111.Abs}{W:List (List Nat×Nat)}{x:Lr.Mv}(h:x∈Lr.aE a W):x.1≤1:=by
 unfold Lr.aE at h;obtain⟨p,hp,h⟩:=List.mem_flatMap.mp h;unfold Lr.fU at h;obtain⟨u,hu,rfl⟩:=sv.mp h;exact lastW_le a p.1 u
theorem k4:∀{M:List Lr.Mv},(∀x,x∈M→x.1≤1)→Lr.outW M≤(M.map λx=>x.2.2).sum
 |[],_=>by simp[Lr.outW]
 |x::M,h=>by
  have ih:=k4 λy hy=>h y (rB _ hy);have h1:=h x rA;unfold Lr.outW at ih ⊢;simp only[rQ,sW];have:x.1*x.2.2≤1*x.2.2:=sU _ h1;omega
theorem out_le{a:Su111.Abs}(hv:Lr.a0 a)(W:List (List Nat×Nat)):Lr.outW (Lr.aE a W)≤tot W*10^a.m:=by
 rw[←jB hv];exact k4 λx hx=>pB hx
structure lK(a:Su111.Abs)(s:List Nat)(k:Nat)(W:List (List Nat×Nat))(above:Nat):Prop where
 tot:My.tot W=10^(a.m*k)
 len:W.length≤16^k
 fits:∀t c,(t,c)∈W→t.length=a.rooms.length
 le:above≤k*10^(a.m*k)
 eq:∀n,above*10^(a.m*n)+Lr.eJ (a.pieces n) W=a.pieces (k+n) s
theorem lK.start(a:Su111.Abs){s:List Nat}(h:s.length=a.rooms.length):lK a s 0 [(s,1)] 0:=by
 refine⟨by simp[My.tot,Lr.eJ],by simp,λt c hm=>?_,by simp,λn=>?_⟩
 ·simp at hm;rw[hm.1];exact h
 ·rw[Lr.nL,Nat.zero_mul,Nat.zero_add,Nat.zero_add]
theorem lK.step{a:Su111.Abs}(hv:Lr.a0 a)(hm:a.m≤4){s:List Nat}{k:Nat}{W:List (List Nat×Nat)}{above:Nat}(h:lK a s k W above):lK a s (k+1) (Lr.c6 (Lr.aE a W)) (above*10^a.m+Lr.outW (Lr.aE a W)):=by
 have e10:10^(a.m*(k+1))=10^(a.m*k)*10^a.m:=by rw[Nat.mul_succ,Nat.pow_add]
 refine⟨by rw[tot_after hv,h.tot,e10],?_,λt c hmem=>?_,?_,λn=>?_⟩
 ·have h1:=lw (Lr.aE a W) [];rw[sx,Nat.zero_add,jC]at h1;have h2:2^a.m≤2^4:=sZ (by decide) hm;have h3:W.length*2^a.m≤16^k*2^4:=Nat.mul_le_mul h.len h2;unfold Lr.c6;rw[Nat.pow_succ];omega
 ·have hmem:=List.mem_map_of_mem (f:=(·.1)) hmem;unfold Lr.c6 at hmem;rcases qg _ hmem with z|⟨x,hx,e⟩
  ·simp at z
  ·have e:t=x.2.1:=e;rw[e];exact moves_at hx
 ·have h1:=out_le hv W;rw[h.tot]at h1;have h2:above*10^a.m≤k*10^(a.m*k)*10^a.m:=sU _ h.le;rw[e10,sV,Nat.one_mul];rw[Nat.mul_assoc]at h2;omega
 ·have h1:=h.eq (n+1);rw[Lr.pA]at h1;have e:k+1+n=k+(n+1):=by omega
  rw[e,←h1,sV,Nat.mul_assoc,←Nat.pow_add,Nat.mul_succ,Nat.add_comm a.m];omega
theorem pow12{m k:Nat}(hm:m≤4)(hk:k≤3):10^(m*k)≤10^12:=sZ (by decide) (Nat.mul_le_mul hm hk)
theorem sml{n:Nat}(h:n≤10^13):Sml 64 ((n:Nat):Int):=by
 unfold Sml;omega
theorem jL.unlock{H:Hp}{p d:Addr}{rs:List Addr}{M:List Lr.Mv}{o:Obj}{es:List (List Key×V)}{u:HO}(h:jL H p rs M)(hd:H d=some (.frz o (.dT es))):jL (upd H d u) p rs M :=
 ⟨by rw[af (a9 h.lst hd (λz=>nomatch z))];exact h.lst,h.len,λi r x a b=>let ⟨q,h1,h2⟩:=h.at_ i r x a b;⟨q,by rw[af (a9 h1 hd (λz=>nomatch z))];exact h1,by rw[af (a9 h2 hd (λz=>nomatch z))];exact h2⟩⟩
section
variable {P:Program} {w:World} {K:fG} {mg:Str→Option Value} {base:Heap}
def spPS(K:fG):Sp:=λvs H Q _=>∃(pc ph pf:Addr) (a:Su111.Abs) (s:List Nat) (n:Nat),vs=[.ref pc,.ref ph,.ref pf,.int ((n:Nat):Int)]∧Sq K H pc (nV a.chances)∧Sq K H ph (nV a.rooms)∧H pf=some (.lst (nV s))∧Lr.a0 a∧a.m≤4∧s.length=a.rooms.length∧n≤3 ∧
 ∀(H':Hp) (q:Addr),ao H H'→H' q=some (.lst (iV (fr (Su111.low ((a.pieces n s:Nat):Int) (10^(a.m*n))))))→Q (.ref q) H'
abbrev nPS:List Str:=["chances","holds","filling","count","cases","weights","above","below","hour","moves","piece","after","weight"]
theorem i0:ap nPS ["chances","holds","filling","count"] (ag sPS):=⟨rfl,rfl,rfl,by decide +kernel,rfl,by decide +kernel,by decide +kernel⟩
structure jn(K:fG)(mg:Str→Option Value) where
 HD:lN K mg
 DM:aN K mg "moves_from" sMF ["weights","chances","holds"]
 DW:aN K mg "weights_after" sWA ["moves"]
 DC:aN K mg "hour_cases" iq ["chances"]
 DL:aN K mg "lowest" sLow ["above","below"]
 DGc:aN K mg "common_measure" sGcd ["one","other"]
 hsum:mg "sum" = none
theorem ok_ps{f:Addr}{fd:FuncData}(F:Fun K "pieces_soon" "pieces_soon" sPS f fd)(D:jn K mg):aZ P w K mg base CX0 5 f fd ["chances","holds","filling","count"] (spPS K):=by
 refine F.ok i0 (λvs H Q E h=>?_) (λcdv A outer s H vs Q E hr h=>?_)
 ·obtain⟨pc,ph,pf,a,l,n,rfl,_⟩:=h;rfl
 ·obtain⟨pc,ph,pf,a,l,n,rfl,hc,hh,hf,hv,hm4,hll,hn,k⟩:=h;have hu:=hu_of hr;refine tF _ (ad (aC (i:=4) i0.nd rfl (Or.inl rfl) (aJ (pP D.DC.F D.HD.DP) (hr.mono (by decide)) rfl D.DC.mgf D.DC.F.kp D.DC.b .nil az (aa (pv 0) ae)))
   (ad (aC (i:=5) i0.nd rfl (Or.inl rfl) (pe_oneT hu (da cy rfl D.HD.htup (by decide +kernel) (aa (pv 2) ae)) al))
   (ad (aC (i:=6) i0.nd rfl (Or.inl rfl) al)
   (ad (aC (i:=7) i0.nd rfl (Or.inl rfl) al)
   (ad (cn PassesOwn.never rfl (gT rfl D.HD.hrange (aa (pv 3) ae)) (aw (i:=8) i0.nd rfl (Or.inl rfl))
    (ad (ps_lock (aC (i:=9) i0.nd rfl (Or.inl rfl) (aJ (ok_mf D.DM.F D.HD) hr rfl D.DM.mgf D.DM.F.kp D.DM.b .nil az (aa (pv 5) (aa (pv 0) (aa (pv 1) ae))))))
    (ad (aC (i:=6) i0.nd rfl (Or.inl rfl) (aT cB (aT dk (pv 6) (pv 4)) (aM (jF rfl) (by rfl) D.hsum (by decide +kernel) (aa (fi (own:=[("piece",10),("after",11),("weight",12)]) rfl i0.nd (bZ (pv 9)) (show db nPS (ag sPS) _ [("piece",10),("after",11),("weight",12)] from⟨rfl,by decide +kernel,by decide +kernel,by decide +kernel,by decide +kernel⟩)
     (g:=gTup K 3 (fq (dq 10) (fq (dq 11) (fq (dq 12) gNil)))) (λ_ _ _ _ _=>dD rfl (aS (aw (i:=10) i0.nd rfl (Or.inl rfl)) (aS (aw (i:=11) i0.nd rfl (Or.inl rfl)) (aS (aw (i:=12) i0.nd rfl (Or.inl rfl)) cM)))) (λ_ _ _ _ _=>bY)
     (te:=tOp (rI CMulB λi j=>.int (i*j)) (dc 10) (dc 12)) (λ_ _ _ _ _=>aT dk (pv 10) (pv 12))) ae))))
    (ad (aC (i:=7) i0.nd rfl (Or.inl rfl) (aT dk (pv 7) (pv 4)))
    (ah (aC (i:=5) i0.nd rfl (Or.inl rfl) (aJ (ok_wa D.DW.F) (hr.mono (by decide)) rfl D.DW.mgf D.DW.F.kp D.DW.b .nil az (aa (pv 9) ae))))))))
   (ah (aj (aJ (ok_low D.DL.F D.DGc) (hr.mono (by decide)) rfl D.DL.mgf D.DL.F.kp D.DL.b .nil az (aa (pv 6) (aa (pv 7) ae)))))))))) ?_
  have hml:a.chances.length=a.m:=rfl;refine tF _ rfl (tP pc a.chances rfl hc hm4 (λH1 s1=>?_));refine λpd hpd=>?_;have s2:=s1.trans (ay (o:=.dT []) hpd);refine uo _ rfl pf _ rfl (.inl ⟨SqL.of (s2 _ _ hf),λtp htp=>?_⟩);have npd:pd≠tp:=λz=>by rw[z,ac]at htp;cases htp
  have s3:=s2.trans (ay (o:=.tup (nV l)) htp);refine uB (by rw[af npd,ac]) (aq l) tp rfl (by rw[ac,fI]) ?_;have hpdH:H pd=none:=s1.free hpd;have s4:ao H (upd (upd (upd H1 pd (.dT [])) tp (.tup (nV l))) pd (.dT [(aq l,V.int 1)])):=bp s3 hpdH;have hd4:(upd (upd (upd H1 pd (.dT [])) tp (.tup (nV l))) pd (.dT [(aq l,V.int 1)])) pd=some (.dT (kvW [(l,1)])):=ac;generalize upd (upd (upd H1 pd (.dT [])) tp (.tup (nV l))) pd (.dT [(aq l,V.int 1)])=H4 at s4 hd4;refine tF _ rfl (ua _ rfl (by omega) (by omega) (ft (λi σ H'=>∃(pd:Addr) (W:List (List Nat×Nat)) (above:Nat) (v8 v9:Option V),σ=[some (.ref pc),some (.ref ph),some (.ref pf),some (.int ((n:Nat):Int)),some (.int ((10^a.m:Nat):Int)),some (.ref pd),some (.int ((above:Nat):Int)),some (.int ((10^(a.m*i):Nat):Int)),v8,v9,none,none,none]∧ao H H'∧H' pd=some (.dT (kvW W))∧H pd=none∧lK a l i W above)
   (tY pd [(l,1)] 0 none (t8 none rfl s4 hd4 hpdH (lK.start a hll))) ?_ ?_))
  ·rintro i σ H' hi ⟨pd,W,above,v8,v9,rfl,sm,hd,hn0,S⟩;have hi3:i<3:=by omega
   have p1:=pow12 hm4 (show i≤3 by omega);have p2:=pow12 hm4 (show i+1≤3 by omega);have p3:=pow12 hm4 (show 1≤3 by omega);rw[Nat.mul_one]at p3;have hc1:Sml 64 ((10^a.m:Nat):Int):=sml (by omega);have hsz:W.length≤256:=by
    have h1:=S.len;have h2:16^i≤16^2:=sZ (by decide) (by omega);omega
   have sfz:∀od,ao H (upd H' pd (.frz od (.dT (kvW W)))):=λod=>bp sm hn0;refine tH pd _ hd trivial (λod=>?_);refine t0 _ rfl _ rfl (tR _ rfl pd pc ph (tI od a W rfl ac (sqS (sfz od) hc) (tN (sqS (sfz od) hh) hv hm4 S.fits ?_ (by omega) (λH2 mp rs s2 MV=>?_))))
   ·rw[S.tot];omega
   ·have hl2:=s2 _ _ (show(upd H' pd (.frz od (.dT (kvW W)))) pd=some (.frz od (.dT (kvW W))) from ac);refine⟨hl2,?_⟩;have MV3:=MV.unlock (u:=.dT (kvW W)) hl2;have s3:ao H (upd H2 pd (.dT (kvW W))):=bp ((sfz od).trans s2) hn0;generalize upd H2 pd (.dT (kvW W))=H3 at MV3 s3;have hmv:=jC a W;have h16:2^a.m≤2^4:=sZ (by decide) hm4;have hmv2:W.length*2^a.m≤256*2^4:=Nat.mul_le_mul hsz h16;have hab:above≤3*10^12:=rq S.le (Nat.mul_le_mul (by omega) p1);have e10:10^(a.m*i)*10^a.m=10^(a.m*(i+1)):=by rw[Nat.mul_succ,Nat.pow_add]
    refine t0 _ rfl _ rfl (tP _ _ rfl rfl (tH 64 64 (sml (by omega)) hc1 (by decide)) ?_);refine uq _ rfl mp rfl ⟨_,SqL.of MV3.lst⟩ (λD hD=>d6 (K:=K) (a:=mp) (xs:=rs.map V.ref) (λt H5=>ao H3 H5∧H5 D=some (.lst (iV (outL ((Lr.aE a W).take t)))))
     ⟨ay hD,ac⟩ (λt H5 _ ⟨s5,_⟩=>SqL.of (s5 _ _ MV3.lst)) ?_ ?_)
    ·rintro t y H5 hy ⟨s5,hD5⟩;obtain⟨r,hr2,ey⟩:∃r,rs[t]?=some r∧y=V.ref r:=by
      rw[r6]at hy;cases e:rs[t]? with
      |none=>rw[e]at hy;cases hy
      |some z=>rw[e]at hy;exact tF z rfl ((Option.some.inj hy).symm)
     subst ey;have htl:t<(Lr.aE a W).length:=by
      rw[←MV3.len];exact(rE.mp hr2).1
     obtain⟨x,hx⟩:∃x,(Lr.aE a W)[t]?=some x:=⟨_,sG htl⟩
     obtain⟨q,g1,g2⟩:=MV3.at_ t r x hr2 hx;have hxm:=r8 hx;have hx1:=pB hxm;have hx2:=fH (λx:Lr.Mv=>x.2.2) hxm;rw[jB hv,S.tot,e10]at hx2;refine uy r _ rfl (SqT.of (s5 _ _ g1)) rfl _ (uo _ rfl _ _ rfl (tP _ _ rfl rfl rfl ?_));refine tF _ rfl (tW _ rfl _ _ rfl rfl (uk (tH 64 64 (sml (by omega)) (sml (by omega)) (by decide)) _ hD5 ?_ ?_))
     ·rw[bG];unfold outL;rw[rR,rX,sizeLine_eq];omega
     ·refine⟨bp s5 hD,?_⟩;rw[ac,sI,hx];unfold outL iV;rw[sQ,sQ];rfl
    ·rintro H5 ⟨s5,hD5⟩;rw[rR,MV3.len,tm]at hD5;refine tU D _ (ue rfl (SqL.of hD5) _ _ rfl rfl ?_);rw[pH];refine t0 _ rfl _ rfl (tP _ _ rfl rfl (tH 64 64 (sml (by omega)) hc1 (by decide)) ?_);refine tF _ rfl (tI mp rs (Lr.aE a W) rfl (MV3.same s5) (by omega) (λH6 pd6 s6 hd6 hn6=>?_));refine tY pd6 (Lr.c6 (Lr.aE a W)) (above*10^a.m+Lr.outW (Lr.aE a W)) (some (.int (0+(i:Int)))) (t8 (some (.ref mp)) ?_ ((s3.trans s5).trans s6) hd6 ((s3.trans s5).free hn6) (S.step hv hm4));rw[←e10,Int.natCast_add,tw,tw];rfl
  ·rintro σ H' ⟨pd,W,above,v8,v9,rfl,sm,hd,hn0,S⟩;have e:=S.eq 0;rw[Nat.mul_zero,Nat.pow_zero,Nat.mul_one,Lr.qI,Nat.add_zero,Nat.add_zero]at e;have en:((n:Nat):Int).toNat=n:=by omega
   rw[en]at e ⊢;refine t0 _ rfl _ rfl (tP above (10^(a.m*n)) rfl (Nat.pow_pos (by decide)) ?_ (λq hq=>?_))
   ·have p1:=pow12 hm4 hn;have h64:(10^(a.m*n))<2^64:=by omega
    unfold Sml;rw[Int.natAbs_natCast];exact rh h64 (sZ (by decide) (by decide))
   ·rw[e];exact k _ q (sm.trans (ay hq)) ac
end
section
variable {P:Program} {w:World} {K:fG} {mg:Str→Option Value} {base:Heap} {CM CR:Addr} {tabs:List (Addr×Str)}
theorem scSoon:ap ["self","count"] ["self","count"] (ag (mth 12)):=⟨rfl,rfl,rfl,by decide +kernel,rfl,by decide +kernel,by decide +kernel⟩
theorem ok_soon{f:Addr}{fd:FuncData}(F:Fun K "soon" "MachineLine.soon" (mth 12) f fd)(T:be K mg CM)(X:dF K mg)(D:jn K mg)(DS:aN K mg "pieces_soon" sPS ["chances","holds","filling","count"]):aZ P w K mg base CX0 6 f fd ["self","count"] (spC P w CM CR tabs (ge .soon)):=by
 refine F.ok scSoon (λvs H Q E h=>?_) (λcdv A outer s H vs Q E hr h=>?_)
 ·obtain⟨p,x,a,n,rest,c,rfl,⟨i,rfl,_⟩,_⟩:=h;rfl
 ·obtain⟨p,x,a,n,rest,c,rfl,⟨i,rfl,rfl,_⟩,L,hn,tk,G,k⟩:=h;refine tF _ (ad (bh (aP k5 (pv 1) (a8 (v:=.int 3) rfl X.N3.h ⟨_,rfl⟩) (aO _)) (ah (aj (aG (aa (a8 (v:=.int (-22)) rfl X.R22.h ⟨_,rfl⟩) ae)))) aI)
   (ah (aj (aT cA (aG (aa al ae)) (aJ (ok_ps DS.F D) hr rfl DS.mgf DS.F.kp DS.b .nil az (aa (ax (pv 0) rfl) (aa (ax (pv 0) rfl) (aa (ax (pv 0) rfl) (aa (pv 1) ae))))))))) ?_
  have ed:Su111.does a (.soon i)=if 3<i then (a,Su111.no (-22)) else (a,Su111.num 0 (Su111.two (Su111.low (Su111.nat (a.pieces i a.now)) (10^(a.m*i))))):=rfl
  obtain⟨dx,hp⟩:=L.ins;refine tF _ rfl (ug _ _ rfl rfl _ rfl ?_);by_cases h1:3<i
  ·rw[ed,if_pos h1]at k;refine bT (decide_eq_true (by omega)) ?_;exact⟨(by show 1≤sizeLine;decide),λq hq=>k _ x q (bw L tk hq rfl)⟩
  ·rw[ed,if_neg h1]at k;refine bF (decide_eq_false (by omega)) ?_;refine⟨(by show 1≤sizeLine;decide),λq0 hq0=>?_⟩;have s0:=ay (o:=.lst [V.int 0]) hq0;have z0:(upd H q0 (.lst [V.int 0])) q0=some (.lst [V.int 0]):=ac;generalize upd H q0 (.lst [V.int 0])=H0 at s0 z0;have L0:=L.same s0;have hp0:=s0 _ _ hp;refine tV _ rfl p CM dx _ (tJ _ rfl hp0 T.cl T.n1 (d3 x) (tV _ rfl p CM dx _ (tJ _ rfl hp0 T.cl T.n2 (eK x) (tV _ rfl p CM dx _ (tJ _ rfl hp0 T.cl T.n3 (lk_f x) (tR _ rfl x.c x.h x.f (tM a a.now i rfl (.inl (SqL.of L0.c)) (tN (.inl (SqL.of L0.h)) L0.f G.v G.m G.fits.len (by omega) (λH1 q1 s1 hq1=>?_)))))))));refine tY q0 q1 _ _ (um rfl rfl (s1 _ _ z0) hq1 (by show 1+2≤sizeLine;decide) (λq hq=>?_));have sm:=s0.trans s1;refine k _ x q (dR L tk (sm.trans (ay hq)) ?_ (sm.free hq));rw[ac];rfl
end
def br:Su111.Call→Str
 |.begin_ _=>"begin"
 |.machine _ _=>"machine"
 |.drop=>"drop"
 |.chance _ _=>"chance"
 |.room _ _=>"room"
 |.hour _=>"hour"
 |.empty=>"empty"
 |.out=>"out"
 |.rate _=>"rate"
 |.starved _=>"starved"
 |.blocked _=>"blocked"
 |.mean _=>"mean"
 |.full _=>"full"
 |.long _=>"long"
 |.turn=>"turn"
 |.turned=>"turned"
 |.better _=>"better"
 |.more _=>"more"
 |.soon _=>"soon"
 |.now=>"now"
 |.state=>"state"
def bD:Su111.Call→List Nat
 |.begin_ p=>[p]
 |.machine r p=>[r,p]
 |.chance i p=>[i,p]
 |.room i r=>[i,r]
 |.hour l=>l
 |.long l=>l
 |.rate i=>[i]
 |.starved i=>[i]
 |.blocked i=>[i]
 |.mean i=>[i]
 |.full i=>[i]
 |.better i=>[i]
 |.more i=>[i]
 |.soon i=>[i]
 |_=>[]
def grB:Su111.Call→Bool
 |.machine _ _=>true
 |.drop=>true
 |.chance _ _=>true
 |.room _ _=>true
 |.turn=>true
 |.state=>true
 |_=>false
def grH:Su111.Call→Bool
 |.hour _=>true
 |.empty=>true
 |.now=>true
 |.soon _=>true
 |_=>false
def grL:Su111.Call→Bool
 |.out=>true
 |.rate _=>true
 |.starved _=>true
 |.blocked _=>true
 |.mean _=>true
 |.full _=>true
 |.long _=>true
 |_=>false
def grC:Su111.Call→Bool
 |.turned=>true
 |.better _=>true
 |.more _=>true
 |_=>false
structure AllM(K:fG)(mg:Str→Option Value)(tabs:List (Addr×Str))(CM:Addr) where
 T:be K mg CM
 X:dF K mg
 RN:cH K mg tabs CM
 D:jn K mg
 DS:aN K mg "pieces_soon" sPS ["chances","holds","filling","count"]
 init:aY K CM "__init__" "MachineLine.__init__" (mth 0) ["self"]
 made:Mk K CM init.f
 begun:aY K CM "is_begun" "MachineLine.is_begun" (mth 1) ["self"]
 begin_:aY K CM "begin" "MachineLine.begin" (mth 2) ["self","chance"]
 machine:aY K CM "machine" "MachineLine.machine" (mth 3) ["self","hold","chance"]
 drop:aY K CM "drop" "MachineLine.drop" (mth 4) ["self"]
 chance:aY K CM "chance" "MachineLine.chance" (mth 5) ["self","machine","chance"]
 room:aY K CM "room" "MachineLine.room" (mth 6) ["self","room","hold"]
 turn:aY K CM "turn" "MachineLine.turn" (mth 7) ["self"]
 state:aY K CM "state" "MachineLine.state" (mth 8) ["self"]
 hour:aY K CM "hour" "MachineLine.hour" (mth 9) ["self","ups"]
 empty:aY K CM "empty" "MachineLine.empty" (mth 10) ["self"]
 now:aY K CM "now" "MachineLine.now" (mth 11) ["self"]
 soon:aY K CM "soon" "MachineLine.soon" (mth 12) ["self","count"]
 out:aY K CM "out" "MachineLine.out" (mth 15) ["self"]
 rate:aY K CM "rate" "MachineLine.rate" (mth 16) ["self","machine"]
 starved:aY K CM "starved" "MachineLine.starved" (mth 17) ["self","machine"]
 blocked:aY K CM "blocked" "MachineLine.blocked" (mth 18) ["self","machine"]
 mean:aY K CM "mean" "MachineLine.mean" (mth 19) ["self","room"]
 full:aY K CM "full" "MachineLine.full" (mth 20) ["self","room"]
 long:aY K CM "long" "MachineLine.long" (mth 21) ["self","wanted"]
 both:aY K CM "both_outs" "MachineLine.both_outs" (mth 22) ["self","chances","holds"]
 turned:aY K CM "turned" "MachineLine.turned" (mth 23) ["self"]
 better:aY K CM "better" "MachineLine.better" (mth 24) ["self","machine"]
 more:aY K CM "more" "MachineLine.more" (mth 25) ["self","room"]
 kRate:dy K tabs rate.fd qRate
 kStarved:dy K tabs starved.fd fb
 kBlocked:dy K tabs blocked.fd fe
 kMean:dy K tabs mean.fd qMean
 kFull:dy K tabs full.fd mz
 kLong:dy K tabs long.fd qLong
def spD(P:Program)(w:World)(CM CR:Addr)(tabs:List (Addr×Str))(grp:Su111.Call→Bool):Sp:=λvs H Q _=>∃(p pu:Addr) (x:Adr) (a:Su111.Abs) (n:Nat) (c:Su111.Call),vs=[.ref p,.str (br c),.ref pu]∧grp c=true∧H pu=some (.lst (nV (bD c)))∧pu∉own x p∧(∀m∈bD c,m<2^32)∧(bD c).length≤6 ∧
 ba P w CM CR H p x a n∧n≤90000∧aQ tabs H∧dv a∧∀(H':Hp) (x':Adr) (q:Addr),Out P w CM CR tabs H H' p x x' (Su111.does a c).1 (n+2) q (e9 (Su111.does a c).2)→Q (.ref q) H'
abbrev psD:List Str:=["machines","name","numbers"]
section
variable {P:Program} {w:World} {K:fG} {mg:Str→Option Value} {base:Heap} {CM:Addr} {tabs:List (Addr×Str)}
theorem scAB:ap psD psD (ag (top 48)):=⟨rfl,rfl,rfl,by decide +kernel,rfl,by decide +kernel,by decide +kernel⟩
theorem scAH:ap psD psD (ag (top 49)):=⟨rfl,rfl,rfl,by decide +kernel,rfl,by decide +kernel,by decide +kernel⟩
theorem scAL:ap psD psD (ag (top 50)):=⟨rfl,rfl,rfl,by decide +kernel,rfl,by decide +kernel,by decide +kernel⟩
theorem scAC:ap psD psD (ag (top 51)):=⟨rfl,rfl,rfl,by decide +kernel,rfl,by decide +kernel,by decide +kernel⟩
theorem bz{x:Adr}{m:Str}(h1:m≠"chances")(h2:m≠"holds")(h3:m≠"filling")(h4:m≠"known_runs"):(bv x).lookup m=none:=by
 unfold bv;simp[h1,h2,h3,h4]
theorem ok_ab{f:Addr}{fd:FuncData}(F:Fun K "answer_of_building" "answer_of_building" (top 48) f fd)(M:AllM K mg tabs CM):aZ P w K mg base CX0 4 f fd psD (spD P w CM M.RN.R.C tabs grB):=by
 refine F.ok scAB (λvs H Q E h=>?_) (λcdv A outer s H vs Q E hr h=>?_)
 ·obtain⟨p,pu,x,a,n,c,rfl,_⟩:=h;rfl
 ·obtain⟨p,pu,x,a,n,c,rfl,hg,hpu,hown,hsm,hlen,L,hn,tk,G,k⟩:=h;refine tF _ (ad (bh (aP bH (pv 1) cF (aO _)) (ah (aj (bM (pv 0) M.T.cl M.machine.M (ok_mach (CR:=M.RN.R.C) (tabs:=tabs) M.machine.F M.T M.X) (hr.mono (by decide)) M.machine.b .nil az (aa (aU aA (pv 2) al (λ_ _=>rfl)) (aa (aU aA (pv 2) al (λ_ _=>rfl)) ae))))) aI)
   (ad (bh (aP bH (pv 1) cF (aO _)) (ah (aj (bn (pv 0) M.T.cl M.drop.M (ok_drop (CR:=M.RN.R.C) (tabs:=tabs) M.drop.F M.T M.X) (hr.mono (by decide)) M.drop.b .nil az))) aI)
   (ad (bh (aP bH (pv 1) cF (aO _)) (ah (aj (bM (pv 0) M.T.cl M.chance.M (ok_chance (CR:=M.RN.R.C) (tabs:=tabs) M.chance.F M.T M.X) (hr.mono (by decide)) M.chance.b .nil az (aa (aU aA (pv 2) al (λ_ _=>rfl)) (aa (aU aA (pv 2) al (λ_ _=>rfl)) ae))))) aI)
   (ad (bh (aP bH (pv 1) cF (aO _)) (ah (aj (bM (pv 0) M.T.cl M.room.M (ok_room (CR:=M.RN.R.C) (tabs:=tabs) M.room.F M.T M.X M.empty) (hr.mono (by decide)) M.room.b .nil az (aa (aU aA (pv 2) al (λ_ _=>rfl)) (aa (aU aA (pv 2) al (λ_ _=>rfl)) ae))))) aI)
   (ad (bh (aP bH (pv 1) cF (aO _)) (ah (aj (bn (pv 0) M.T.cl M.turn.M (ok_turn (CR:=M.RN.R.C) (tabs:=tabs) M.turn.F M.T M.X M.empty) (hr.mono (by decide)) M.turn.b .nil az))) aI)
   (ah (aj (bn (pv 0) M.T.cl M.state.M (ok_state (CR:=M.RN.R.C) (tabs:=tabs) M.state.F M.T M.X) (hr.mono (by decide)) M.state.b .nil az)))))))) ?_
  obtain⟨dx,hp⟩:=L.ins;cases c with
  |machine i j =>
   refine tL _ rfl rfl _ rfl (bT rfl ?_);refine tF _ rfl (tI p dx _ rfl hp (bz (by decide) (by decide) (by decide) (by decide)) ?_);refine tQ _ rfl pu _ (tH _ _ rfl rfl (t9 (SqL.of hpu) rfl _ rfl pu _ (tG _ _ rfl rfl (SqL.of hpu) rfl ?_)));exact tZ p x a n _ _ (tN rfl (tH i j rfl rfl (hsm i (by simp[bD]))) L hn tk G k)
  |drop =>
   refine tL _ rfl rfl _ rfl (bF rfl ?_);refine tL _ rfl rfl _ rfl (bT rfl ?_);refine tF _ rfl (tI p dx _ rfl hp (bz (by decide) (by decide) (by decide) (by decide)) ?_);exact tZ p x a n _ _ (tN rfl ⟨rfl,rfl⟩ L hn tk G k)
  |chance i j =>
   refine tL _ rfl rfl _ rfl (bF rfl ?_);refine tL _ rfl rfl _ rfl (bF rfl ?_);refine tL _ rfl rfl _ rfl (bT rfl ?_);refine tF _ rfl (tI p dx _ rfl hp (bz (by decide) (by decide) (by decide) (by decide)) ?_);refine tQ _ rfl pu _ (tH _ _ rfl rfl (t9 (SqL.of hpu) rfl _ rfl pu _ (tG _ _ rfl rfl (SqL.of hpu) rfl ?_)));exact tZ p x a n _ _ (tN rfl (tP i j rfl rfl (hsm i (by simp[bD])) (hsm j (by simp[bD]))) L hn tk G k)
  |room i j =>
   refine tL _ rfl rfl _ rfl (bF rfl ?_);refine tL _ rfl rfl _ rfl (bF rfl ?_);refine tL _ rfl rfl _ rfl (bF rfl ?_);refine tL _ rfl rfl _ rfl (bT rfl ?_);refine tF _ rfl (tI p dx _ rfl hp (bz (by decide) (by decide) (by decide) (by decide)) ?_);refine tQ _ rfl pu _ (tH _ _ rfl rfl (t9 (SqL.of hpu) rfl _ rfl pu _ (tG _ _ rfl rfl (SqL.of hpu) rfl ?_)));exact tZ p x a n _ _ (tN rfl (tP i j rfl rfl (hsm i (by simp[bD])) (hsm j (by simp[bD]))) L hn tk G k)
  |turn =>
   refine tL _ rfl rfl _ rfl (bF rfl ?_);refine tL _ rfl rfl _ rfl (bF rfl ?_);refine tL _ rfl rfl _ rfl (bF rfl ?_);refine tL _ rfl rfl _ rfl (bF rfl ?_);refine tL _ rfl rfl _ rfl (bT rfl ?_);refine tF _ rfl (tI p dx _ rfl hp (bz (by decide) (by decide) (by decide) (by decide)) ?_);exact tZ p x a n _ _ (tN rfl ⟨rfl,rfl⟩ L hn tk G k)
  |state =>
   refine tL _ rfl rfl _ rfl (bF rfl ?_);refine tL _ rfl rfl _ rfl (bF rfl ?_);refine tL _ rfl rfl _ rfl (bF rfl ?_);refine tL _ rfl rfl _ rfl (bF rfl ?_);refine tL _ rfl rfl _ rfl (bF rfl ?_);refine tF _ rfl (tI p dx _ rfl hp (bz (by decide) (by decide) (by decide) (by decide)) ?_);exact tZ p x a n _ _ (tN rfl ⟨rfl,rfl⟩ L hn tk G k)
  |_=>cases hg
theorem ok_ah{f:Addr}{fd:FuncData}(F:Fun K "answer_of_hours" "answer_of_hours" (top 49) f fd)(M:AllM K mg tabs CM):aZ P w K mg base CX0 7 f fd psD (spD P w CM M.RN.R.C tabs grH):=by
 refine F.ok scAH (λvs H Q E h=>?_) (λcdv A outer s H vs Q E hr h=>?_)
 ·obtain⟨p,pu,x,a,n,c,rfl,_⟩:=h;rfl
 ·obtain⟨p,pu,x,a,n,c,rfl,hg,hpu,hown,hsm,hlen,L,hn,tk,G,k⟩:=h;refine tF _ (ad (bh (aP bH (pv 1) cF (aO _)) (ah (aj (bM (pv 0) M.T.cl M.hour.M (ok_hour (CR:=M.RN.R.C) (tabs:=tabs) M.hour.F M.T M.X) (hr.mono (by decide)) M.hour.b .nil az (aa (pv 2) ae)))) aI)
   (ad (bh (aP bH (pv 1) cF (aO _)) (ah (aj (bn (pv 0) M.T.cl M.empty.M (k6 (CR:=M.RN.R.C) (tabs:=tabs) M.empty.F M.T M.X) (hr.mono (by decide)) M.empty.b .nil az))) aI)
   (ad (bh (aP bH (pv 1) cF (aO _)) (ah (aj (bn (pv 0) M.T.cl M.now.M (ok_now (CR:=M.RN.R.C) (tabs:=tabs) M.now.F M.T M.X) (hr.mono (by decide)) M.now.b .nil az))) aI)
   (ah (aj (bM (pv 0) M.T.cl M.soon.M (ok_soon (CR:=M.RN.R.C) (tabs:=tabs) M.soon.F M.T M.X M.D M.DS) (hr.mono (by decide)) M.soon.b .nil az (aa (aU aA (pv 2) al (λ_ _=>rfl)) ae))))))) ?_
  obtain⟨dx,hp⟩:=L.ins;cases c with
  |hour l =>
   refine tL _ rfl rfl _ rfl (bT rfl ?_);refine tF _ rfl (tI p dx _ rfl hp (bz (by decide) (by decide) (by decide) (by decide)) ?_);refine tF _ rfl ?_;exact tZ p x a n _ _ (tN rfl (tG pu l rfl hpu hown hlen rfl) L hn tk G k)
  |empty =>
   refine tL _ rfl rfl _ rfl (bF rfl ?_);refine tL _ rfl rfl _ rfl (bT rfl ?_);refine tF _ rfl (tI p dx _ rfl hp (bz (by decide) (by decide) (by decide) (by decide)) ?_);exact empty_spC (E:=E0) (tZ p x a n _ _ (tN rfl ⟨rfl,rfl⟩ L hn tk G k))
  |now =>
   refine tL _ rfl rfl _ rfl (bF rfl ?_);refine tL _ rfl rfl _ rfl (bF rfl ?_);refine tL _ rfl rfl _ rfl (bT rfl ?_);refine tF _ rfl (tI p dx _ rfl hp (bz (by decide) (by decide) (by decide) (by decide)) ?_);exact tZ p x a n _ _ (tN rfl ⟨rfl,rfl⟩ L hn tk G k)
  |soon i =>
   refine tL _ rfl rfl _ rfl (bF rfl ?_);refine tL _ rfl rfl _ rfl (bF rfl ?_);refine tL _ rfl rfl _ rfl (bF rfl ?_);refine tF _ rfl (tI p dx _ rfl hp (bz (by decide) (by decide) (by decide) (by decide)) ?_);refine tQ _ rfl pu _ (tG _ _ rfl rfl (SqL.of hpu) rfl ?_);exact tZ p x a n _ _ (tN rfl (tK i rfl rfl (hsm i (by simp[bD]))) L hn tk G k)
  |_=>cases hg
theorem ok_al{f:Addr}{fd:FuncData}(F:Fun K "answer_of_long_run" "answer_of_long_run" (top 50) f fd)(M:AllM K mg tabs CM)(hB:BAt mg base):aZ P w K mg base CX0 10 f fd psD (spD P w CM M.RN.R.C tabs grL):=by
 refine F.ok scAL (λvs H Q E h=>?_) (λcdv A outer s H vs Q E hr h=>?_)
 ·obtain⟨p,pu,x,a,n,c,rfl,_⟩:=h;rfl
 ·obtain⟨p,pu,x,a,n,c,rfl,hg,hpu,hown,hsm,hlen,L,hn,tk,G,k⟩:=h;refine tF _ (ad (bh (aP bH (pv 1) cF (aO _)) (ah (aj (bn (pv 0) M.T.cl M.out.M (ok_out M.out.F M.T M.X M.RN hB) (hr.mono (by decide)) M.out.b .nil az))) aI)
   (ad (bh (aP bH (pv 1) cF (aO _)) (ah (aj (bM (pv 0) M.T.cl M.rate.M (ok_rate M.rate.F M.T M.X M.RN M.kRate hB) (hr.mono (by decide)) M.rate.b .nil az (aa (aU aA (pv 2) al (λ_ _=>rfl)) ae)))) aI)
   (ad (bh (aP bH (pv 1) cF (aO _)) (ah (aj (bM (pv 0) M.T.cl M.starved.M (qK M.starved.F M.T M.X M.RN M.kStarved hB) (hr.mono (by decide)) M.starved.b .nil az (aa (aU aA (pv 2) al (λ_ _=>rfl)) ae)))) aI)
   (ad (bh (aP bH (pv 1) cF (aO _)) (ah (aj (bM (pv 0) M.T.cl M.blocked.M (qN M.blocked.F M.T M.X M.RN M.kBlocked hB) (hr.mono (by decide)) M.blocked.b .nil az (aa (aU aA (pv 2) al (λ_ _=>rfl)) ae)))) aI)
   (ad (bh (aP bH (pv 1) cF (aO _)) (ah (aj (bM (pv 0) M.T.cl M.mean.M (ok_mean M.mean.F M.T M.X M.RN M.kMean hB) (hr.mono (by decide)) M.mean.b .nil az (aa (aU aA (pv 2) al (λ_ _=>rfl)) ae)))) aI)
   (ad (bh (aP bH (pv 1) cF (aO _)) (ah (aj (bM (pv 0) M.T.cl M.full.M (ok_full M.full.F M.T M.X M.RN M.kFull hB) (hr.mono (by decide)) M.full.b .nil az (aa (aU aA (pv 2) al (λ_ _=>rfl)) ae)))) aI)
   (ah (aj (bM (pv 0) M.T.cl M.long.M (ok_long M.long.F M.T M.X M.RN M.kLong hB) (hr.mono (by decide)) M.long.b .nil az (aa (pv 2) ae)))))))))) ?_
  obtain⟨dx,hp⟩:=L.ins;cases c with
  |out =>
   refine tL _ rfl rfl _ rfl (bT rfl ?_);refine tF _ rfl (tI p dx _ rfl hp (bz (by decide) (by decide) (by decide) (by decide)) ?_);exact tZ p x a n _ _ (tN rfl ⟨rfl,rfl⟩ L hn tk G k)
  |rate i =>
   refine tL _ rfl rfl _ rfl (bF rfl ?_);refine tL _ rfl rfl _ rfl (bT rfl ?_);refine tF _ rfl (tI p dx _ rfl hp (bz (by decide) (by decide) (by decide) (by decide)) ?_);refine tQ _ rfl pu _ (tG _ _ rfl rfl (SqL.of hpu) rfl ?_);exact tZ p x a n _ _ (tN rfl (tK i rfl rfl (hsm i (by simp[bD]))) L hn tk G k)
  |starved i =>
   refine tL _ rfl rfl _ rfl (bF rfl ?_);refine tL _ rfl rfl _ rfl (bF rfl ?_);refine tL _ rfl rfl _ rfl (bT rfl ?_);refine tF _ rfl (tI p dx _ rfl hp (bz (by decide) (by decide) (by decide) (by decide)) ?_);refine tQ _ rfl pu _ (tG _ _ rfl rfl (SqL.of hpu) rfl ?_);exact tZ p x a n _ _ (tN rfl (tK i rfl rfl (hsm i (by simp[bD]))) L hn tk G k)
  |blocked i =>
   refine tL _ rfl rfl _ rfl (bF rfl ?_);refine tL _ rfl rfl _ rfl (bF rfl ?_);refine tL _ rfl rfl _ rfl (bF rfl ?_);refine tL _ rfl rfl _ rfl (bT rfl ?_);refine tF _ rfl (tI p dx _ rfl hp (bz (by decide) (by decide) (by decide) (by decide)) ?_);refine tQ _ rfl pu _ (tG _ _ rfl rfl (SqL.of hpu) rfl ?_);exact tZ p x a n _ _ (tN rfl (tK i rfl rfl (hsm i (by simp[bD]))) L hn tk G k)
  |mean i =>
   refine tL _ rfl rfl _ rfl (bF rfl ?_);refine tL _ rfl rfl _ rfl (bF rfl ?_);refine tL _ rfl rfl _ rfl (bF rfl ?_);refine tL _ rfl rfl _ rfl (bF rfl ?_);refine tL _ rfl rfl _ rfl (bT rfl ?_);refine tF _ rfl (tI p dx _ rfl hp (bz (by decide) (by decide) (by decide) (by decide)) ?_);refine tQ _ rfl pu _ (tG _ _ rfl rfl (SqL.of hpu) rfl ?_);exact tZ p x a n _ _ (tN rfl (tK i rfl rfl (hsm i (by simp[bD]))) L hn tk G k)
  |full i =>
   refine tL _ rfl rfl _ rfl (bF rfl ?_);refine tL _ rfl rfl _ rfl (bF rfl ?_);refine tL _ rfl rfl _ rfl (bF rfl ?_);refine tL _ rfl rfl _ rfl (bF rfl ?_);refine tL _ rfl rfl _ rfl (bF rfl ?_);refine tL _ rfl rfl _ rfl (bT rfl ?_);refine tF _ rfl (tI p dx _ rfl hp (bz (by decide) (by decide) (by decide) (by decide)) ?_);refine tQ _ rfl pu _ (tG _ _ rfl rfl (SqL.of hpu) rfl ?_);exact tZ p x a n _ _ (tN rfl (tK i rfl rfl (hsm i (by simp[bD]))) L hn tk G k)
  |long l =>
   refine tL _ rfl rfl _ rfl (bF rfl ?_);refine tL _ rfl rfl _ rfl (bF rfl ?_);refine tL _ rfl rfl _ rfl (bF rfl ?_);refine tL _ rfl rfl _ rfl (bF rfl ?_);refine tL _ rfl rfl _ rfl (bF rfl ?_);refine tL _ rfl rfl _ rfl (bF rfl ?_);refine tF _ rfl (tI p dx _ rfl hp (bz (by decide) (by decide) (by decide) (by decide)) ?_);refine tF _ rfl ?_;exact tZ p x a n _ _ (tN rfl (tG pu l rfl hpu hown hlen rfl) L hn tk G k)
  |_=>cases hg
theorem ok_ac{f:Addr}{fd:FuncData}(F:Fun K "answer_of_change" "answer_of_change" (top 51) f fd)(M:AllM K mg tabs CM)(hB:BAt mg base):aZ P w K mg base CX0 11 f fd psD (spD P w CM M.RN.R.C tabs grC):=by
 refine F.ok scAC (λvs H Q E h=>?_) (λcdv A outer s H vs Q E hr h=>?_)
 ·obtain⟨p,pu,x,a,n,c,rfl,_⟩:=h;rfl
 ·obtain⟨p,pu,x,a,n,c,rfl,hg,hpu,hown,hsm,hlen,L,hn,tk,G,k⟩:=h;refine tF _ (ad (bh (aP bH (pv 1) cF (aO _)) (ah (aj (bn (pv 0) M.T.cl M.turned.M (ok_turned M.turned.F M.T M.X M.RN M.both hB) (hr.mono (by decide)) M.turned.b .nil az))) aI)
   (ad (bh (aP bH (pv 1) cF (aO _)) (ah (aj (bM (pv 0) M.T.cl M.better.M (ok_better M.better.F M.T M.X M.RN M.both hB) (hr.mono (by decide)) M.better.b .nil az (aa (aU aA (pv 2) al (λ_ _=>rfl)) ae)))) aI)
   (ah (aj (bM (pv 0) M.T.cl M.more.M (ok_more M.more.F M.T M.X M.RN M.both hB) (hr.mono (by decide)) M.more.b .nil az (aa (aU aA (pv 2) al (λ_ _=>rfl)) ae)))))) ?_
  obtain⟨dx,hp⟩:=L.ins;cases c with
  |turned =>
   refine tL _ rfl rfl _ rfl (bT rfl ?_);refine tF _ rfl (tI p dx _ rfl hp (bz (by decide) (by decide) (by decide) (by decide)) ?_);exact tZ p x a n _ _ (tN rfl ⟨rfl,rfl⟩ L hn tk G k)
  |better i =>
   refine tL _ rfl rfl _ rfl (bF rfl ?_);refine tL _ rfl rfl _ rfl (bT rfl ?_);refine tF _ rfl (tI p dx _ rfl hp (bz (by decide) (by decide) (by decide) (by decide)) ?_);refine tQ _ rfl pu _ (tG _ _ rfl rfl (SqL.of hpu) rfl ?_);exact tZ p x a n _ _ (tN rfl (tK i rfl rfl (hsm i (by simp[bD]))) L hn tk G k)
  |more i =>
   refine tL _ rfl rfl _ rfl (bF rfl ?_);refine tL _ rfl rfl _ rfl (bF rfl ?_);refine tF _ rfl (tI p dx _ rfl hp (bz (by decide) (by decide) (by decide) (by decide)) ?_);refine tQ _ rfl pu _ (tG _ _ rfl rfl (SqL.of hpu) rfl ?_);exact tZ p x a n _ _ (tN rfl (tK i rfl rfl (hsm i (by simp[bD]))) L hn tk G k)
  |_=>cases hg
end
abbrev nmB:List Str:=["machine","drop","chance","room","turn","state"]
abbrev nmH:List Str:=["hour","empty","now","soon"]
abbrev nmL:List Str:=["out","rate","starved","blocked","mean","full","long"]
structure jo(K:fG)(mg:Str→Option Value)(x:Str)(l:List Str):Prop where
 ex:∃a:Addr,mg x=some (.ref a)∧∀H,SqT K H a (l.map V.str)
def gF:Option Su111.Abs→Su111.Abs
 |none=>⟨[],[],[]⟩
 |some a=>a
def GoodS(s:Option Su111.Abs):Prop:=∀a,s=some a→dv a
theorem qA(s:Option Su111.Abs)(c:Nat):Su111.does (gF s) (.begin_ c)=(gF (Su111.step s (.begin_ c)).1,(Su111.step s (.begin_ c)).2):=by
 cases s with
 |some a=>rfl
 |none =>
  show(if Su111.okP c=false then ((⟨[],[],[]⟩:Su111.Abs),Su111.no (-22)) else (Su111.new c,Su111.no 0))=_;by_cases h:Su111.okP c=false
  ·rw[if_pos h];unfold Su111.step Su111.does;simp only[h,if_true];rfl
  ·rw[if_neg h];unfold Su111.step Su111.does;simp only[h,if_false];rfl
structure qm(K:fG)(mg:Str→Option Value) where
 AB:aN K mg "answer_of_building" (top 48) psD
 AH:aN K mg "answer_of_hours" (top 49) psD
 AL:aN K mg "answer_of_long_run" (top 50) psD
 AC:aN K mg "answer_of_change" (top 51) psD
 NB:jo K mg "BUILDING_CALLS" nmB
 NH:jo K mg "HOUR_CALLS" nmH
 NL:jo K mg "LONG_RUN_CALLS" nmL
def spAns(P:Program)(w:World)(CM CR:Addr)(tabs:List (Addr×Str)):Sp:=λvs H Q _=>∃(p pu:Addr) (x:Adr) (s:Option Su111.Abs) (n:Nat) (c:Su111.Call),vs=[.ref p,.str (br c),.ref pu]∧H pu=some (.lst (nV (bD c)))∧pu∉own x p∧(∀m∈bD c,m<2^32)∧(bD c).length≤6 ∧
 ba P w CM CR H p x (gF s) n∧n≤90000∧aQ tabs H∧GoodS s∧∀(H':Hp) (x':Adr) (q:Addr),Out P w CM CR tabs H H' p x x' (gF (Su111.step s c).1) (n+2) q (e9 (Su111.step s c).2)→Q (.ref q) H'
section
variable {P:Program} {w:World} {K:fG} {mg:Str→Option Value} {base:Heap} {CM:Addr} {tabs:List (Addr×Str)}
theorem mh{c:Su111.Call}(h:br c≠"begin"):Su111.step none c=(none,Su111.no (-11)):=by
 cases c<;>first
  |exact absurd rfl h
  |rfl
theorem scAns:ap psD psD (ag (top 52)):=⟨rfl,rfl,rfl,by decide +kernel,rfl,by decide +kernel,by decide +kernel⟩
theorem group(c:Su111.Call):(∃i,c=.begin_ i)∨(grB c=true∧br c≠"begin"∧inV (.str (br c)) (nmB.map V.str)=true) ∨
  (grH c=true∧br c≠"begin"∧inV (.str (br c)) (nmB.map V.str)=false∧inV (.str (br c)) (nmH.map V.str)=true) ∨
  (grL c=true∧br c≠"begin"∧inV (.str (br c)) (nmB.map V.str)=false∧inV (.str (br c)) (nmH.map V.str)=false∧inV (.str (br c)) (nmL.map V.str)=true) ∨
  (grC c=true∧br c≠"begin"∧inV (.str (br c)) (nmB.map V.str)=false∧inV (.str (br c)) (nmH.map V.str)=false∧inV (.str (br c)) (nmL.map V.str)=false):=by
 cases c<;>first
  |exact .inl ⟨_,rfl⟩
  |exact .inr (.inl (tS rfl (by simp only[br];decide) rfl))
  |exact .inr (.inr (.inl (ud rfl (by simp only[br];decide) rfl rfl)))
  |exact .inr (.inr (.inr (.inl (uw rfl (by simp only[br];decide) rfl rfl rfl))))
  |exact .inr (.inr (.inr (.inr (uw rfl (by simp only[br];decide) rfl rfl rfl))))
theorem ok_ans{f:Addr}{fd:FuncData}(F:Fun K "answer" "answer" (top 52) f fd)(M:AllM K mg tabs CM)(LD:qm K mg)(hB:BAt mg base):aZ P w K mg base CX0 12 f fd psD (spAns P w CM M.RN.R.C tabs):=by
 obtain⟨aB,hmB,sB⟩:=LD.NB.ex;obtain⟨aH,hmH,sH⟩:=LD.NH.ex;obtain⟨aL,hmL,sL⟩:=LD.NL.ex;refine F.ok scAns (λvs H Q E h=>?_) (λcdv A outer s H vs Q E hr h=>?_)
 ·obtain⟨p,pu,x,s,n,c,rfl,_⟩:=h;rfl
 ·obtain⟨p,pu,x,s,n,c,rfl,hpu,hown,hsm,hlen,L,hn,tk,G,k⟩:=h;refine tF _ (ad (bh (aP bH (pv 1) cF (aO _)) (ah (aj (bM (pv 0) M.T.cl M.begin_.M (ok_begin (CR:=M.RN.R.C) (tabs:=tabs) M.begin_.F M.T M.X.DI M.X.N9 M.X.R22) (hr.mono (by decide)) M.begin_.b .nil az (aa (aU aA (pv 2) al (λ_ _=>rfl)) ae)))) aI)
   (ad (bh (jw (di (bn (pv 0) M.T.cl M.begun.M (ok_begun (CR:=M.RN.R.C) M.begun.F M.T M.X.T) (hr.mono (by decide)) M.begun.b .nil az))) (ah (aj (aG (aa (a8 (v:=.int (-11)) rfl M.X.R11.h ⟨_,rfl⟩) ae)))) aI)
   (ad (bh (aP jz (pv 1) (a8 (v:=.ref aB) rfl hmB rfl) (by with_unfolding_all rfl)) (ah (aj (aJ (ok_ab LD.AB.F M) (hr.mono (by decide)) rfl LD.AB.mgf LD.AB.F.kp LD.AB.b .nil az (aa (pv 0) (aa (pv 1) (aa (pv 2) ae)))))) aI)
   (ad (bh (aP jz (pv 1) (a8 (v:=.ref aH) rfl hmH rfl) (by with_unfolding_all rfl)) (ah (aj (aJ (ok_ah LD.AH.F M) (hr.mono (by decide)) rfl LD.AH.mgf LD.AH.F.kp LD.AH.b .nil az (aa (pv 0) (aa (pv 1) (aa (pv 2) ae)))))) aI)
   (ad (bh (aP jz (pv 1) (a8 (v:=.ref aL) rfl hmL rfl) (by with_unfolding_all rfl)) (ah (aj (aJ (ok_al LD.AL.F M hB) (hr.mono (by decide)) rfl LD.AL.mgf LD.AL.F.kp LD.AL.b .nil az (aa (pv 0) (aa (pv 1) (aa (pv 2) ae)))))) aI)
   (ah (aj (aJ (ok_ac LD.AC.F M hB) hr rfl LD.AC.mgf LD.AC.F.kp LD.AC.b .nil az (aa (pv 0) (aa (pv 1) (aa (pv 2) ae))))))))))) ?_
  obtain⟨dx,hp⟩:=L.ins;rcases group c with⟨i,rfl⟩|g
  ·refine tL _ rfl rfl _ rfl (bT rfl ?_);refine tF _ rfl (tI p dx _ rfl hp (bz (by decide) (by decide) (by decide) (by decide)) ?_);refine tQ _ rfl pu _ (tG _ _ rfl rfl (SqL.of hpu) rfl ?_);refine tU p x (tI (gF s) n i rfl L tk (λH' x' q O=>k H' x' q ?_));rw[qA]at O;exact O
  ·have hne:br c≠"begin":=by
    rcases g with g|g|g|g
    ·exact g.2.1
    ·exact g.2.1
    ·exact g.2.1
    ·exact g.2.1
   have hnb:decide (V.str (br c)=V.str "begin")=false:=decide_eq_false λz=>hne (by injection z);refine tL _ rfl rfl _ rfl (bF hnb ?_);refine tR _ rfl p dx _ (ub rfl hp (bz (by decide) (by decide) (by decide) (by decide)) p x (tH (gF s) n rfl L ?_));cases s with
   |none =>
    refine tF _ rfl (bT rfl ?_);rw[mh hne]at k;exact⟨(by show 1≤sizeLine;decide),λq hq=>k _ x q (bw L tk hq rfl)⟩
   |some a =>
    have ha:0<a.chances.length:=by
     have:=(G a rfl).v.len;have h:a.m=a.chances.length:=rfl;omega
    have GA:=G a rfl;have es:Su111.step (some a) c=(some (Su111.does a c).1,(Su111.does a c).2):=rfl;rw[es]at k;refine tF _ rfl (bF (by show(!decide (0<a.chances.length))=false;rw[decide_eq_true ha];rfl) ?_);refine uo _ rfl aB _ rfl (ui (.inr (sB _)) rfl rfl _ rfl ?_);rcases g with⟨g1,_,g2⟩|⟨g1,_,g2,g3⟩|⟨g1,_,g2,g3,g4⟩|⟨g1,_,g2,g3,g4⟩
    ·refine bT g2 ?_;exact t0 _ rfl _ rfl (tV _ rfl p pu x a (tG n c rfl g1 hpu hown (tN hsm hlen L hn tk GA k)))
    ·refine bF g2 (uo _ rfl aH _ rfl (ui (.inr (sH _)) rfl rfl _ rfl (bT g3 ?_)));exact t0 _ rfl _ rfl (tV _ rfl p pu x a (tG n c rfl g1 hpu hown (tN hsm hlen L hn tk GA k)))
    ·refine bF g2 (uo _ rfl aH _ rfl (ui (.inr (sH _)) rfl rfl _ rfl (bF g3 (uo _ rfl aL _ rfl (ui (.inr (sL _)) rfl rfl _ rfl (bT g4 ?_))))));exact t0 _ rfl _ rfl (tV _ rfl p pu x a (tG n c rfl g1 hpu hown (tN hsm hlen L hn tk GA k)))
    ·refine bF g2 (uo _ rfl aH _ rfl (ui (.inr (sH _)) rfl rfl _ rfl (bF g3 (uo _ rfl aL _ rfl (ui (.inr (sL _)) rfl rfl _ rfl (bF g4 ?_))))));exact t0 _ rfl _ rfl (tV _ rfl p pu x a (tG n c rfl g1 hpu hown (tN hsm hlen L hn tk GA k)))
end
theorem gZ:∀l:List Nat,Lr.cu l (l.map λ_=>0)
 |[]=>trivial
 |r::l=>⟨rO _,gZ l⟩
theorem mN{r:Nat}:∀{l s:List Nat},Lr.cu l s→Lr.cu (l++[r]) (s++[0])
 |[],[],_=>⟨rO _,trivial⟩
 |_::l,_::s,h=>⟨h.1,mN (l:=l) (s:=s) h.2⟩
 |[],_::_,h=>h.elim
 |_::_,[],h=>h.elim
theorem mO:∀{l s:List Nat},Lr.cu l s→Lr.cu l.dropLast s.dropLast
 |[],[],_=>trivial
 |[_],[_],_=>trivial
 |_::q::l,_::k::s,h=>⟨h.1,mO (l:=q::l) (s:=k::s) h.2⟩
 |[],_::_,h=>h.elim
 |_::_,[],h=>h.elim
 |[_],_::_::_,h=>h.2.elim
 |_::_::_,[_],h=>h.2.elim
theorem oO:∀l:List Nat,Lr.vol l.dropLast≤Lr.vol l
 |[]=>rL _
 |[r]=>by
  show 1≤(r+1)*1;omega
 |r::q::l=>by
  have:=oO (q::l);show(r+1)*Lr.vol (q::l).dropLast≤(r+1)*Lr.vol (q::l);exact Nat.mul_le_mul_left _ this
theorem nX{p:Nat}:Su111.okP p=false↔¬(1≤p∧p≤9):=by
 unfold Su111.okP;simp
theorem qe{p:Nat}(h:1≤p∧p≤9):dv (Su111.new p) :=
 ⟨⟨rfl,λq hq=>by
  have:q=p:=by simpa [Su111.new] using hq
  rw[this];exact h,λr hr=>by simp[Su111.new]at hr⟩,by show 1≤27;decide,by show 1≤4;decide,trivial⟩
theorem mR{a:Su111.Abs}(g:dv a)(c:Su111.Call):dv (Su111.does a c).1:=by
 have hl:=g.v.len;have hm:a.chances.length=a.m:=rfl;cases c with
 |begin_ p =>
  show dv (if Su111.okP p=false then (a,Su111.no (-22)) else (Su111.new p,Su111.no 0)).1;by_cases h:Su111.okP p=false
  ·rw[if_pos h];exact g
  ·rw[if_neg h];exact qe (Decidable.not_not.mp λz=>h (nX.mpr z))
 |machine r p =>
  have ed:Su111.does a (.machine r p)=if Su111.okP p=false∨r=0∨8<r then (a,Su111.no (-22)) else if Su111.MACHINES≤a.m∨Su111.STATES<a.size*(r+1) then (a,Su111.no (-28)) else (⟨a.chances++[p],a.rooms++[r],a.now++[0]⟩,Su111.num a.m []):=rfl
  rw[ed];by_cases h:Su111.okP p=false∨r=0∨8<r
  ·rw[if_pos h];exact g
  ·rw[if_neg h];by_cases h2:Su111.MACHINES≤a.m∨Su111.STATES<a.size*(r+1)
   ·rw[if_pos h2];exact g
   ·rw[if_neg h2];have h3:¬(27<a.size*(r+1)):=λz=>h2 (.inr z);have h4:¬(4≤a.m):=λz=>h2 (.inl z);rw[f7]at h3;have hp:1≤p∧p≤9:=Decidable.not_not.mp λz=>h (.inl (nX.mpr z));refine⟨⟨?_,λq hq=>?_,λq hq=>?_⟩,?_,?_,mN g.fits⟩
    ·show(a.chances++[p]).length=(a.rooms++[r]).length+1;simp[hl]
    ·rcases rD.mp hq with z|z
     ·exact g.v.chance q z
     ·simp at z;rw[z];exact hp
    ·rcases rD.mp hq with z|z
     ·exact g.v.room q z
     ·simp at z;rw[z];have:¬(r=0):=λy=>h (.inr (.inl y));omega
    ·show Lr.vol (a.rooms++[r])≤27;rw[iP];omega
    ·show(a.chances++[p]).length≤4;simp;omega
 |drop =>
  have ed:Su111.does a .drop=if a.m=1 then (a,Su111.no (-6)) else (⟨a.chances.dropLast,a.rooms.dropLast,a.now.dropLast⟩,Su111.num (a.m-1) []):=rfl
  rw[ed];by_cases h:a.m=1
  ·rw[if_pos h];exact g
  ·rw[if_neg h];have gm:=g.m;refine⟨⟨?_,λq hq=>g.v.chance q ((List.dropLast_sublist _).subset hq),λq hq=>g.v.room q ((List.dropLast_sublist _).subset hq)⟩,rq (oO _) g.vol,?_,mO g.fits⟩
   ·show a.chances.dropLast.length=a.rooms.dropLast.length+1;rw[List.length_dropLast,List.length_dropLast];omega
   ·show a.chances.dropLast.length≤4;rw[List.length_dropLast];omega
 |chance i p =>
  have ed:Su111.does a (.chance i p)=if a.isM i=false then (a,Su111.no (-2)) else if Su111.okP p=false then (a,Su111.no (-22)) else ({a with chances:=a.chances.set i p},Su111.num (a.p i) []):=rfl
  rw[ed];by_cases h:a.isM i=false
  ·rw[if_pos h];exact g
  ·rw[if_neg h];by_cases h2:Su111.okP p=false
   ·rw[if_pos h2];exact g
   ·rw[if_neg h2];have hp:1≤p∧p≤9:=Decidable.not_not.mp λz=>h2 (nX.mpr z);refine⟨⟨?_,λq hq=>?_,g.v.room⟩,g.vol,?_,g.fits⟩
    ·show(a.chances.set i p).length=a.rooms.length+1;rw[si];exact hl
    ·rcases tu hq with z|z
     ·exact g.v.chance q z
     ·rw[z];exact hp
    ·show(a.chances.set i p).length≤4;rw[si];exact g.m
 |room i r =>
  have ed:Su111.does a (.room i r)=if a.isR i=false then (a,Su111.no (-2)) else if r=0∨8<r then (a,Su111.no (-22)) else if Su111.STATES<({a with rooms:=a.rooms.set i r}:Su111.Abs).size then (a,Su111.no (-28)) else (⟨a.chances,a.rooms.set i r,a.rooms.map λ_=>0⟩,Su111.num (a.room i) []):=rfl
  rw[ed];by_cases h:a.isR i=false
  ·rw[if_pos h];exact g
  ·rw[if_neg h];by_cases h2:r=0∨8<r
   ·rw[if_pos h2];exact g
   ·rw[if_neg h2];by_cases h3:Su111.STATES<({a with rooms:=a.rooms.set i r}:Su111.Abs).size
    ·rw[if_pos h3];exact g
    ·rw[if_neg h3];rw[f7]at h3;have h3:¬(27<Lr.vol (a.rooms.set i r)):=h3;refine⟨⟨?_,g.v.chance,λq hq=>?_⟩,?_,g.m,?_⟩
     ·show a.chances.length=(a.rooms.set i r).length+1;rw[si];exact hl
     ·rcases tu hq with z|z
      ·exact g.v.room q z
      ·rw[z];omega
     ·show Lr.vol (a.rooms.set i r)≤27;omega
     ·show Lr.cu (a.rooms.set i r) (a.rooms.map λ_=>0);have e:(a.rooms.map λ_=>0)=((a.rooms.set i r).map λ_=>(0:Nat)):=by
       rw[List.map_const',List.map_const',si]
      rw[e];exact gZ _
 |hour l =>
  have ed:Su111.does a (.hour l)=if l.length≠a.m∨l.any (λx=>decide (1<x))=true then (a,Su111.no (-22)) else ({a with now:=a.next a.now l},Su111.num (if (a.works a.now l).getD (a.m-1) false then 1 else 0) ((a.works a.now l).map λb=>if b then 1 else 0)):=rfl
  rw[ed];by_cases h:l.length≠a.m∨l.any (λx=>decide (1<x))=true
  ·rw[if_pos h];exact g
  ·rw[if_neg h];exact⟨⟨g.v.len,g.v.chance,g.v.room⟩,g.vol,g.m,Lr.cx g.v g.fits l⟩
 |empty=>exact⟨⟨g.v.len,g.v.chance,g.v.room⟩,g.vol,g.m,gZ _⟩
 |turn =>
  have gl:=g.l.rev;refine⟨⟨gl.v.len,gl.v.chance,gl.v.room⟩,gl.vol,gl.m,?_⟩;show Lr.cu a.rooms.reverse (a.rooms.map λ_=>0);have e:(a.rooms.map λ_=>0)=(a.rooms.reverse.map λ_=>(0:Nat)):=by
   rw[List.map_const',List.map_const',tz]
  rw[e];exact gZ _
 |rate i=>show dv (if a.isM i=false then (a,Su111.no (-2)) else (a,Su111.num 0 (Su111.two (a.rate i)))).1;split<;>exact g
 |starved i=>show dv (if a.isM i=false then (a,Su111.no (-2)) else (a,Su111.num 0 (Su111.two (a.starved i)))).1;split<;>exact g
 |blocked i=>show dv (if a.isM i=false then (a,Su111.no (-2)) else (a,Su111.num 0 (Su111.two (a.blocked i)))).1;split<;>exact g
 |mean i=>show dv (if a.isR i=false then (a,Su111.no (-2)) else (a,_)).1;split<;>exact g
 |full i=>show dv (if a.isR i=false then (a,Su111.no (-2)) else (a,_)).1;split<;>exact g
 |long l=>show dv (if _ then (a,Su111.no (-22)) else (a,_)).1;split<;>exact g
 |better i=>show dv (if a.isM i=false then (a,Su111.no (-2)) else if a.p i=9 then (a,Su111.no (-17)) else (a,_)).1;repeat (first|exact g|split)
 |more i=>show dv (if a.isR i=false then (a,Su111.no (-2)) else if _ then (a,Su111.no (-28)) else (a,_)).1;repeat (first|exact g|split)
 |soon n=>show dv (if 3<n then (a,Su111.no (-22)) else (a,_)).1;split<;>exact g
 |out=>exact g
 |turned=>exact g
 |now=>exact g
 |state=>exact g
theorem step_good{s:Option Su111.Abs}(g:GoodS s)(c:Su111.Call):GoodS (Su111.step s c).1:=by
 intro a ha;cases s with
 |some b =>
  have e:(Su111.step (some b) c).1=some (Su111.does b c).1:=rfl;rw[e]at ha;injection ha with ha;rw[←ha];exact mR (g b rfl) c
 |none =>
  by_cases h:br c="begin"
  ·cases c<;>first
    |(simp only[br]at h;exact absurd h (by decide))
    |skip
   rename_i p;have e:(Su111.step none (.begin_ p)).1=if (Su111.does (Su111.new 1) (.begin_ p)).2.value<0 then none else some (Su111.does (Su111.new 1) (.begin_ p)).1:=rfl
   rw[e]at ha;by_cases hv:(Su111.does (Su111.new 1) (.begin_ p)).2.value<0
   ·rw[if_pos hv]at ha;cases ha
   ·rw[if_neg hv]at ha;injection ha with ha;rw[←ha];exact mR (qe (by decide)) _
  ·rw[mh h]at ha;cases ha
theorem call_form{l:List Int}{c:List (List Int)}{t:List Int}(h:PyFlat.call PySu111.shape l=some (c,t)):∃p n,(PySu111.shape p=some (n,0)∧∃xs:List Int,xs.length=n∧c=[p::xs]∧l.length=t.length+n+1)∨(PySu111.shape p=some (0,1)∧∃row:List Int,c=[[p],row]∧l.length=t.length+row.length+2):=by
 cases l with
 |nil=>simp only[PyFlat.call]at h;cases h
 |cons p r =>
  cases hs:PySu111.shape p with
  |none=>simp only[PyFlat.call,hs]at h;cases h
  |some nk =>
   obtain⟨n,k⟩:=nk;simp only[PyFlat.call,hs]at h;obtain⟨j,nm,hj,hjl,hf,hk⟩:=fB hs;by_cases hn:r.length<n
   ·rw[if_pos hn]at h;cases h
   ·rw[if_neg hn]at h;rcases hk with rfl|⟨rfl,rfl⟩
    ·have h:some ([p::r.take n],r.drop n)=some (c,t):=h;injection h with h;injection h with h1 h2;subst h1 h2;refine tU p n (.inl (uk hs (r.take n) (by rw[rX];omega) rfl ?_));rw[sg,rP];omega
    ·cases r with
     |nil =>
      simp only[PyFlat.rows,PyFlat.row,List.drop_zero]at h;cases h
     |cons m r' =>
      simp only[PyFlat.rows,PyFlat.row,List.drop_zero]at h;by_cases hm:0≤m∧m.toNat≤r'.length
      ·rw[if_pos hm]at h;have h:some ([[p],r'.take m.toNat],r'.drop m.toNat)=some (c,t):=h;injection h with h;injection h with h1 h2;subst h1 h2;refine tU p 0 (.inr (tX hs (r'.take m.toNat) rfl ?_));rw[sg,rX,rP,rP];omega
      ·rw[if_neg hm]at h;cases h
theorem om:∀{xs:List Int},xs.length=2→∃x y,xs=[x,y]
 |[x,y],_=>tU x y rfl
structure Asks(c:List (List Int))(x:Su111.Call):Prop where
 call:Su111Neutral.callOf ((PySu111.whole c).headD [])=some x
 name:∀(j:Nat) (nm:Str) (n:Nat) (b:Bool),jH c=(j:Int)→cr[j]?=some (nm,n,b)→nm=br x
 nums:iV (numsOf c)=nV (bD x)
 small:∀m∈bD x,m<2^32
 len:(bD x).length≤6
theorem bc{z:Int}(h:Su111Neutral.natural z 32=true):∃n:Nat,z=(n:Int)∧n<2^32:=by
 unfold Su111Neutral.natural at h;rw[sj,decide_eq_true_eq,decide_eq_true_eq]at h;exact tF z.toNat (by omega) (by omega)
theorem row_nat:∀{l:List Int},(l.all λz=>Su111Neutral.natural z 32)=true→iV l=nV (l.map Int.toNat)∧∀m∈l.map Int.toNat,m<2^32
 |[],_=>⟨rfl,λm h=>nomatch h⟩
 |z::l,h=>by
  rw[List.all_cons,sj]at h;obtain⟨n,rfl,hn⟩:=bc h.1;obtain⟨e,f⟩:=row_nat h.2;refine⟨?_,λm hm=>?_⟩
  ·unfold iV nV at e ⊢;rw[rQ,rQ,rQ,e];rfl
  ·rw[rQ]at hm;rcases rC.mp hm with z|z
   ·rw[z];show n<2^32;exact hn
   ·exact f m z
theorem km{c:List (List Int)}{k:Nat}{s:Str}(hc:jH c=((k:Nat):Int))(hk:∀nm n b,cr[k]?=some (nm,n,b)→nm=s):∀(j:Nat) (nm:Str) (n:Nat) (b:Bool),jH c=(j:Int)→cr[j]?=some (nm,n,b)→nm=s:=λj nm n b h1 h2=>by
 have e:j=k:=by
  rw[hc]at h1;omega
 subst e;exact hk nm n b h2
theorem lH{k:Nat}{x:Su111.Call}(hw:Su111Neutral.callOf ((PySu111.whole [[(k:Int)]]).headD [])=some x)(hn:∀nm n b,cr[k]?=some (nm,n,b)→nm=br x)(ha:bD x=[]):Asks [[(k:Int)]] x :=
 ⟨hw,km rfl hn,by rw[ha];rfl,λm hm=>by rw[ha]at hm;simp at hm,by rw[ha];decide⟩
theorem jl{k n:Nat}{x:Su111.Call}(hw:Su111Neutral.callOf ((PySu111.whole [[(k:Int),(n:Int)]]).headD [])=some x)(hn:∀nm n b,cr[k]?=some (nm,n,b)→nm=br x)(ha:bD x=[n])(hs:n<2^32):Asks [[(k:Int),(n:Int)]] x :=
 ⟨hw,km rfl hn,by rw[ha];rfl,λm hm=>by rw[ha]at hm;simp at hm;omega,by rw[ha];simp⟩
theorem asks2{k n m:Nat}{x:Su111.Call}(hw:Su111Neutral.callOf ((PySu111.whole [[(k:Int),(n:Int),(m:Int)]]).headD [])=some x)(hn:∀nm n b,cr[k]?=some (nm,n,b)→nm=br x)(ha:bD x=[n,m])(hs:n<2^32)(hs2:m<2^32):Asks [[(k:Int),(n:Int),(m:Int)]] x :=
 ⟨hw,km rfl hn,by rw[ha];rfl,λm hm=>by rw[ha]at hm;simp at hm;omega,by rw[ha];simp⟩
theorem asksR{k:Nat}{row:List Int}{x:Su111.Call}(hw:Su111Neutral.callOf ((PySu111.whole [[(k:Int)],row]).headD [])=some x)(hn:∀nm n b,cr[k]?=some (nm,n,b)→nm=br x)(ha:bD x=row.map Int.toNat)(hl:row.length≤6)(hr:(row.all λz=>Su111Neutral.natural z 32)=true):Asks [[(k:Int)],row] x:=by
 obtain⟨e,f⟩:=row_nat hr;refine⟨hw,km rfl hn,?_,λm hm=>f m (by rw[←ha];exact hm),by rw[ha,rR];exact hl⟩;rw[ha,←e];unfold numsOf;simp
theorem bC{k:Nat}{s:Str}{n0:Nat}{b0:Bool}(h:cr[k]?=some (s,n0,b0)):∀nm n b,cr[k]?=some (nm,n,b)→nm=s:=λnm n b e=>by
 rw[h]at e;injection e with e;injection e with e1 e2;exact e1.symm
theorem asks_of{l:List Int}{c:List (List Int)}{t:List Int}(h:PyFlat.call PySu111.shape l=some (c,t))(ha:Su111Neutral.asked1 ((PySu111.whole c).headD [])=true):(∃x,Asks c x)∧l.length≤t.length+8:=by
 obtain⟨p,n,⟨hs,xs,hxs,rfl,hlen⟩|⟨hs,row,rfl,hlen⟩⟩:=call_form h
 ·obtain⟨j,nm,rfl,hj,hf,_⟩:=fB hs;have hcase:=(by decide +kernel:∀j,j<21→j=0∨j=1∨j=2∨j=3∨j=4∨j=5∨j=6∨j=7∨j=8∨j=9∨j=10∨j=11∨j=12∨j=13∨j=14∨j=15∨j=16∨j=17∨j=18∨j=19∨j=20) j (by omega);rcases hcase with rfl|rfl|rfl|rfl|rfl|rfl|rfl|rfl|rfl|rfl|rfl|rfl|rfl|rfl|rfl|rfl|rfl|rfl|rfl|rfl|rfl
  ·have en:n=1:=by cases hf;rfl
   subst en;refine⟨?_,by omega⟩;obtain⟨x0,rfl⟩:=tD.mp hxs;have h0:Su111Neutral.natural x0 32=true:=ha;obtain⟨n0,rfl,g0⟩:=bc h0;exact⟨.begin_ n0,jl (k:=0) rfl (bC rfl) rfl g0⟩
  ·have en:n=2:=by cases hf;rfl
   subst en;refine⟨?_,by omega⟩;obtain⟨x0,x1,rfl⟩:=om hxs;have h01:(Su111Neutral.natural x0 32&&Su111Neutral.natural x1 32)=true:=ha;rw[sj]at h01;obtain⟨n0,rfl,g0⟩:=bc h01.1;obtain⟨n1,rfl,g1⟩:=bc h01.2;exact⟨.machine n0 n1,asks2 (k:=1) rfl (bC rfl) rfl g0 g1⟩
  ·have en:n=0:=by cases hf;rfl
   subst en;refine⟨?_,by omega⟩;obtain rfl:=tE.mp hxs;exact⟨.drop,lH (k:=2) rfl (bC rfl) rfl⟩
  ·have en:n=2:=by cases hf;rfl
   subst en;refine⟨?_,by omega⟩;obtain⟨x0,x1,rfl⟩:=om hxs;have h01:(Su111Neutral.natural x0 32&&Su111Neutral.natural x1 32)=true:=ha;rw[sj]at h01;obtain⟨n0,rfl,g0⟩:=bc h01.1;obtain⟨n1,rfl,g1⟩:=bc h01.2;exact⟨.chance n0 n1,asks2 (k:=3) rfl (bC rfl) rfl g0 g1⟩
  ·have en:n=2:=by cases hf;rfl
   subst en;refine⟨?_,by omega⟩;obtain⟨x0,x1,rfl⟩:=om hxs;have h01:(Su111Neutral.natural x0 32&&Su111Neutral.natural x1 32)=true:=ha;rw[sj]at h01;obtain⟨n0,rfl,g0⟩:=bc h01.1;obtain⟨n1,rfl,g1⟩:=bc h01.2;exact⟨.room n0 n1,asks2 (k:=4) rfl (bC rfl) rfl g0 g1⟩
  ·cases hf
  ·have en:n=0:=by cases hf;rfl
   subst en;refine⟨?_,by omega⟩;obtain rfl:=tE.mp hxs;exact⟨.empty,lH (k:=6) rfl (bC rfl) rfl⟩
  ·have en:n=0:=by cases hf;rfl
   subst en;refine⟨?_,by omega⟩;obtain rfl:=tE.mp hxs;exact⟨.out,lH (k:=7) rfl (bC rfl) rfl⟩
  ·have en:n=1:=by cases hf;rfl
   subst en;refine⟨?_,by omega⟩;obtain⟨x0,rfl⟩:=tD.mp hxs;have h0:Su111Neutral.natural x0 32=true:=ha;obtain⟨n0,rfl,g0⟩:=bc h0;exact⟨.rate n0,jl (k:=8) rfl (bC rfl) rfl g0⟩
  ·have en:n=1:=by cases hf;rfl
   subst en;refine⟨?_,by omega⟩;obtain⟨x0,rfl⟩:=tD.mp hxs;have h0:Su111Neutral.natural x0 32=true:=ha;obtain⟨n0,rfl,g0⟩:=bc h0;exact⟨.starved n0,jl (k:=9) rfl (bC rfl) rfl g0⟩
  ·have en:n=1:=by cases hf;rfl
   subst en;refine⟨?_,by omega⟩;obtain⟨x0,rfl⟩:=tD.mp hxs;have h0:Su111Neutral.natural x0 32=true:=ha;obtain⟨n0,rfl,g0⟩:=bc h0;exact⟨.blocked n0,jl (k:=10) rfl (bC rfl) rfl g0⟩
  ·have en:n=1:=by cases hf;rfl
   subst en;refine⟨?_,by omega⟩;obtain⟨x0,rfl⟩:=tD.mp hxs;have h0:Su111Neutral.natural x0 32=true:=ha;obtain⟨n0,rfl,g0⟩:=bc h0;exact⟨.mean n0,jl (k:=11) rfl (bC rfl) rfl g0⟩
  ·have en:n=1:=by cases hf;rfl
   subst en;refine⟨?_,by omega⟩;obtain⟨x0,rfl⟩:=tD.mp hxs;have h0:Su111Neutral.natural x0 32=true:=ha;obtain⟨n0,rfl,g0⟩:=bc h0;exact⟨.full n0,jl (k:=12) rfl (bC rfl) rfl g0⟩
  ·cases hf
  ·have en:n=0:=by cases hf;rfl
   subst en;refine⟨?_,by omega⟩;obtain rfl:=tE.mp hxs;exact⟨.turn,lH (k:=14) rfl (bC rfl) rfl⟩
  ·have en:n=0:=by cases hf;rfl
   subst en;refine⟨?_,by omega⟩;obtain rfl:=tE.mp hxs;exact⟨.turned,lH (k:=15) rfl (bC rfl) rfl⟩
  ·have en:n=1:=by cases hf;rfl
   subst en;refine⟨?_,by omega⟩;obtain⟨x0,rfl⟩:=tD.mp hxs;have h0:Su111Neutral.natural x0 32=true:=ha;obtain⟨n0,rfl,g0⟩:=bc h0;exact⟨.better n0,jl (k:=16) rfl (bC rfl) rfl g0⟩
  ·have en:n=1:=by cases hf;rfl
   subst en;refine⟨?_,by omega⟩;obtain⟨x0,rfl⟩:=tD.mp hxs;have h0:Su111Neutral.natural x0 32=true:=ha;obtain⟨n0,rfl,g0⟩:=bc h0;exact⟨.more n0,jl (k:=17) rfl (bC rfl) rfl g0⟩
  ·have en:n=1:=by cases hf;rfl
   subst en;refine⟨?_,by omega⟩;obtain⟨x0,rfl⟩:=tD.mp hxs;have h0:Su111Neutral.natural x0 32=true:=ha;obtain⟨n0,rfl,g0⟩:=bc h0;exact⟨.soon n0,jl (k:=18) rfl (bC rfl) rfl g0⟩
  ·have en:n=0:=by cases hf;rfl
   subst en;refine⟨?_,by omega⟩;obtain rfl:=tE.mp hxs;exact⟨.now,lH (k:=19) rfl (bC rfl) rfl⟩
  ·have en:n=0:=by cases hf;rfl
   subst en;refine⟨?_,by omega⟩;obtain rfl:=tE.mp hxs;exact⟨.state,lH (k:=20) rfl (bC rfl) rfl⟩
 ·obtain⟨j,nm,rfl,hj,hf,_⟩:=fB hs;have hcase:=(by decide +kernel:∀j,j<21→j=0∨j=1∨j=2∨j=3∨j=4∨j=5∨j=6∨j=7∨j=8∨j=9∨j=10∨j=11∨j=12∨j=13∨j=14∨j=15∨j=16∨j=17∨j=18∨j=19∨j=20) j (by omega);rcases hcase with rfl|rfl|rfl|rfl|rfl|rfl|rfl|rfl|rfl|rfl|rfl|rfl|rfl|rfl|rfl|rfl|rfl|rfl|rfl|rfl|rfl
  ·cases hf
  ·cases hf
  ·cases hf
  ·cases hf
  ·cases hf
  ·have h6:(decide (row.length≤6)&&row.all λz=>Su111Neutral.natural z 32)=true:=ha;rw[sj,decide_eq_true_eq]at h6;exact⟨⟨.hour (row.map Int.toNat),asksR (k:=5) rfl (bC rfl) rfl h6.1 h6.2⟩,by omega⟩
  ·cases hf
  ·cases hf
  ·cases hf
  ·cases hf
  ·cases hf
  ·cases hf
  ·cases hf
  ·have h6:(decide (row.length≤6)&&row.all λz=>Su111Neutral.natural z 32)=true:=ha;rw[sj,decide_eq_true_eq]at h6;exact⟨⟨.long (row.map Int.toNat),asksR (k:=13) rfl (bC rfl) rfl h6.1 h6.2⟩,by omega⟩
  ·cases hf
  ·cases hf
  ·cases hf
  ·cases hf
  ·cases hf
  ·cases hf
  ·cases hf
theorem all_asks:∀{f:Nat} {l:List Int} {raw:List (List (List Int))},PyFlat.calls PySu111.shape f l=some raw→(∀c∈raw,Su111Neutral.asked1 ((PySu111.whole c).headD [])=true)→(∀c∈raw,∃x,Asks c x)∧l.length≤8*raw.length:=by
 intro f l raw;induction raw generalizing f l with
 |nil =>
  intro h _;cases l with
  |nil=>exact⟨λc hc=>(by simp at hc),by simp⟩
  |cons p r =>
   obtain⟨f',c,t,cs',_,_,e⟩:=iK h;cases e
 |cons c cs ih =>
  intro h ha;cases l with
  |nil=>have:=mT h;cases this
  |cons p r =>
   obtain⟨f',c',t,cs',h1,h2,e⟩:=iK h;injection e with e1 e2;subst e1 e2;obtain⟨x,hl⟩:=asks_of h1 (ha c (by simp));obtain⟨i1,i2⟩:=ih h2 λd hd=>ha d (by simp[hd]);refine⟨λd hd=>?_,?_⟩
   ·rcases rC.mp hd with z|z
    ·rw[z];exact x
    ·exact i1 d z
   ·rw[rP (as:=cs)];omega
section
variable {P:Program} {w:World} {K:fG} {mg:Str→Option Value} {base:Heap} {CM CR:Addr} {tabs:List (Addr×Str)}
theorem ba.defd{H:Hp}{p:Addr}{x:Adr}{a:Su111.Abs}{n:Nat}(L:ba P w CM CR H p x a n):∀b∈own x p,∃o,H b=some o∧∀xs,o≠.tup xs:=by
 intro b hb;obtain⟨dx,hp⟩:=L.ins;obtain⟨xs,hd,_⟩:=L.kn;unfold own at hb;simp only[rC,List.not_mem_nil,or_false]at hb;rcases hb with rfl|rfl|rfl|rfl|rfl
 ·exact tF _ hp (λ_ z=>nomatch z)
 ·exact tF _ L.c (λ_ z=>nomatch z)
 ·exact tF _ L.h (λ_ z=>nomatch z)
 ·exact tF _ L.f (λ_ z=>nomatch z)
 ·exact tF _ hd (λ_ z=>nomatch z)
theorem ba.mask{H:Hp}{p q:Addr}{x:Adr}{a:Su111.Abs}{n:Nat}{od:Obj}{u:HO}(L:ba P w CM CR H p x a n)(hq:H q=some (.frz od u)):ba P w CM CR (hid H [q]) p x a n:=by
 have ne:∀{b:Addr} {o:HO},H b=some o→(∀d v,o≠.frz d v)→b∉[q]:=by
  intro b o h hn z;have z:b=q:=by simpa using z
  rw[z,hq]at h;exact hn _ _ (Option.some.inj h).symm
 obtain⟨dx,hp⟩:=L.ins;obtain⟨xs,hd,hl,hk⟩:=L.kn;refine⟨⟨dx,by rw[aV (ne hp λ_ _ z=>nomatch z)];exact hp⟩,by rw[aV (ne L.c λ_ _ z=>nomatch z)];exact L.c,by rw[aV (ne L.h λ_ _ z=>nomatch z)];exact L.h,by rw[aV (ne L.f λ_ _ z=>nomatch z)];exact L.f,
  (tK xs (by rw[aV (ne hd λ_ _ z=>nomatch z)];exact hd) hl (hk.keep λb o z ho=>?_)),L.n1,L.n2,L.n3⟩
 obtain⟨z1,z2⟩:=dl z;rw[aV z1,aV (ne z2 λd v e=>?_)]
 ·exact z2
 ·subst e;rcases ho with ho|⟨_,_,_,ho⟩
  ·cases ho
  ·cases ho
structure Loop(P:Program)(w:World)(CM CR:Addr)(tabs:List (Addr×Str))(H2:Hp)(x0:Adr)(p tq:Addr)(H':Hp)(x:Adr)(s:Option Su111.Abs)(n:Nat)(told:List Int):Prop where
 line:ba P w CM CR (hid H' [tq]) p x (gF s) n
 tabs:aQ tabs H'
 keep:∀b o,H2 b=some o→b∉own x0 p→b≠tq→fQ o=false→H' b=some o
 moved:∀b∈own x p,b∈own x0 p∨H2 b=none
 told:H' tq=some (.lst (iV told))
 back:iO H2 H'
 tqn:tq∉own x p
theorem aQ.lock{H:Hp}{q:Addr}{o o':HO}(t:aQ tabs H)(hq:H q=some o)(h1:fQ o=false)(h2:∀u,o≠cO u):aQ tabs (upd H q o'):=t.keep λb ob e ho=>by
 have:b≠q:=λz=>by
  rw[z,hq]at e;cases e;rcases ho with ho|⟨u,ho⟩
  ·rw[h1]at ho;cases ho
  ·exact h2 u ho
 rw[af this];exact e
theorem Loop.lockL{H2 H':Hp}{x0 x:Adr}{p tq:Addr}{s:Option Su111.Abs}{n:Nat}{told:List Int}(L:Loop P w CM CR tabs H2 x0 p tq H' x s n told)(od:Obj):ba P w CM CR (upd H' tq (.frz od (.lst (iV told)))) p x (gF s) n :=
 L.line.same λb o e=>by
  obtain⟨z1,z2⟩:=dl e;rw[af (λz=>z1 (by simp[z]))];exact z2
theorem Loop.step{H2 H' H3:Hp}{x0 x x':Adr}{p tq q:Addr}{s s':Option Su111.Abs}{n n':Nat}{told ans told':List Int}{od:Obj}(L:Loop P w CM CR tabs H2 x0 p tq H' x s n told)(O:Out P w CM CR tabs (upd H' tq (.frz od (.lst (iV told)))) H3 p x x' (gF s') n' q ans):Loop P w CM CR tabs H2 x0 p tq (upd H3 tq (.lst (iV told'))) x' s' n' told':=by
 have h3:H3 tq=some (.frz od (.lst (iV told))):=O.keep tq _ ac L.tqn rfl;have free:∀b,(upd H' tq (.frz od (.lst (iV told)))) b=none→H' b=none:=λb z=>by
  by_cases e:b=tq
  ·rw[e,ac]at z;cases z
  ·rw[af e]at z;exact z
 refine⟨?_,O.tabs.lock h3 rfl (λu z=>by injection z with _ z;cases z),λb o e h1 h2 h4=>?_,λb hb=>?_,ac,λb z=>?_,λz=>?_⟩
 ·have e:hid (upd H3 tq (.lst (iV told'))) [tq]=hid H3 [tq]:=by
   funext b;by_cases hb:b∈[tq]
   ·rw[fK hb,fK hb]
   ·rw[aV hb,aV hb,af (λz=>hb (by simp[z]))]
  rw[e];exact O.line.mask h3
 ·rw[af h2];refine O.keep b o ?_ ?_ h4
  ·rw[af h2];exact L.keep b o e h1 h2 h4
  ·intro z;rcases L.moved b z with y|y
   ·exact h1 y
   ·rw[y]at e;cases e
 ·rcases O.moved b hb with y|y
  ·exact L.moved b y
  ·exact .inr (L.back b (free b y))
 ·by_cases e:b=tq
  ·rw[e,ac]at z;cases z
  ·rw[af e]at z;exact L.back b (free b (O.back b z))
 ·rcases O.moved tq z with y|y
  ·exact L.tqn y
  ·rw[ac]at y;cases y
abbrev j5:Option Su111.Abs→List (List Int)→Option Su111.Abs×List Int:=λs c=>Su111Neutral.step s (c.headD [])
def spAll(K:fG)(tabs:List (Addr×Str)):Sp:=λvs H Q _=>∃(a:Addr) (l:List Int),vs=[.ref a]∧SqL K H a (iV l)∧PySu111.answers_asked l=true∧aQ tabs H ∧
 ∀(H':Hp) (q:Addr),de H H'→aQ tabs H'→H' q=some (.lst (iV (PySu111.answers l)))→Q (.ref q) H'
abbrev nAll:List Str:=["calls","machines","told","name","numbers","one"]
theorem mw:ap nAll ["calls"] (ag (top 53)):=⟨rfl,rfl,rfl,by decide +kernel,rfl,by decide +kernel,by decide +kernel⟩
theorem ok_all{f:Addr}{fd:FuncData}(F:Fun K "answers" "answers" (top 53) f fd)(M:AllM K mg tabs CM)(LD:qm K mg)(hB:BAt mg base)(DA:aN K mg "answer" (top 52) psD)(DSp:aN K mg "split_calls" nF ["calls"])(FT:kx K mg):aZ P w K mg base CX0 13 f fd ["calls"] (spAll K tabs):=by
 refine F.ok mw (λvs H Q E h=>?_) (λcdv A outer s H vs Q E hr h=>?_)
 ·obtain⟨a,l,rfl,_⟩:=h;rfl
 ·obtain⟨a,l,rfl,hS,hask,tk,k⟩:=h;refine tF _ (ad (aC (i:=1) mw.nd rfl (Or.inl rfl) (pe_make0 M.made (pN (CR:=M.RN.R.C) M.init.F M.T) (hr.mono (by decide)) rfl M.T.mgC M.init.b .nil az))
   (ad (aC (i:=2) mw.nd rfl (Or.inl rfl) (aG ae))
   (ad (cn PassesOwn.never rfl (bZ (aJ (ok_split DSp.F FT M.X.T.hlen) (hr.mono (by decide)) rfl DSp.mgf DSp.F.kp DSp.b .nil az (aa (pv 0) ae))) (dD rfl (aS (aw (i:=3) mw.nd rfl (Or.inl rfl)) (aS (aw (i:=4) mw.nd rfl (Or.inl rfl)) cM)))
    (ad (ps_lock (aC (i:=5) mw.nd rfl (Or.inl rfl) (aJ (ok_ans DA.F M LD hB) hr rfl DA.mgf DA.F.kp DA.b .nil az (aa (pv 1) (aa (pv 3) (aa (pv 4) ae))))))
    (ad (bU (fP PySem.F.plainAttrs_list PySem.F.slot_list_append PySem.F.type_list_append ci (pv 2) (aa (aM au (by rfl) M.X.T.hlen PySem.boot_len (aa (pv 5) ae)) ae)))
    (ah (bU (fP PySem.F.plainAttrs_list PySem.F.slot_list_extend PySem.F.type_list_extend mt_extend (pv 2) (aa (pv 5) ae)))))))
   (ah (aj (pv 2)))))) ?_
  unfold PySu111.answers_asked at hask;cases hraw:PyFlat.calls PySu111.shape l.length l with
  |none=>rw[hraw]at hask;cases hask
  |some raw =>
   rw[hraw]at hask;simp only[sj]at hask;obtain⟨⟨⟨⟨_,h400⟩,_⟩,hasked⟩,hshort⟩:=hask;have h400:raw.length≤400:=of_decide_eq_true h400;have hshort:(PySu111.answers l).length≤10000000:=of_decide_eq_true hshort;have hall:∀c∈raw,Su111Neutral.asked1 ((PySu111.whole c).headD [])=true:=by
    unfold Su111Neutral.asked at hasked;rw[sj,List.all_eq_true]at hasked;intro c hc;refine hasked.2 _ ?_;rw[sN];exact sv.mpr (tF c hc rfl)
   obtain⟨hasks,hl8⟩:=all_asks hraw hall;have eAns:PySu111.answers l=PyFlat.told (PyFlat.played j5 none (raw.map PySu111.whole)):=by
    unfold PySu111.answers PySu111.calls;rw[hraw];rfl
   refine λp dx hp hdx hne=>?_;refine tH p dx rfl ac (λH1 x0 L1 B1 own1=>⟨rfl,?_⟩);refine⟨rO _,λtq htq=>?_⟩;have sT:ao H1 (upd H1 tq (.lst [])):=ay htq;have hT:(upd H1 tq (.lst [])) tq=some (.lst []):=ac;have sH:∀b o,H b=some o→(upd (upd H dx (.own p)) p (.ins CM dx [])) b=some o∧b≠p:=λb o e=>by
    have h1:b≠p:=λz=>by rw[z,hp]at e;cases e
    have h2:b≠dx:=λz=>by rw[z,hdx]at e;cases e
    exact⟨by rw[af h1,af h2];exact e,h1⟩
   have sH1:ao H H1:=λb o e=>B1 b o (sH b o e).1 (sH b o e).2;have ownH:∀b o,H b=some o→b∉own x0 p:=λb o e z=>by
    rcases own1 b z with y|y
    ·exact(sH b o e).2 y
    ·rw[(sH b o e).1]at y;cases y
   generalize upd H1 tq (.lst [])=Ht at sT hT;have sHt:=sH1.trans sT;refine⟨_,rfl,a,l,raw,rfl,sHt.seq hS,by omega,hraw,λH2 fp rs s2 R hfp=>?_⟩;have s12:ao H1 H2:=sT.trans s2;have L2:ba P w CM M.RN.R.C H2 p x0 (gF none) 0:=L1.same s12;have ownT:∀b∈own x0 p,∃o,Ht b=some o:=λb hb=>let ⟨o,h,_⟩:=L1.defd b hb;⟨o,sT _ _ h⟩;have tqo:tq∉own x0 p:=λz=>by
    obtain⟨o,h,_⟩:=L1.defd tq z;rw[htq]at h;cases h
   have nfo:∀b,Ht b=none→b∉own x0 p∧b≠tq:=λb z=>⟨λy=>(by obtain⟨o,h⟩:=ownT b y;rw[z]at h;cases h),λy=>(by rw[y,hT]at z;cases z)⟩
   have Lo:Loop P w CM M.RN.R.C tabs H2 x0 p tq H2 x0 none (2*0) []:=by
    refine⟨?_,tk.same (sHt.trans s2),λb o e _ _ _=>e,λb hb=>.inl hb,s2 _ _ hT,λb z=>z,tqo⟩;refine L1.same λb o e=>?_;rw[aV (λz=>?_)]
    ·exact s12 _ _ e
    ·have z:b=tq:=by simpa using z
     rw[z,htq]at e;cases e
   refine tK fp rfl ⟨_,SqL.of R.lst⟩ (dS (K:=K) (a:=fp) (xs:=rs.map V.ref) (λi σ H'=>∃(x:Adr) (s:Option Su111.Abs) (told:List Int) (v3 v4 v5:Option V),σ=[some (.ref a),some (.ref p),some (.ref tq),v3,v4,v5]∧Loop P w CM M.RN.R.C tabs H2 x0 p tq H' x s (2*i) told∧GoodS s∧PySu111.answers l=told++PyFlat.told (PyFlat.played j5 s ((raw.drop i).map PySu111.whole)))
    (tY x0 none [] none (tP none none rfl Lo (λa z=>nomatch z) (by rw[List.drop_zero,eAns];rfl))) (λi σ H' _ ⟨_,_,_,_,_,_,_,L,_⟩=>SqL.of (L.keep _ _ R.lst (nfo fp hfp).1 (nfo fp hfp).2 rfl)) ?_ ?_)
   ·rintro i y σ H' hy ⟨x,s,told,v3,v4,v5,rfl,L,G,eq⟩;obtain⟨r,hr2,ey⟩:∃r,rs[i]?=some r∧y=V.ref r:=by
     rw[r6]at hy;cases e:rs[i]? with
     |none=>rw[e]at hy;cases hy
     |some z=>rw[e]at hy;exact tF z rfl ((Option.some.inj hy).symm)
    subst ey;have hil:i<raw.length:=by
     rw[←R.len];exact(rE.mp hr2).1
    obtain⟨c,hc⟩:∃c,raw[i]?=some c:=⟨_,sG hil⟩
    obtain⟨j,nm,nn,b,pu,hcode,hform,g1,g2,_,_,hpuT⟩:=R.at_ i r c hr2 hc;obtain⟨cl,AS⟩:=hasks c (r8 hc);have enm:nm=br cl:=AS.name j nm nn b hcode hform;subst enm;rw[AS.nums]at g2;have nr:r∉own x0 p∧r≠tq:=⟨λz=>(by
     obtain⟨o,h,hn⟩:=L2.defd r z;rw[g1]at h;exact hn _ (Option.some.inj h).symm),a9 g1 (s2 _ _ hT) (λz=>nomatch z)⟩
    have g1':=L.keep _ _ g1 nr.1 nr.2 rfl;obtain⟨np1,np2⟩:=nfo pu hpuT;have g2':=L.keep _ _ g2 np1 np2 rfl;have npx:pu∉own x p:=λz=>by
     rcases L.moved pu z with y|y
     ·exact np1 y
     ·rw[g2]at y;cases y
    have ed:raw.drop i=c::raw.drop (i+1):=by
     rw[sF hil];congr 1;rw[sG hil]at hc;exact Option.some.inj hc
    have est:j5 s (PySu111.whole c)=((Su111.step s cl).1,e9 (Su111.step s cl).2):=by
     unfold j5 Su111Neutral.step;rw[AS.call];rfl
    have eq2:PySu111.answers l=(told++((((e9 (Su111.step s cl).2).length:Nat):Int)::e9 (Su111.step s cl).2))++PyFlat.told (PyFlat.played j5 (Su111.step s cl).1 ((raw.drop (i+1)).map PySu111.whole)):=by
     rw[eq,ed,rQ];show told++PyFlat.told ((j5 s (PySu111.whole c)).2::PyFlat.played j5 (j5 s (PySu111.whole c)).1 _)=_;rw[est,sK];rfl
    have hln:=congrArg List.length eq2;rw[r9,r9,rP]at hln;refine uy r _ rfl (SqT.of g1') rfl _ (tW _ rfl _ _ rfl rfl ?_);refine tH tq _ L.told trivial (λod=>?_);refine t0 _ rfl _ rfl (tR _ rfl p pu x (tI s (2*i) cl rfl (by rw[af np2];exact g2') npx (tN AS.small AS.len (L.lockL od) (by omega) (L.tabs.lock L.told rfl (λu z=>nomatch z)) G (λH3 x' q O=>?_))));have h3:H3 tq=some (.frz od (.lst (iV told))):=O.keep tq _ ac L.tqn rfl;refine⟨h3,?_⟩;have nq:q≠tq:=λz=>by
     have:=O.fresh;rw[z,ac]at this;cases this
    have hq4:(upd H3 tq (.lst (iV told))) q=some (.lst (iV (e9 (Su111.step s cl).2))):=by rw[af nq];exact O.ans
    have ht4:(upd H3 tq (.lst (iV told))) tq=some (.lst (iV told)):=ac;refine⟨_,t9 rfl (.inl (uj rfl _ (SqL.of ht4))) _ rfl q _ (uu rfl (.inl (SqL.of hq4)) tq _ _ (uw rfl rfl ht4 ?_ ?_))⟩
    ·rw[bG,sizeLine_eq];omega
    ·rw[bX];have ht5:(upd H3 tq (.lst (iV told++[V.int (((iV (e9 (Su111.step s cl).2)).length:Nat):Int)]))) tq=some (.lst (iV told++[V.int (((iV (e9 (Su111.step s cl).2)).length:Nat):Int)])):=ac;refine tK _ rfl (.inl (uj rfl _ (SqL.of ht5))) (tR _ rfl tq q _ (tJ _ rfl rfl ht5 (by rw[af nq];exact O.ans) ?_ ?_))
     ·rw[r9,bG,bG,sk,sizeLine_eq];omega
     ·rw[bX];have e6:iV told++[V.int (((iV (e9 (Su111.step s cl).2)).length:Nat):Int)]++iV (e9 (Su111.step s cl).2)=iV (told++((((e9 (Su111.step s cl).2).length:Nat):Int)::e9 (Su111.step s cl).2)):=by
       rw[bG];unfold iV;rw[sQ,rQ,sK];rfl
      rw[e6];refine tY x' ((Su111.step s cl).1) _ _ (tP _ _ rfl ?_ (step_good G cl) eq2);have O':Out P w CM M.RN.R.C tabs (upd H' tq (.frz od (.lst (iV told)))) H3 p x x' (gF (Su111.step s cl).1) (2*(i+1)) q (e9 (Su111.step s cl).2):=O;exact L.step O'
   ·rintro σ H' ⟨x,s,told,v3,v4,v5,rfl,L,G,eq⟩;rw[rR,R.len,List.drop_length]at eq;have eq:PySu111.answers l=told:=by
     rw[eq];show told++[]=told;rw[rT]
    refine tF _ rfl (k H' tq (λb o e ht=>?_) L.tabs (by rw[eq];exact L.told));refine L.keep b o (s12 _ _ (sH1 _ _ e)) (ownH b o e) (λz=>?_) ht;have:=sH1 _ _ e;rw[z,htq]at this;cases this
end
end My
end
section
namespace My
open PySem PySem.Spec PyProof.Rows L2
open PySem.W (WData WellAll Well ReadsW ReadsAllW WalkOS OpenSpec Codec)
def OnlyT(ts:List Addr)(H:Hp):Prop:=(∀b,H b=none∨(∃o u,H b=some (.frz o u))∨b∈ts)∧∀b∈ts,H b=some (.tbl #[])
theorem sqL_more{K:fG}{H H':Hp}{a:Addr}{xs:List V}(e:∀b o,H b=some o→H' b=some o)(h:SqL K H a xs):SqL K H' a xs:=ao.seq (H:=H) (H':=H') e h
theorem qC{P:Program}{w:World}{K:fG}{mg mb:Str→Option Value}{CX:CXT}{k:Nat}{fa:Addr}{fd:FuncData}{ps:List Str}{sp:Sp}{s₁:Shared}{vals:List Value}{ds:List WData}{R:PySem.W.WRecords}{cl:Str→Option Addr}{d0:WData}{ts:List Addr}(KX:K.In s₁.heap)(hns:s₁.heap.Ns mainGlobals mg)(hb:s₁.heap.Ns builtinsNs mb)(hbb:∀x:Str,x≠"__name__"→mb x=bootBuiltins x)(hlim:s₁.heap.NoLimit)(hg:s₁.gens = #[])(hwl:WellAll w.params s₁.heap vals ds)(hpl:jy ds=true)(hwt:∀d∈ds,d.weight≤1048576)(hr:bP k callerA)(hB:BAt mg s₁.heap)(hT:∀t∈ts,s₁.heap.get? t=some (PySem.W.tabObj #[]))(hcT:∀t∈ts,isCodeTable s₁.heap t)(hnK:∀t∈ts,K.lookup t=none)(F:∀base:Heap,K.In base→base.Ns mainGlobals mg→BAt mg base→aZ P w K mg base CX k fa fd ps sp)(hbind:∀(s:Shared) (us:List Value),us.length=ps.length→BindsTo s fd ⟨us,[]⟩ (ps.zip us))(hlen:ds.length=ps.length)(hsp:∀(H H0:Hp) (xs:List V),OnlyT ts H→(∀b o,H0 b=some o→H b=some o)→eV K H0 xs ds→sp xs H (λv H'=>Dw K H' v d0) λ_ _ _=>False)(hCX:∀H e s',CX [] H s₁ (λ_ _ _=>False) e s'→False):codeAny (model P w) callerA (.call (.ref fa) ⟨vals,[]⟩) (λr s'=>∃u as,r=.ok (.ret u)∧ReadsW R cl s'.heap u d0 as∧OldK s₁.heap s'.heap∧s'.os=s₁.os∧AllBare s'.gens) s₁:=by
 obtain⟨A,ho,ar⟩:=gE ds vals hwl hpl hwt;have hS:=lA KX ar ds vals hwl hpl ho;have hV:=df ho;have isA:∀{b u},dX K s₁.heap A b=some u→K.lookup b=none∧∃c vs,s₁.heap.get? b=some {cls:=.type c,data:=.seq vs}:=λ{b u} q=>by
  obtain⟨h1,vs,_,_,⟨e,_⟩|⟨e,_⟩⟩:=g9 ar q
  ·exact⟨h1,tU _ _ e⟩
  ·exact⟨h1,tU _ _ e⟩
 have apart:∀t∈ts,dX K s₁.heap A t=none:=λt ht=>by
  cases q:dX K s₁.heap A t with
  |none=>rfl
  |some u =>
   obtain⟨_,c,vs,e⟩:=isA q;rw[hT t ht]at e;cases e
 obtain⟨H,hH⟩:∃H:Hp,H=λb=>if b∈ts then some (.tbl #[]) else dX K s₁.heap A b:=⟨_,rfl⟩
 have hin:∀t∈ts,H t=some (.tbl #[]):=λt ht=>by rw[hH];exact if_pos ht
 have hout:∀{b},b∉ts→H b=dX K s₁.heap A b:=λ{b} ht=>by rw[hH];exact if_neg ht
 have more:∀b o,dX K s₁.heap A b=some o→H b=some o:=λb o e=>by
  rw[hout (λz=>by rw[apart b z]at e;cases e)];exact e
 have hO:OnlyT ts H:=by
  refine⟨λb=>?_,hin⟩;by_cases hb:b∈ts
  ·exact .inr (.inr hb)
  ·rw[hout hb];rcases mY (K:=K) ar b with z|z
   ·exact .inl z
   ·exact .inr (.inl z)
 have hok:HOk P w H s₁.heap:=λb u q=>by
  by_cases hb:b∈ts
  ·rw[hin b hb]at q;cases q;exact hT b hb
  ·rw[hout hb]at q;obtain⟨_,vs,h1,h2,⟨e,rfl⟩|⟨e,rfl⟩⟩:=g9 ar q
   ·exact uv e (by rw[rR];exact h1) vs _ (df h2) e
   ·exact uz e (by rw[rR];exact h1) vs (df h2) (ux _ e rfl _ rfl)
 have hK:∀b u,H b=some u→K.lookup b=none:=λb u q=>by
  by_cases hb:b∈ts
  ·exact hnK b hb
  ·rw[hout hb]at q;exact(isA q).1
 have noH:∀{b:Addr} {o:Obj},s₁.heap.get? b=some o→(∀c vs,o≠{cls:=.type c,data:=.seq vs})→o≠PySem.W.tabObj #[]→H b=none:=λ{b o} e n1 n2=>by
  by_cases hb:b∈ts
  ·rw[hT b hb]at e;exact absurd (Option.some.inj e).symm n2
  ·rw[hout hb];cases q:dX K s₁.heap A b with
   |none=>rfl
   |some u =>
    obtain⟨_,c,vs,e2⟩:=isA q;rw[e2]at e;exact absurd (Option.some.inj e).symm (n1 _ _)
 have noA:∀{b:Addr} {o:Obj} {es:Array DictEntry} {ep:Nat},s₁.heap.get? b=some o→o.data=.dict es ep→H b=none:=λ{b o es ep} e d=>noH e (λc vs z=>by subst z;cases d) (λz=>by subst z;cases d);clear hH;have base_of:∀{b:Addr} {o:Obj},s₁.heap.get? b=some o→H b=none→(iF s₁.heap H).get? b=some o:=λe n=>qd e n;have nsK:∀{b:Addr} {m:Str→Option Value},s₁.heap.Ns b m→(iF s₁.heap H).Ns b m:=λ{b m} ⟨o,es,ep,e,d,r⟩=>⟨o,es,ep,base_of e (noA e d),d,r⟩
 have nK:∀b o,K.lookup b=some o→H b=none:=λb o e=>by
  cases q:H b with
  |none=>rfl
  |some u =>
   rw[hK b u q]at e;cases e
 have hKb:K.In (iF s₁.heap H):=λb o e=>base_of (KX b o e) (nK b o e);have hBb:BAt mg (iF s₁.heap H):=by
  obtain⟨bm,ob,b1,b2,b3,b4,b5,b6⟩:=hB;exact⟨bm,tJ ob b1 b2 (base_of b3 (noH b3 (λc vs z=>by subst z;cases b6) (λz=>by subst z;cases b6))) b4 b5 b6⟩
 have hM:Mod K mg (iF s₁.heap H):=⟨hKb,nsK hns,⟨mb,nsK hb,hbb⟩,let ⟨mc,h1,h2⟩:=hlim;⟨mc,nsK h1,h2⟩⟩
 have e0:Env0 P w K mg (iF s₁.heap H) callerA [] s₁ H:=⟨rfl,hM,λb o e=>of_hidT e,Nat.le_of_eq (mJ _ _),trivial,λb hb=>absurd (show b∈([]:List Addr) from hb) (by simp),hok,.of_eq hg⟩
 have hl:vals.length=ps.length:=by rw[dM hwl];exact hlen
 refine codeAny_mono ((F _ hKb (nsK hns) hBb).run callerA [] s₁ H ⟨vals,[]⟩ vals (vals.map toV) _ _ hr e0 (hbind s₁ vals hl) hV (hsp H _ _ hO more hS)) λr s' x=>?_;cases r with
 |error e=>exact(hCX H e s' x).elim
 |ok fl =>
  cases fl with
  |next=>exact False.elim x
  |brk=>exact False.elim x
  |cont=>exact False.elim x
  |ret u =>
   obtain⟨v,H',os,bare,un,hok',r',q⟩:=x;have kept:∀b o,b∉ts→s₁.heap.get? b=some o→s'.heap.get? b=some o:=λb o hb e=>by
    cases q2:H b with
    |none=>exact un.keep b o e q2 (by intro z;exact absurd (show b∈([]:List Addr) from z) (by simp)) (by simp)
    |some u2 =>
     rcases hO.1 b with z|⟨ob,u3,z⟩|z
     ·rw[q2]at z;cases z
     ·have z2:=un.frzs b ob _ z;obtain⟨e1,_⟩:=hok b _ z;obtain⟨e2,_⟩:=hok' b _ z2;rw[e]at e1;cases e1;exact e2
     ·exact absurd z hb
   have grown:∀b∈ts,∃ps,s'.heap.get? b=some (PySem.W.tabObj ps):=λb hb=>by
    obtain⟨more,z⟩:=un.tbls b _ (hin b hb);exact⟨_,hok' b _ z⟩
   have KX':K.In s'.heap:=λb o e=>kept b o (λz=>by rw[hnK b z]at e;cases e) (KX b o e);obtain⟨as,hrd⟩:=Dw.reads (R:=R) (cl:=cl) hok' KX' d0 v u q r';refine tG u as rfl hrd ⟨λb o e=>?_,λb o e=>?_⟩ os bare
   ·by_cases hb:b∈ts
    ·obtain⟨ps,hP⟩:=grown b hb;rw[hT b hb]at e;cases e;exact .inr (.inl (uv (hcT b hb) rfl (#[]) ps rfl (by rw[Array.empty_append];exact hP)))
    ·exact .inl (kept b o hb e)
   ·by_cases hb:b∈ts
    ·obtain⟨ps,hP⟩:=grown b hb;exact⟨_,hP⟩
    ·exact⟨o,kept b o hb e⟩
end My
end
section
namespace My
open PySem PySem.Spec PyProof.Rows L2
open PySem.W (WData Codec OpenSpec Well WellAll ReadsW ReadsAllW)
theorem qr{r:OpenSpec}{k:Nat}{q:Program}{loose:List Str}{XP:(Str→Option Value)→Heap→Prop}{YP:World→Heap→Prop}{d:DefRec}{K:Params→fG}{CX:CXT}{ps:List Str}{sp:fG→Sp}{ts:List Addr}(hwell:r.wellSaid=true)(hdf:d.params.defaults=[])(hlen:r.args.length=ps.length)(hr:bP k callerA)(hY:∀(w:World) (h:Heap),YP w h→(K w.params).In h)(hYT:∀(w:World) (h:Heap),YP w h→∀t∈ts,h.get? t=some (PySem.W.tabObj #[]))(hcT:∀(w:World) (h:Heap),(K w.params).In h→(∀t∈ts,h.get? t=some (PySem.W.tabObj #[]))→∀t∈ts,isCodeTable h t)(hnK:∀(p:Params),∀t∈ts,(K p).lookup t=none)(F:∀(w:World) (mg:Str→Option Value) (fa:Addr) (h:Heap),YP w h→(K w.params).In h→h.Ns mainGlobals mg→mg d.name=some (.ref fa) →
   ∃fd:FuncData,(∀(s:Shared) (us:List Value),us.length=ps.length→BindsTo s fd ⟨us,[]⟩ (ps.zip us)) ∧
    ∀base:Heap,(K w.params).In base→base.Ns mainGlobals mg→BAt mg base→aZ r.prog w (K w.params) mg base CX k fa fd ps (sp (K w.params)))(hsp:∀(K:fG) (H H0:Hp) (xs:List V) (a:Codec.denoteAll r.args),OnlyT ts H→(∀b o,H0 b=some o→H b=some o)→Codec.withinAll r.args a=true→Codec.app r.args r.asked a=true→eV K H0 xs (Codec.encAll r.args a) →
   sp K xs H (λv H'=>Dw K H' v (r.ret.enc (Codec.app r.args r.f a))) λ_ _ _=>False)(hCX:∀(H:Hp) (s:Shared) (e:Value) (s':Shared),CX [] H s (λ_ _ _=>False) e s'→False):PySem.W.WalkOS q loose XP YP r d [] (λf vs=>PySem.call f vs):=by
 intro w s_0 s₁ mg mb G Y fa o pm cd doc dV kV ho hd hcd hD hmg hg args vals as hpre hlay hrd hwl hlo;obtain⟨a,e1,e2⟩:=PySem.W.os_pre_some hpre;obtain⟨e3,hwi⟩:=Codec.encAll_of_decAll r.args args a e1;subst e3;have KX:=hY w _ Y;have TX:=hYT w _ Y;obtain⟨fd,hb,hF⟩:=F w mg fa _ Y KX G.T.g hmg;have hB:BAt mg s₁.heap:=let ⟨bm,ob,b1,b2,b3,b4,b5,b6⟩:=G.T.bmain;⟨bm,ob,b1,b2,b3,b4,b5,b6⟩;refine PySem.W.enter_call (codeAny_mono (qC (R:=[]) (cl:=classAt s_0.heap) (d0:=r.ret.enc (Codec.app r.args r.f a)) (ts:=ts) KX G.T.g G.T.b G.T.builtins G.T.nolimit hg hwl (jx _ _) (gu hlay) hr hB TX (hcT w _ KX TX) (hnK w.params) hF hb (by rw[iH];exact hlen)
  (λH H0 xs hO hm hS=>hsp (K w.params) H H0 xs a hO hm hwi e2 hS) λH e s'=>hCX H s₁ e s') λr' s' hq=>?_)
 obtain⟨u,as',rfl,h1,h2,h3,h4⟩:=hq;exact ud (.inl ⟨u,tG _ as' rfl (λ_=>rfl) h1 ((OpenSpec.post_iff hwell hwi _ _).mpr rfl) (λz=>sC (show false=true from z))⟩) h2 h3 h4
section
variable {K:fG} {h:Heap} {mg:Str→Option Value} {tabs:List (Addr×Str)}
abbrev d4:List (Addr×Str):=[(338,qLong),(331,mz),(324,qMean),(317,fe),(310,fb),(303,qRate),(127,i6),(120,jv)]
abbrev tsL:List Addr:=[338,331,324,317,310,303,127,120]
theorem tabs0{H:Hp}(hO:OnlyT tsL H):aQ d4 H:=λt ht=>by
 refine tK (#[]) (hO.2 t.1 ?_) trivial (λpos cv z=>?_)
 ·exact(show tsL=d4.map (·.1) from rfl) ▸ List.mem_map_of_mem ht
 ·cases z
theorem func_tabs:Func d4:=by
 unfold Func;decide +kernel
end
end My
end
section
namespace My
open PySem PySem.Spec PyProof.Rows L2
def l8(K:fG)(a:Addr):Option (List Value):=match K.lookup a with
 |some ⟨.type "tuple",_,.seq its _,_⟩=>some its.toList
 |_=>none
theorem tupIn_at{K:fG}{a:Addr}{l:List Value}(h:l8 K a=some l):∃(o:Obj) (its:Array Value) (n:Nat),K.lookup a=some o∧o.cls=.type "tuple"∧o.data=.seq its n∧its.toList=l:=by
 unfold l8 at h;split at h
 ·rename_i od its n sl e;exact tI _ its n e rfl rfl (Option.some.inj h)
 ·cases h
theorem sqT_of{K:fG}{a:Addr}{l:List Value}{xs:List V}(h:l8 K a=some l)(hl:l.length≤100)(hv:aW xs l):∀H,SqT K H a xs:=λH=>by
 obtain⟨o,its,n,h1,h2,h3,h4⟩:=tupIn_at h;refine .inr ⟨o,tG its n h1 h2 h3 ?_ (by rw[h4];exact hv)⟩;have:its.size=l.length:=by rw[←h4,rF]
 rw[this,sizeLine_eq];omega
def txtOk(v:Value)(s:Str):Bool:=match v with
 |.str x _=>x==s
 |_=>false
def nh:List Value→List Str→Bool
 |[],[]=>true
 |v::vs,s::ss=>txtOk v s&&nh vs ss
 |_,_=>false
theorem l6:∀{vs:List Value} {ss:List Str},nh vs ss=true→aW (ss.map V.str) vs∧vs.length=ss.length
 |[],[],_=>⟨.nil,rfl⟩
 |v::vs,s::ss,h=>by
  unfold nh at h;rw[sj]at h;obtain⟨h1,h2⟩:=l6 h.2;have h3:=h.1;unfold txtOk at h3;split at h3
  ·rename_i x t;have:=beq_iff_eq.mp h3;subst this;exact⟨.cons ⟨t,rfl⟩ h1,by rw[rP,rP,h2]⟩
  ·cases h3
 |[],_::_,h=>by cases h
 |_::_,[],h=>by cases h
def nZ(K:fG)(a:Addr)(l:List Str):Bool:=match l8 K a with
 |some vs=>nh vs l
 |none=>false
theorem names_of{K:fG}{h:Heap}{mg:Str→Option Value}{x:Str}{l:List Str}{f:Addr}(X:K.In h)(G:h.Ns mainGlobals mg)(a:PySem.W.nsIn K mainGlobals x=some (some (.ref f)))(hl:l.length≤100)(e:nZ K f l=true):jo K mg x l:=by
 unfold nZ at e;split at e
 ·rename_i vs hv;obtain⟨h1,h2⟩:=l6 e;exact⟨f,PySem.W.mg_of X G a,sqT_of hv (by omega) h1⟩
 ·cases e
def formOk(K:fG)(v:Value)(f:Str×Nat×Bool):Bool:=match v with
 |.ref t=>(match l8 K t with
  |some [.str s _,.int i _,.bool b]=>s==f.1&&(i==(f.2.1:Int)&&b==f.2.2)
  |_=>false)
 |_=>false
def kr(K:fG):List Value→List (Str×Nat×Bool)→Bool
 |[],[]=>true
 |v::vs,s::ss=>formOk K v s&&kr K vs ss
 |_,_=>false
theorem mL{K:fG}:∀{vs:List Value} {ss:List (Str×Nat×Bool)},kr K vs ss=true→∃ts:List Addr,vs=ts.map Value.ref∧ts.length=ss.length∧∀(j:Nat) (t:Addr) (nm:Str) (n:Nat) (b:Bool),ts[j]?=some t→ss[j]?=some (nm,n,b)→∀H,SqT K H t [.str nm,.int (n:Int),.bl b]
 |[],[],_=>tK [] rfl rfl (λj t nm n b h=>by simp at h)
 |v::vs,s::ss,h=>by
  unfold kr at h;rw[sj]at h;obtain⟨ts,e1,e2,e3⟩:=mL h.2;have h3:=h.1;unfold formOk at h3;split at h3
  ·rename_i t;split at h3
   ·rename_i x tk i tk2 b hv;rw[sj,sj]at h3;obtain⟨g1,g2,g3⟩:=h3;replace g1:=beq_iff_eq.mp g1;replace g2:=beq_iff_eq.mp g2;replace g3:=beq_iff_eq.mp g3;refine tK (t::ts) (by rw[e1];rfl) (by rw[rP,rP,e2]) (λj t' nm n b' q1 q2=>?_);cases j with
    |zero =>
     have q1:t=t':=Option.some.inj q1;have q2:s=(nm,n,b'):=Option.some.inj q2;subst q1 q2;dsimp only at g1 g2 g3;subst g1 g2 g3;exact sqT_of hv (by simp) (.cons ⟨tk,rfl⟩ (.cons ⟨tk2,rfl⟩ (.cons rfl .nil)))
    |succ j=>exact e3 j t' nm n b' q1 q2
   ·cases h3
  ·cases h3
 |[],_::_,h=>by cases h
 |_::_,[],h=>by cases h
def oy(K:fG)(a:Addr):Bool:=match l8 K a with
 |some vs=>kr K vs cr
 |none=>false
theorem l5:∀ts:List Addr,aW (ts.map V.ref) (ts.map Value.ref)
 |[]=>.nil
 |t::ts=>.cons rfl (l5 ts)
theorem forms_of{K:fG}{h:Heap}{mg:Str→Option Value}{f:Addr}(X:K.In h)(G:h.Ns mainGlobals mg)(a:PySem.W.nsIn K mainGlobals "FORMS" = some (some (.ref f)))(e:oy K f=true):kx K mg:=by
 unfold oy at e;split at e
 ·rename_i vs hv;obtain⟨ts,e1,e2,e3⟩:=mL e;have hl:ts.length=21:=e2;subst e1;exact⟨f,ts,PySem.W.mg_of X G a,sqT_of hv (by rw[rR];omega) (l5 ts),hl,e3⟩
 ·cases e
theorem by1{R:List Value→Prop}(h:∀a,R [a]):∀us:List Value,us.length=1→R us
 |[_],_=>h _
theorem by2{R:List Value→Prop}(h:∀a b,R [a,b]):∀us:List Value,us.length=2→R us
 |[_,_],_=>h _ _
theorem by3{R:List Value→Prop}(h:∀a b c,R [a,b,c]):∀us:List Value,us.length=3→R us
 |[_,_,_],_=>h _ _ _
theorem by4{R:List Value→Prop}(h:∀a b c d,R [a,b,c,d]):∀us:List Value,us.length=4→R us
 |[_,_,_,_],_=>h _ _ _ _
section
variable {K:fG} {h:Heap} {mg:Str→Option Value} {tabs:List (Addr×Str)} {goal:Prop}
theorem eX(x:Str)(X:K.In h)(G:h.Ns mainGlobals mg)(a:PySem.W.nsIn K mainGlobals x=some none)(next:mg x=none→goal):goal:=next (PySem.W.mg_none_of X G a)
theorem fX(x:Str)(v:Int){t:Tok}(X:K.In h)(G:h.Ns mainGlobals mg)(a:PySem.W.nsIn K mainGlobals x=some (some (.int v t)))(next:dY mg x v→goal):goal:=next ⟨t,PySem.W.mg_of X G a⟩
theorem w_cls(x:Str){C:Addr}(X:K.In h)(G:h.Ns mainGlobals mg)(a:PySem.W.nsIn K mainGlobals x=some (some (.ref C)))(pg:PySem.W.plainGet K C Str.empty=true)(hd:PySem.W.hasDictIn K C=true)(po:PySem.W.plainOver K C=true)(sa:PySem.W.findIn K (.ref C) "__setattr__" = some (some (.builtin "object.__setattr__")))(next:Cls K C→mg x=some (.ref C)→goal):goal:=next ⟨pg,hd,po,sa⟩ (PySem.W.mg_of X G a)
theorem w_no(f:Str){C:Addr}(c:Cls K C)(a:PySem.W.findIn K (.ref C) f=some none)(next:c7 K C f→goal):goal:=next a
theorem bW(x:Str)(st:Stmt)(ps:List Str){f:Addr}{oc:Value}{od an:Option Addr}{osl:Array (Option Value)}{kV doc pm cdv ct:Value}(X:K.In h)(G:h.Ns mainGlobals mg)(a:PySem.W.nsIn K mainGlobals x=some (some (.ref f)))(l:K.lookup f=some ⟨oc,od,.func (PySem.W.fnOf x x (cC st) (b9 st) (ag st) .none kV doc pm an cdv ct),osl⟩)(c:PySem.W.codeIn K cdv x=true)(k:PySem.W.keepIn K (.ref f)=true)(hb:∀(kV doc pm:Value) (an:Option Addr) (cdv ct:Value) (us:List Value),us.length=ps.length→bindArgs (PySem.W.fnOf x x (cC st) (b9 st) (ag st) .none kV doc pm an cdv ct) ⟨us,[]⟩=pure (ps.zip us))(next:aN K mg x st ps→goal):goal :=
 next ⟨f,_,fL l c k,(fL l c k).binds hb,PySem.W.mg_of X G a⟩
theorem cb{C:Addr}(cl:Cls K C)(m qual:Str)(st:Stmt)(ps:List Str){f:Addr}{oc:Value}{od an:Option Addr}{osl:Array (Option Value)}{kV doc pm cdv ct:Value}(a:PySem.W.findIn K (.ref C) m=some (some (.ref f)))(i:PySem.W.isFn K (.ref f)=true)(l:K.lookup f=some ⟨oc,od,.func (PySem.W.fnOf m qual (cC st) (b9 st) (ag st) .none kV doc pm an cdv ct),osl⟩)(c:PySem.W.codeIn K cdv qual=true)(k:PySem.W.keepIn K (.ref f)=true)(hb:∀(kV doc pm:Value) (an:Option Addr) (cdv ct:Value) (us:List Value),us.length=ps.length→bindArgs (PySem.W.fnOf m qual (cC st) (b9 st) (ag st) .none kV doc pm an cdv ct) ⟨us,[]⟩=pure (ps.zip us))(next:aY K C m qual st ps→goal):goal :=
 next ⟨f,_,⟨a,i,k⟩,fL l c k,(fL l c k).binds hb⟩
theorem w_init{C:Addr}(cl:Cls K C)(qual:Str)(st:Stmt)(ps:List Str){f:Addr}{oc:Value}{od an:Option Addr}{osl:Array (Option Value)}{kV doc pm cdv ct:Value}(a:PySem.W.findIn K (.ref C) "__init__" = some (some (.ref f)))(i:PySem.W.isFn K (.ref f)=true)(l:K.lookup f=some ⟨oc,od,.func (PySem.W.fnOf "__init__" qual (cC st) (b9 st) (ag st) .none kV doc pm an cdv ct),osl⟩)(c:PySem.W.codeIn K cdv qual=true)(k:PySem.W.keepIn K (.ref f)=true)(hb:∀(kV doc pm:Value) (an:Option Addr) (cdv ct:Value) (us:List Value),us.length=ps.length→bindArgs (PySem.W.fnOf "__init__" qual (cC st) (b9 st) (ag st) .none kV doc pm an cdv ct) ⟨us,[]⟩=pure (ps.zip us))(mk:PySem.W.makesIn K C=true)(kc:PySem.W.keepIn K (.ref C)=true)(next:∀M:aY K C "__init__" qual st ps,Mk K C M.f→goal):goal :=
 next ⟨f,_,⟨a,i,k⟩,fL l c k,(fL l c k).binds hb⟩ ⟨mk,a,i,kc⟩
theorem jO{C:Addr}(cl:Cls K C)(m qual q:Str)(st:Stmt)(ps:List Str)(T:Addr){f cc:Addr}{oc:Value}{od an:Option Addr}{osl:Array (Option Value)}{kV doc pm ct:Value}(a:PySem.W.findIn K (.ref C) m=some (some (.ref f)))(i:PySem.W.isFn K (.ref f)=true)(l:K.lookup f=some ⟨oc,od,.func (PySem.W.fnOf m qual (cC st) (b9 st) (ag st) .none kV doc pm an (.ref cc) ct),osl⟩)(c:PySem.W.codeIn K (.ref cc) qual=true)(k:PySem.W.keepIn K (.ref f)=true)(hb:∀(kV doc pm:Value) (an:Option Addr) (cdv ct:Value) (us:List Value),us.length=ps.length→bindArgs (PySem.W.fnOf m qual (cC st) (b9 st) (ag st) .none kV doc pm an cdv ct) ⟨us,[]⟩=pure (ps.zip us))(hc:PySem.W.codeHdIn K cc T=true)(ht:(T,q)∈d4)(next:∀M:aY K C m qual st ps,dy K d4 M.fd q→goal):goal :=
 next ⟨f,_,⟨a,i,k⟩,fL l c k,(fL l c k).binds hb⟩ ⟨cc,T,rfl,hc,ht⟩
theorem w_top(x:Str)(st:Stmt)(ps:List Str){fa f:Addr}{oc:Value}{od an:Option Addr}{osl:Array (Option Value)}{kV doc pm cdv ct:Value}(X:K.In h)(G:h.Ns mainGlobals mg)(hmg:mg x=some (.ref fa))(a:PySem.W.nsIn K mainGlobals x=some (some (.ref f)))(l:K.lookup f=some ⟨oc,od,.func (PySem.W.fnOf x x (cC st) (b9 st) (ag st) .none kV doc pm an cdv ct),osl⟩)(c:PySem.W.codeIn K cdv x=true)(k:PySem.W.keepIn K (.ref f)=true)(hb:∀(kV doc pm:Value) (an:Option Addr) (cdv ct:Value) (us:List Value),us.length=ps.length→bindArgs (PySem.W.fnOf x x (cC st) (b9 st) (ag st) .none kV doc pm an cdv ct) ⟨us,[]⟩=pure (ps.zip us))(next:∀fd:FuncData,Fun K x x st fa fd→(∀(s:Shared) (us:List Value),us.length=ps.length→BindsTo s fd ⟨us,[]⟩ (ps.zip us))→goal):goal:=by
 have e:=hmg.symm.trans (PySem.W.mg_of X G a);cases e;exact next _ (fL l c k) λs us hu=>.of_eq (hb _ _ _ _ _ _ us hu)
theorem m9(x:Str)(l:List Str){f:Addr}(X:K.In h)(G:h.Ns mainGlobals mg)(a:PySem.W.nsIn K mainGlobals x=some (some (.ref f)))(hl:l.length≤100)(e:nZ K f l=true)(next:jo K mg x l→goal):goal:=next (names_of X G a hl e)
theorem w_forms{f:Addr}(X:K.In h)(G:h.Ns mainGlobals mg)(a:PySem.W.nsIn K mainGlobals "FORMS" = some (some (.ref f)))(e:oy K f=true)(next:kx K mg→goal):goal:=next (forms_of X G a e)
end
end My
end
open PySem PySem.W PyProof.Rows
local macro_rules | `(tactic|o_headS ($f $K $as $e))=>`(tactic|o_headS (PySem.W.kmHook $K $as $e [338,331,324,317,310,303,127,120]))
namespace PySem.W.Fast
def tw16686642931529754765:=0
def tw10569321892809469288:=0
def tw13530515412632059804:=0
def tw10240961648603852373:=0
def tw9255147456133773706:=0
def tw10154559611237997522:=0
def tw13655761728062014189:=0
def tw1570998305197754767:=0
def tw4267306854803611870:=0
def tw14910343500951387462:=0
def tw15778408839564351658:=0
def tw12689319715416016353:=0
def tw9653436018006938245:=0
def tw11700833026018282648:=0
def tw13430410734327679082:=0
def tw13717885163003285885:=0
def tw13190582253787269883:=0
def tw6696271225000404972:=0
def tw4919319010896148432:=0
def tw14558013767868423052:=0
def tw11981848903309155009:=0
def tw3270556529512177151:=0
def tw3271326610968341048:=0
def tw6185000364776235475:=0
def tw9092737773233060544:=0
def tw12515891687412414605:=0
def tw5331161791462963855:=0
def tw15090092861893682836:=0
def tw9508631065854159969:=0
def tw15472323182548248495:=0
def tw8279030715320703174:=0
def tw2634181150817415018:=0
def tw5957716291621599083:=0
def tw10868226326055339200:=0
def tw6493727207645329957:=0
def tw12547368866092056531:=0
def tw9442687259599456165:=0
def tw12082272809327758868:=0
def tw4313833923966650095:=0
def tw5860511557595453181:=0
def tw2075348468115847868:=0
def tw16130850420920946231:=0
def tw985988536638054252:=0
def tw16548896799389595457:=0
def tw11621591565505517139:=0
def tw10509166634660016937:=0
def tw8891559767629087167:=0
def tw15908034153102804960:=0
def tw14095756381610538283:=0
def tw14426398759635028458:=0
def tw8406667752410580613:=0
def tw15124288583247675158:=0
def tw1046688527940554984:=0
def tw4506350252509745247:=0
def tw17124866918040169225:=0
def tw6261963090564413109:=0
def tw12107960875186679269:=0
def tw4627563065680896381:=0
def tw5044757667398464364:=0
def tw13261287379933587428:=0
end PySem.W.Fast
set_option maxHeartbeats 0 in
theorem PySem.Challenge.cw_linerooms_s01_answers_holds : PySem.Challenge.rw_linerooms_s01_answers.Holds := by
 w_on;k_headS;(case hw=>exact⟨[.list [.int 2]],by decide +kernel,by decide +kernel⟩)
 k_fillS
 refine My.qr (r:=PySem.Challenge.rw_linerooms_s01_answers) (k:=13) (CX:=L2.CX0) (ps:=["calls"]) (ts:=My.tsL) (sp:=λK=>My.spAll K My.d4) (by decide +kernel) rfl rfl ⟨rfl,by decide,by decide⟩ (λw h Y=>PySem.W.km_in_of Y) (λw h Y=>PySem.W.km_tabs_of Y) ?caC ?caN ?caF ?caS (λ_ _ _ _ z=>z)
 case caC =>
  intro w h KX hT t ht;simp only[My.tsL,rC,List.not_mem_nil,or_false]at ht;rcases ht with rfl|rfl|rfl|rfl|rfl|rfl|rfl|rfl
  ·exact((PySem.W.codeHd_of_K (c:=340) (P:=338) KX (by kernel_rfl)).tab (hT 338 (by simp[My.tsL]))).isCodeTable
  ·exact((PySem.W.codeHd_of_K (c:=335) (P:=331) KX (by kernel_rfl)).tab (hT 331 (by simp[My.tsL]))).isCodeTable
  ·exact((PySem.W.codeHd_of_K (c:=328) (P:=324) KX (by kernel_rfl)).tab (hT 324 (by simp[My.tsL]))).isCodeTable
  ·exact((PySem.W.codeHd_of_K (c:=321) (P:=317) KX (by kernel_rfl)).tab (hT 317 (by simp[My.tsL]))).isCodeTable
  ·exact((PySem.W.codeHd_of_K (c:=314) (P:=310) KX (by kernel_rfl)).tab (hT 310 (by simp[My.tsL]))).isCodeTable
  ·exact((PySem.W.codeHd_of_K (c:=307) (P:=303) KX (by kernel_rfl)).tab (hT 303 (by simp[My.tsL]))).isCodeTable
  ·exact((PySem.W.codeHd_of_K (c:=131) (P:=127) KX (by kernel_rfl)).tab (hT 127 (by simp[My.tsL]))).isCodeTable
  ·exact((PySem.W.codeHd_of_K (c:=124) (P:=120) KX (by kernel_rfl)).tab (hT 120 (by simp[My.tsL]))).isCodeTable
 case caN =>
  intro p t ht;simp only[My.tsL,rC,List.not_mem_nil,or_false]at ht;rcases ht with rfl|rfl|rfl|rfl|rfl|rfl|rfl|rfl
  all_goals kernel_rfl
 case caF =>
  intro w mg fa h Y KX G hmg;refine' My.bW "product" My.ib ["numbers"] KX G ?zza ?zzl ?zzc ?zzk (λ_ _ _ _ _ _=>My.by1 λ_=>rfl) (λD_product=>?_)
  (case zza=>k_is);(case zzl=>k_is);(case zzc=>k_is);(case zzk=>k_is)
  refine' My.bW "hour_cases" My.iq ["chances"] KX G ?zza ?zzl ?zzc ?zzk (λ_ _ _ _ _ _=>My.by1 λ_=>rfl) (λD_hour_cases=>?_)
  (case zza=>k_is);(case zzl=>k_is);(case zzc=>k_is);(case zzk=>k_is)
  refine' My.bW "every_choice" My.kP ["limits"] KX G ?zza ?zzl ?zzc ?zzk (λ_ _ _ _ _ _=>My.by1 λ_=>rfl) (λD_every_choice=>?_)
  (case zza=>k_is);(case zzl=>k_is);(case zzc=>k_is);(case zzk=>k_is)
  refine' My.bW "likely_hours" My.fC ["chances","holds","filling"] KX G ?zza ?zzl ?zzc ?zzk (λ_ _ _ _ _ _=>My.by3 λ_ _ _=>rfl) (λD_likely_hours=>?_)
  (case zza=>k_is);(case zzl=>k_is);(case zzc=>k_is);(case zzk=>k_is)
  refine' My.bW "who_works" My.sWho ["ups","holds","filling"] KX G ?zza ?zzl ?zzc ?zzk (λ_ _ _ _ _ _=>My.by3 λ_ _ _=>rfl) (λD_who_works=>?_)
  (case zza=>k_is);(case zzl=>k_is);(case zzc=>k_is);(case zzk=>k_is)
  refine' My.bW "has_piece" My.sHas ["machine","filling"] KX G ?zza ?zzl ?zzc ?zzk (λ_ _ _ _ _ _=>My.by2 λ_ _=>rfl) (λD_has_piece=>?_)
  (case zza=>k_is);(case zzl=>k_is);(case zzc=>k_is);(case zzk=>k_is)
  refine' My.bW "weight_of" My.eP ["ups","chances"] KX G ?zza ?zzl ?zzc ?zzk (λ_ _ _ _ _ _=>My.by2 λ_ _=>rfl) (λD_weight_of=>?_)
  (case zza=>k_is);(case zzl=>k_is);(case zzc=>k_is);(case zzk=>k_is)
  refine' My.bW "solution" My.sSol ["rows"] KX G ?zza ?zzl ?zzc ?zzk (λ_ _ _ _ _ _=>My.by1 λ_=>rfl) (λD_solution=>?_)
  (case zza=>k_is);(case zzl=>k_is);(case zzc=>k_is);(case zzk=>k_is)
  refine' My.bW "triangle" My.sTri ["rows"] KX G ?zza ?zzl ?zzc ?zzk (λ_ _ _ _ _ _=>My.by1 λ_=>rfl) (λD_triangle=>?_)
  (case zza=>k_is);(case zzl=>k_is);(case zzc=>k_is);(case zzk=>k_is)
  refine' My.bW "cleared" My.ga ["row","by","place","divisor"] KX G ?zza ?zzl ?zzc ?zzk (λ_ _ _ _ _ _=>My.by4 λ_ _ _ _=>rfl) (λD_cleared=>?_)
  (case zza=>k_is);(case zzl=>k_is);(case zzc=>k_is);(case zzk=>k_is)
  refine' My.bW "balance_rows" My.sBal ["moves","cases"] KX G ?zza ?zzl ?zzc ?zzk (λ_ _ _ _ _ _=>My.by2 λ_ _=>rfl) (λD_balance_rows=>?_)
  (case zza=>k_is);(case zzl=>k_is);(case zzc=>k_is);(case zzk=>k_is)
  refine' My.bW "move_weights" My.ju ["fillings","hours"] KX G ?zza ?zzl ?zzc ?zzk (λ_ _ _ _ _ _=>My.by2 λ_ _=>rfl) (λD_move_weights=>?_)
  (case zza=>k_is);(case zzl=>k_is);(case zzc=>k_is);(case zzk=>k_is)
  refine' My.bW "filling_after" My.gb ["works","filling"] KX G ?zza ?zzl ?zzc ?zzk (λ_ _ _ _ _ _=>My.by2 λ_ _=>rfl) (λD_filling_after=>?_)
  (case zza=>k_is);(case zzl=>k_is);(case zzc=>k_is);(case zzk=>k_is)
  refine' My.bW "lowest" My.sLow ["above","below"] KX G ?zza ?zzl ?zzc ?zzk (λ_ _ _ _ _ _=>My.by2 λ_ _=>rfl) (λD_lowest=>?_)
  (case zza=>k_is);(case zzl=>k_is);(case zzc=>k_is);(case zzk=>k_is)
  refine' My.bW "common_measure" My.sGcd ["one","other"] KX G ?zza ?zzl ?zzc ?zzk (λ_ _ _ _ _ _=>My.by2 λ_ _=>rfl) (λD_common_measure=>?_)
  (case zza=>k_is);(case zzl=>k_is);(case zzc=>k_is);(case zzk=>k_is)
  refine' My.bW "is_chance" My.sIsC ["number"] KX G ?zza ?zzl ?zzc ?zzk (λ_ _ _ _ _ _=>My.by1 λ_=>rfl) (λD_is_chance=>?_)
  (case zza=>k_is);(case zzl=>k_is);(case zzc=>k_is);(case zzk=>k_is)
  refine' My.bW "is_room" My.sIsR ["number"] KX G ?zza ?zzl ?zzc ?zzk (λ_ _ _ _ _ _=>My.by1 λ_=>rfl) (λD_is_room=>?_)
  (case zza=>k_is);(case zzl=>k_is);(case zzc=>k_is);(case zzk=>k_is)
  refine' My.bW "too_many_fillings" My.sMany ["holds"] KX G ?zza ?zzl ?zzc ?zzk (λ_ _ _ _ _ _=>My.by1 λ_=>rfl) (λD_too_many_fillings=>?_)
  (case zza=>k_is);(case zzl=>k_is);(case zzc=>k_is);(case zzk=>k_is)
  refine' My.bW "changed_at" My.sChg ["numbers","place","number"] KX G ?zza ?zzl ?zzc ?zzk (λ_ _ _ _ _ _=>My.by3 λ_ _ _=>rfl) (λD_changed_at=>?_)
  (case zza=>k_is);(case zzl=>k_is);(case zzc=>k_is);(case zzk=>k_is)
  refine' My.bW "moves_from" My.sMF ["weights","chances","holds"] KX G ?zza ?zzl ?zzc ?zzk (λ_ _ _ _ _ _=>My.by3 λ_ _ _=>rfl) (λD_moves_from=>?_)
  (case zza=>k_is);(case zzl=>k_is);(case zzc=>k_is);(case zzk=>k_is)
  refine' My.bW "weights_after" My.sWA ["moves"] KX G ?zza ?zzl ?zzc ?zzk (λ_ _ _ _ _ _=>My.by1 λ_=>rfl) (λD_weights_after=>?_)
  (case zza=>k_is);(case zzl=>k_is);(case zzc=>k_is);(case zzk=>k_is)
  refine' My.bW "pieces_soon" My.sPS ["chances","holds","filling","count"] KX G ?zza ?zzl ?zzc ?zzk (λ_ _ _ _ _ _=>My.by4 λ_ _ _ _=>rfl) (λD_pieces_soon=>?_)
  (case zza=>k_is);(case zzl=>k_is);(case zzc=>k_is);(case zzk=>k_is)
  refine' My.bW "answer_of_building" (My.top 48) My.psD KX G ?zza ?zzl ?zzc ?zzk (λ_ _ _ _ _ _=>My.by3 λ_ _ _=>rfl) (λD_answer_of_building=>?_)
  (case zza=>k_is);(case zzl=>k_is);(case zzc=>k_is);(case zzk=>k_is)
  refine' My.bW "answer_of_hours" (My.top 49) My.psD KX G ?zza ?zzl ?zzc ?zzk (λ_ _ _ _ _ _=>My.by3 λ_ _ _=>rfl) (λD_answer_of_hours=>?_)
  (case zza=>k_is);(case zzl=>k_is);(case zzc=>k_is);(case zzk=>k_is)
  refine' My.bW "answer_of_long_run" (My.top 50) My.psD KX G ?zza ?zzl ?zzc ?zzk (λ_ _ _ _ _ _=>My.by3 λ_ _ _=>rfl) (λD_answer_of_long_run=>?_)
  (case zza=>k_is);(case zzl=>k_is);(case zzc=>k_is);(case zzk=>k_is)
  refine' My.bW "answer_of_change" (My.top 51) My.psD KX G ?zza ?zzl ?zzc ?zzk (λ_ _ _ _ _ _=>My.by3 λ_ _ _=>rfl) (λD_answer_of_change=>?_)
  (case zza=>k_is);(case zzl=>k_is);(case zzc=>k_is);(case zzk=>k_is)
  refine' My.bW "answer" (My.top 52) My.psD KX G ?zza ?zzl ?zzc ?zzk (λ_ _ _ _ _ _=>My.by3 λ_ _ _=>rfl) (λD_answer=>?_)
  (case zza=>k_is);(case zzl=>k_is);(case zzc=>k_is);(case zzk=>k_is)
  refine' My.bW "split_calls" My.nF ["calls"] KX G ?zza ?zzl ?zzc ?zzk (λ_ _ _ _ _ _=>My.by1 λ_=>rfl) (λD_split_calls=>?_)
  (case zza=>k_is);(case zzl=>k_is);(case zzc=>k_is);(case zzk=>k_is)
  refine' My.eX "len" KX G ?zza (λh_len=>?_)
  (case zza=>k_is)
  refine' My.eX "range" KX G ?zza (λh_range=>?_)
  (case zza=>k_is)
  refine' My.eX "zip" KX G ?zza (λh_zip=>?_)
  (case zza=>k_is)
  refine' My.eX "enumerate" KX G ?zza (λh_enumerate=>?_)
  (case zza=>k_is)
  refine' My.eX "tuple" KX G ?zza (λh_tuple=>?_)
  (case zza=>k_is)
  refine' My.eX "list" KX G ?zza (λh_list=>?_)
  (case zza=>k_is)
  refine' My.eX "sum" KX G ?zza (λh_sum=>?_)
  (case zza=>k_is)
  refine' My.eX "max" KX G ?zza (λh_max=>?_)
  (case zza=>k_is)
  refine' My.eX "any" KX G ?zza (λh_any=>?_)
  (case zza=>k_is)
  refine' My.eX "reversed" KX G ?zza (λh_reversed=>?_)
  (case zza=>k_is)
  refine' My.fX "MOST_CHANCE" 9 KX G ?zza (λN_MOST_CHANCE=>?_)
  (case zza=>k_is)
  refine' My.fX "MOST_HELD" 8 KX G ?zza (λN_MOST_HELD=>?_)
  (case zza=>k_is)
  refine' My.fX "MOST_MACHINES" 4 KX G ?zza (λN_MOST_MACHINES=>?_)
  (case zza=>k_is)
  refine' My.fX "MOST_FILLINGS" 27 KX G ?zza (λN_MOST_FILLINGS=>?_)
  (case zza=>k_is)
  refine' My.fX "MOST_HOURS" 3 KX G ?zza (λN_MOST_HOURS=>?_)
  (case zza=>k_is)
  refine' My.fX "NONE_SUCH" (-2) KX G ?zza (λN_NONE_SUCH=>?_)
  (case zza=>k_is)
  refine' My.fX "ONLY_ONE" (-6) KX G ?zza (λN_ONLY_ONE=>?_)
  (case zza=>k_is)
  refine' My.fX "NOT_BEGUN" (-11) KX G ?zza (λN_NOT_BEGUN=>?_)
  (case zza=>k_is)
  refine' My.fX "SO_ALREADY" (-17) KX G ?zza (λN_SO_ALREADY=>?_)
  (case zza=>k_is)
  refine' My.fX "OUT_OF_RANGE" (-22) KX G ?zza (λN_OUT_OF_RANGE=>?_)
  (case zza=>k_is)
  refine' My.fX "TOO_MANY" (-28) KX G ?zza (λN_TOO_MANY=>?_)
  (case zza=>k_is)
  refine' My.w_cls "LongRun" KX G ?zza ?zzpg ?zzhd ?zzpo ?zzsa (λR Rm=>?_)
  (case zza=>k_is);(case zzpg=>k_is);(case zzhd=>k_is);(case zzpo=>k_is);(case zzsa=>k_is)
  refine' My.w_no "cases" R ?zza (λnR_cases=>?_)
  (case zza=>k_is)
  refine' My.w_no "fillings" R ?zza (λnR_fillings=>?_)
  (case zza=>k_is)
  refine' My.w_no "hours" R ?zza (λnR_hours=>?_)
  (case zza=>k_is)
  refine' My.w_no "shares" R ?zza (λnR_shares=>?_)
  (case zza=>k_is)
  refine' My.w_init R "LongRun.__init__" My.f9 ["self","chances","holds"] ?zza ?zzi ?zzl ?zzc ?zzk (λ_ _ _ _ _ _=>My.by3 λ_ _ _=>rfl) ?zzmk ?zzkc (λR_I R_Mk=>?_)
  (case zza=>k_is);(case zzi=>k_is);(case zzl=>k_is);(case zzc=>k_is);(case zzk=>k_is)
  (case zzmk=>k_is);(case zzkc=>k_is)
  refine' My.cb R "looked_for" "LongRun.looked_for" My.kO ["self","worth"] ?zza ?zzi ?zzl ?zzc ?zzk (λ_ _ _ _ _ _=>My.by2 λ_ _=>rfl) (λR_looked_for=>?_)
  (case zza=>k_is);(case zzi=>k_is);(case zzl=>k_is);(case zzc=>k_is);(case zzk=>k_is)
  refine' My.jO R "how_often" "LongRun.how_often" My.jv My.ip ["self","happens"] 120 ?zza ?zzi ?zzl ?zzc ?zzk (λ_ _ _ _ _ _=>My.by2 λ_ _=>rfl) ?zzhc (by simp[My.d4]) (λR_how_often Rk_how_often=>?_)
  (case zza=>k_is);(case zzi=>k_is);(case zzl=>k_is);(case zzc=>k_is);(case zzk=>k_is)
  (case zzhc=>kernel_rfl)
  refine' My.jO R "how_often_out" "LongRun.how_often_out" My.i6 My.gQ ["self"] 127 ?zza ?zzi ?zzl ?zzc ?zzk (λ_ _ _ _ _ _=>My.by1 λ_=>rfl) ?zzhc (by simp[My.d4]) (λR_how_often_out Rk_how_often_out=>?_)
  (case zza=>k_is);(case zzi=>k_is);(case zzl=>k_is);(case zzc=>k_is);(case zzk=>k_is)
  (case zzhc=>kernel_rfl)
  refine' My.w_cls "MachineLine" KX G ?zza ?zzpg ?zzhd ?zzpo ?zzsa (λL Lm=>?_)
  (case zza=>k_is);(case zzpg=>k_is);(case zzhd=>k_is);(case zzpo=>k_is);(case zzsa=>k_is)
  refine' My.w_no "chances" L ?zza (λnL_chances=>?_)
  (case zza=>k_is)
  refine' My.w_no "holds" L ?zza (λnL_holds=>?_)
  (case zza=>k_is)
  refine' My.w_no "filling" L ?zza (λnL_filling=>?_)
  (case zza=>k_is)
  refine' My.w_no "known_runs" L ?zza (λnL_known_runs=>?_)
  (case zza=>k_is)
  refine' My.w_init L "MachineLine.__init__" (My.mth 0) ["self"] ?zza ?zzi ?zzl ?zzc ?zzk (λ_ _ _ _ _ _=>My.by1 λ_=>rfl) ?zzmk ?zzkc (λL_I L_Mk=>?_)
  (case zza=>k_is);(case zzi=>k_is);(case zzl=>k_is);(case zzc=>k_is);(case zzk=>k_is)
  (case zzmk=>k_is);(case zzkc=>k_is)
  refine' My.cb L "is_begun" "MachineLine.is_begun" (My.mth 1) ["self"] ?zza ?zzi ?zzl ?zzc ?zzk (λ_ _ _ _ _ _=>My.by1 λ_=>rfl) (λL_is_begun=>?_)
  (case zza=>k_is);(case zzi=>k_is);(case zzl=>k_is);(case zzc=>k_is);(case zzk=>k_is)
  refine' My.cb L "begin" "MachineLine.begin" (My.mth 2) ["self","chance"] ?zza ?zzi ?zzl ?zzc ?zzk (λ_ _ _ _ _ _=>My.by2 λ_ _=>rfl) (λL_begin=>?_)
  (case zza=>k_is);(case zzi=>k_is);(case zzl=>k_is);(case zzc=>k_is);(case zzk=>k_is)
  refine' My.cb L "machine" "MachineLine.machine" (My.mth 3) ["self","hold","chance"] ?zza ?zzi ?zzl ?zzc ?zzk (λ_ _ _ _ _ _=>My.by3 λ_ _ _=>rfl) (λL_machine=>?_)
  (case zza=>k_is);(case zzi=>k_is);(case zzl=>k_is);(case zzc=>k_is);(case zzk=>k_is)
  refine' My.cb L "drop" "MachineLine.drop" (My.mth 4) ["self"] ?zza ?zzi ?zzl ?zzc ?zzk (λ_ _ _ _ _ _=>My.by1 λ_=>rfl) (λL_drop=>?_)
  (case zza=>k_is);(case zzi=>k_is);(case zzl=>k_is);(case zzc=>k_is);(case zzk=>k_is)
  refine' My.cb L "chance" "MachineLine.chance" (My.mth 5) ["self","machine","chance"] ?zza ?zzi ?zzl ?zzc ?zzk (λ_ _ _ _ _ _=>My.by3 λ_ _ _=>rfl) (λL_chance=>?_)
  (case zza=>k_is);(case zzi=>k_is);(case zzl=>k_is);(case zzc=>k_is);(case zzk=>k_is)
  refine' My.cb L "room" "MachineLine.room" (My.mth 6) ["self","room","hold"] ?zza ?zzi ?zzl ?zzc ?zzk (λ_ _ _ _ _ _=>My.by3 λ_ _ _=>rfl) (λL_room=>?_)
  (case zza=>k_is);(case zzi=>k_is);(case zzl=>k_is);(case zzc=>k_is);(case zzk=>k_is)
  refine' My.cb L "turn" "MachineLine.turn" (My.mth 7) ["self"] ?zza ?zzi ?zzl ?zzc ?zzk (λ_ _ _ _ _ _=>My.by1 λ_=>rfl) (λL_turn=>?_)
  (case zza=>k_is);(case zzi=>k_is);(case zzl=>k_is);(case zzc=>k_is);(case zzk=>k_is)
  refine' My.cb L "state" "MachineLine.state" (My.mth 8) ["self"] ?zza ?zzi ?zzl ?zzc ?zzk (λ_ _ _ _ _ _=>My.by1 λ_=>rfl) (λL_state=>?_)
  (case zza=>k_is);(case zzi=>k_is);(case zzl=>k_is);(case zzc=>k_is);(case zzk=>k_is)
  refine' My.cb L "hour" "MachineLine.hour" (My.mth 9) ["self","ups"] ?zza ?zzi ?zzl ?zzc ?zzk (λ_ _ _ _ _ _=>My.by2 λ_ _=>rfl) (λL_hour=>?_)
  (case zza=>k_is);(case zzi=>k_is);(case zzl=>k_is);(case zzc=>k_is);(case zzk=>k_is)
  refine' My.cb L "empty" "MachineLine.empty" (My.mth 10) ["self"] ?zza ?zzi ?zzl ?zzc ?zzk (λ_ _ _ _ _ _=>My.by1 λ_=>rfl) (λL_empty=>?_)
  (case zza=>k_is);(case zzi=>k_is);(case zzl=>k_is);(case zzc=>k_is);(case zzk=>k_is)
  refine' My.cb L "now" "MachineLine.now" (My.mth 11) ["self"] ?zza ?zzi ?zzl ?zzc ?zzk (λ_ _ _ _ _ _=>My.by1 λ_=>rfl) (λL_now=>?_)
  (case zza=>k_is);(case zzi=>k_is);(case zzl=>k_is);(case zzc=>k_is);(case zzk=>k_is)
  refine' My.cb L "soon" "MachineLine.soon" (My.mth 12) ["self","count"] ?zza ?zzi ?zzl ?zzc ?zzk (λ_ _ _ _ _ _=>My.by2 λ_ _=>rfl) (λL_soon=>?_)
  (case zza=>k_is);(case zzi=>k_is);(case zzl=>k_is);(case zzc=>k_is);(case zzk=>k_is)
  refine' My.cb L "run_of" "MachineLine.run_of" My.kN ["self","chances","holds"] ?zza ?zzi ?zzl ?zzc ?zzk (λ_ _ _ _ _ _=>My.by3 λ_ _ _=>rfl) (λL_run_of=>?_)
  (case zza=>k_is);(case zzi=>k_is);(case zzl=>k_is);(case zzc=>k_is);(case zzk=>k_is)
  refine' My.cb L "long_run" "MachineLine.long_run" My.i4 ["self"] ?zza ?zzi ?zzl ?zzc ?zzk (λ_ _ _ _ _ _=>My.by1 λ_=>rfl) (λL_long_run=>?_)
  (case zza=>k_is);(case zzi=>k_is);(case zzl=>k_is);(case zzc=>k_is);(case zzk=>k_is)
  refine' My.cb L "out" "MachineLine.out" (My.mth 15) ["self"] ?zza ?zzi ?zzl ?zzc ?zzk (λ_ _ _ _ _ _=>My.by1 λ_=>rfl) (λL_out=>?_)
  (case zza=>k_is);(case zzi=>k_is);(case zzl=>k_is);(case zzc=>k_is);(case zzk=>k_is)
  refine' My.jO L "rate" "MachineLine.rate" My.qRate (My.mth 16) ["self","machine"] 303 ?zza ?zzi ?zzl ?zzc ?zzk (λ_ _ _ _ _ _=>My.by2 λ_ _=>rfl) ?zzhc (by simp[My.d4]) (λL_rate Lk_rate=>?_)
  (case zza=>k_is);(case zzi=>k_is);(case zzl=>k_is);(case zzc=>k_is);(case zzk=>k_is)
  (case zzhc=>kernel_rfl)
  refine' My.jO L "starved" "MachineLine.starved" My.fb (My.mth 17) ["self","machine"] 310 ?zza ?zzi ?zzl ?zzc ?zzk (λ_ _ _ _ _ _=>My.by2 λ_ _=>rfl) ?zzhc (by simp[My.d4]) (λL_starved Lk_starved=>?_)
  (case zza=>k_is);(case zzi=>k_is);(case zzl=>k_is);(case zzc=>k_is);(case zzk=>k_is)
  (case zzhc=>kernel_rfl)
  refine' My.jO L "blocked" "MachineLine.blocked" My.fe (My.mth 18) ["self","machine"] 317 ?zza ?zzi ?zzl ?zzc ?zzk (λ_ _ _ _ _ _=>My.by2 λ_ _=>rfl) ?zzhc (by simp[My.d4]) (λL_blocked Lk_blocked=>?_)
  (case zza=>k_is);(case zzi=>k_is);(case zzl=>k_is);(case zzc=>k_is);(case zzk=>k_is)
  (case zzhc=>kernel_rfl)
  refine' My.jO L "mean" "MachineLine.mean" My.qMean (My.mth 19) ["self","room"] 324 ?zza ?zzi ?zzl ?zzc ?zzk (λ_ _ _ _ _ _=>My.by2 λ_ _=>rfl) ?zzhc (by simp[My.d4]) (λL_mean Lk_mean=>?_)
  (case zza=>k_is);(case zzi=>k_is);(case zzl=>k_is);(case zzc=>k_is);(case zzk=>k_is)
  (case zzhc=>kernel_rfl)
  refine' My.jO L "full" "MachineLine.full" My.mz (My.mth 20) ["self","room"] 331 ?zza ?zzi ?zzl ?zzc ?zzk (λ_ _ _ _ _ _=>My.by2 λ_ _=>rfl) ?zzhc (by simp[My.d4]) (λL_full Lk_full=>?_)
  (case zza=>k_is);(case zzi=>k_is);(case zzl=>k_is);(case zzc=>k_is);(case zzk=>k_is)
  (case zzhc=>kernel_rfl)
  refine' My.jO L "long" "MachineLine.long" My.qLong (My.mth 21) ["self","wanted"] 338 ?zza ?zzi ?zzl ?zzc ?zzk (λ_ _ _ _ _ _=>My.by2 λ_ _=>rfl) ?zzhc (by simp[My.d4]) (λL_long Lk_long=>?_)
  (case zza=>k_is);(case zzi=>k_is);(case zzl=>k_is);(case zzc=>k_is);(case zzk=>k_is)
  (case zzhc=>kernel_rfl)
  refine' My.cb L "both_outs" "MachineLine.both_outs" (My.mth 22) ["self","chances","holds"] ?zza ?zzi ?zzl ?zzc ?zzk (λ_ _ _ _ _ _=>My.by3 λ_ _ _=>rfl) (λL_both_outs=>?_)
  (case zza=>k_is);(case zzi=>k_is);(case zzl=>k_is);(case zzc=>k_is);(case zzk=>k_is)
  refine' My.cb L "turned" "MachineLine.turned" (My.mth 23) ["self"] ?zza ?zzi ?zzl ?zzc ?zzk (λ_ _ _ _ _ _=>My.by1 λ_=>rfl) (λL_turned=>?_)
  (case zza=>k_is);(case zzi=>k_is);(case zzl=>k_is);(case zzc=>k_is);(case zzk=>k_is)
  refine' My.cb L "better" "MachineLine.better" (My.mth 24) ["self","machine"] ?zza ?zzi ?zzl ?zzc ?zzk (λ_ _ _ _ _ _=>My.by2 λ_ _=>rfl) (λL_better=>?_)
  (case zza=>k_is);(case zzi=>k_is);(case zzl=>k_is);(case zzc=>k_is);(case zzk=>k_is)
  refine' My.cb L "more" "MachineLine.more" (My.mth 25) ["self","room"] ?zza ?zzi ?zzl ?zzc ?zzk (λ_ _ _ _ _ _=>My.by2 λ_ _=>rfl) (λL_more=>?_)
  (case zza=>k_is);(case zzi=>k_is);(case zzl=>k_is);(case zzc=>k_is);(case zzk=>k_is)
  refine' My.m9 "BUILDING_CALLS" My.nmB KX G ?zza (by decide) ?zze (λT_BUILDING_CALLS=>?_)
  (case zza=>k_is);(case zze=>kernel_rfl)
  refine' My.m9 "HOUR_CALLS" My.nmH KX G ?zza (by decide) ?zze (λT_HOUR_CALLS=>?_)
  (case zza=>k_is);(case zze=>kernel_rfl)
  refine' My.m9 "LONG_RUN_CALLS" My.nmL KX G ?zza (by decide) ?zze (λT_LONG_RUN_CALLS=>?_)
  (case zza=>k_is);(case zze=>kernel_rfl)
  refine' My.w_forms KX G ?zza ?zze (λT_FORMS=>?_)
  (case zza=>k_is);(case zze=>kernel_rfl)
  refine' My.w_top "answers" (My.top 53) ["calls"] KX G hmg ?zza ?zzl ?zzc ?zzk (λ_ _ _ _ _ _=>My.by1 λ_=>rfl) (λfd F hbd=>?_)
  (case zza=>k_is);(case zzl=>k_is);(case zzc=>k_is);(case zzk=>k_is)
  have X1:My.Txt _ mg:=⟨D_product,D_hour_cases,D_every_choice,D_likely_hours,D_who_works,D_has_piece,D_weight_of,D_solution,D_triangle,D_cleared,D_balance_rows,D_move_weights,D_filling_after,D_lowest,D_common_measure,h_len,h_range,h_zip,h_enumerate,h_tuple,h_list,h_sum,h_max,h_any,h_reversed⟩
  have X2:My.dF _ mg:=⟨X1,D_is_chance,D_is_room,D_too_many_fillings,D_changed_at,N_MOST_CHANCE,N_MOST_HELD,N_MOST_MACHINES,N_MOST_FILLINGS,N_MOST_HOURS,N_NONE_SUCH,N_ONLY_ONE,N_NOT_BEGUN,N_SO_ALREADY,N_OUT_OF_RANGE,N_TOO_MANY⟩
  have RC:My.cH _ mg My.d4 _:=⟨⟨_,⟨R,nR_cases,nR_fillings,nR_hours,nR_shares,Rm⟩,R_I,R_Mk⟩,R_looked_for,R_how_often,R_how_often_out,Rk_how_often,Rk_how_often_out,My.func_tabs,L_run_of,L_long_run⟩
  have HD:My.lN _ mg:=⟨D_likely_hours,D_every_choice,D_who_works,D_has_piece,D_weight_of,D_product,D_filling_after,h_len,h_range,h_zip,h_tuple⟩
  have SD:My.jn _ mg:=⟨HD,D_moves_from,D_weights_after,D_hour_cases,D_lowest,D_common_measure,h_sum⟩
  have M:My.AllM _ mg My.d4 _:=⟨⟨L,nL_chances,nL_holds,nL_filling,nL_known_runs,Lm⟩,X2,RC,SD,D_pieces_soon,L_I,L_Mk,L_is_begun,L_begin,L_machine,L_drop,L_chance,L_room,L_turn,L_state,L_hour,L_empty,L_now,L_soon,L_out,L_rate,L_starved,L_blocked,L_mean,L_full,L_long,L_both_outs,L_turned,L_better,L_more,Lk_rate,Lk_starved,Lk_blocked,Lk_mean,Lk_full,Lk_long⟩
  exact⟨fd,hbd,λbase _ _ hB=>My.ok_all F M ⟨D_answer_of_building,D_answer_of_hours,D_answer_of_long_run,D_answer_of_change,T_BUILDING_CALLS,T_HOUR_CALLS,T_LONG_RUN_CALLS⟩ hB D_answer D_split_calls T_FORMS⟩
 case caS =>
  intro K H H0 xs a hO hm hwi hask hx;cases hx with
  |cons h1 h2 =>
   cases h2;cases h1 with
   |lst hs ha =>
    have e:=L2.ints_dw a.1 _ ha;subst e;exact⟨_,a.1,rfl,My.sqL_more hm hs,hask,My.tabs0 hO,λH' q _ _ hq=>.lst (L2.SqL.of hq) (L2.dw_ints _)⟩
