import Derived.Maps.OwnSet
import Derived.Maps.OwnRows
import Derived.Test.YtdpoaadafcaffaaGreatDoorG9
import Derived.Test.YtdpoaadafcaffaaGreatDoorZ43
set_option linter.unusedVariables false
set_option maxRecDepth 100000
namespace Go.Proofs.YtdpoaadafcaffaaGreatDoor
open Proofs.Tryz
open Go.RowKit Go.Maps
open M (Ta)
def Z8 (v:Value):Option (DataW Value×List MemPlace):=some (.held v,[])
def kS (s:ByteArray):Lit:=.string s.data.toList
def eS (p:ByteArray×Value):Lit×DataW Value:=(kS p.1,.held p.2)
def mapD (l:List (ByteArray×Value)):DataW Value:=.map (l.map eS)
def SE (a b:ByteArray):Bool:=bytesBefore a.data.toList b.data.toList
def Mf (x:ByteArray×Value):List (ByteArray×Value)->List (ByteArray×Value)
 | []=>[x]
 | y::r=>if SE x.1 y.1 then x::y::r else y::Mf x r
def Asc (l:List (ByteArray×Value)):Prop:=l.Pairwise fun p q=>SE p.1 q.1=true
def U9 (l:List (ByteArray×Value)) (k:ByteArray):Option Value:=(l.find? fun p=>decide (p.1=k)).map (·.2)
theorem Wu {a b:ByteArray} (h:a.data.toList=b.data.toList):a=b:=by
 apply ByteArray.ext;exact Array.toList_inj.1 h
theorem Bo (a b:ByteArray):(kS a).sameKey (kS b)=decide (a=b):=by
 show (a.data.toList==b.data.toList)=decide (a=b);by_cases h:a=b
 · simp [h]
 rw [decide_eq_false h];exact beq_eq_false_iff_ne.2 (fun e=>h (Wu e))
theorem Nv (l:List (ByteArray×Value)) (k:ByteArray) (z:DataW Value):(mapD l).atKey (kS k) z=match U9 l k with | some v=>.held v | none=>z:=by
 unfold mapD DataW.atKey U9;simp only [List.find?_map];have e:((fun p:Lit×DataW Value=>p.1.sameKey (kS k))∘eS)=fun p=>decide (p.1=k):=funext fun p=>Bo p.1 k;rw [e];cases List.find? (fun p:ByteArray×Value=>decide (p.1=k)) l <;> rfl
theorem yB (l:List (ByteArray×Value)) (k:ByteArray):has (mapD l) (kS k)=(U9 l k).isSome:=by
 show (l.map eS).any (fun p=>p.1.sameKey (kS k))=_;rw [List.any_map];have e:((fun p:Lit×DataW Value=>p.1.sameKey (kS k))∘eS)=fun p=>decide (p.1=k):=funext fun p=>Bo p.1 k;rw [e];unfold U9;rw [Option.isSome_map,Bool.eq_iff_iff];simp
theorem Uw (l:List (ByteArray×Value)):size (mapD l)=l.length:=by
 show (l.map eS).length=_;simp
theorem oC (x:ByteArray×Value) (l:List (ByteArray×Value)):(Mf x l).map eS=DataW.insert (eS x) (l.map eS):=by
 induction l with
 | nil=>rfl
 | cons y r ih=>
  unfold Mf;show _=if (kS x.1).before (kS y.1)=true then _ else _;show List.map eS (if bytesBefore x.1.data.toList y.1.data.toList=true then _ else _)=if bytesBefore x.1.data.toList y.1.data.toList=true then _ else _;split
  · rfl
  simp [ih]
theorem Pn {l:List (ByteArray×Value)} {k:ByteArray}:U9 l k=none↔∀ p∈l,p.1≠k:=by
 unfold U9;simp
theorem zn (x:ByteArray×Value) (l:List (ByteArray×Value)):(Mf x l).Perm (x::l):=by
 induction l with
 | nil=>exact List.Perm.refl _
 | cons y r ih=>
  unfold Mf;split
  · exact List.Perm.refl _
  exact (ih.cons y).trans (List.Perm.swap x y r)
theorem dw (a:ByteArray):SE a a=false:=WideAt.bytes_irrefl _
theorem GG {a b c:ByteArray} (h:SE a b=true) (h':SE b c=true):SE a c=true:=WideShapes.bytes_trans _ _ _ h h'
theorem FD {a b:ByteArray} (h:a≠b):SE a b=true\/SE b a=true:=WideAt.bytes_total _ _ (fun e=>h (Wu e))
theorem BB {x:ByteArray×Value} {l:List (ByteArray×Value)} (h:Asc l) (hx:∀ p∈l,p.1≠x.1):Asc (Mf x l):=by
 induction l with
 | nil=>exact List.pairwise_singleton _ _
 | cons y r ih=>
  have h':=List.pairwise_cons.1 h;unfold Mf;split
  · rename_i hb
    exact List.pairwise_cons.2 ⟨fun p hp=>by
     rcases List.mem_cons.1 hp with rfl | hp
     · exact hb
     exact GG hb (h'.1 p hp),h⟩
  rename_i hb;have hyx:=(FD (hx y (List.mem_cons_self ..))).elim id (fun e=>absurd e hb);refine List.pairwise_cons.2 ⟨fun p hp=>?_,ih h'.2 (fun p hp=>hx p (List.mem_cons_of_mem _ hp))⟩;rcases List.mem_cons.1 ((zn x r).mem_iff.1 hp) with rfl | hp
  · exact hyx
  exact h'.1 p hp
theorem RA {l:List (ByteArray×Value)} {k:ByteArray} {v:Value} (h:U9 l k=some v):(k,v)∈l:=by
 unfold U9 at h;obtain ⟨p,hp,rfl⟩:=Option.map_eq_some_iff.1 h;have h1:=List.mem_of_find?_eq_some hp;have h2:=List.find?_some hp;simp at h2;rw [<- h2];exact h1
theorem Pm {l:List (ByteArray×Value)} (h:Asc l) {k:ByteArray} {v:Value} (hm:(k,v)∈l):U9 l k=some v:=by
 induction l with
 | nil=>cases hm
 | cons y r ih=>
  have h':=List.pairwise_cons.1 h;rcases List.mem_cons.1 hm with rfl | hm
  · simp [U9]
  have hne:y.1≠k:=fun e=>by
   have:=h'.1 _ hm;rw [e] at this;simp only [dw] at this;cases this
  have hr:=ih h'.2 hm;unfold U9 at hr ⊢;rw [List.find?_cons_of_neg (by simpa using hne)];exact hr
theorem SF:Keyed prog 9:=string_keyed underlying9
theorem ZF {k:ByteArray} (h:k.size<=maxLen):keyOf prog 9 (.string k)=some (kS k):=Go.WideMaps.keyOf_string_mk underlying9 h
theorem TA {w:World} {k:TypeId} {R:Value->Option (DataW Value×List MemPlace)} {b n:Nat} {D:DataW Value} (h:w.ownsMap prog k R b n D):w.ownsMap prog k R b (size D) D:=by
 obtain ⟨es,clock,hb,F,hs,hD⟩:=h;refine ⟨es,clock,hb,F,?_,hD⟩;rw [hD,size_eq,length_sorted];simp
theorem U5 {w w':World} {k:TypeId} {R:Value->Option (DataW Value×List MemPlace)} {b n N:Nat} {D:DataW Value} (h:w.ownsMap prog k R b n D) (hb:Below N w w') (hN:b<N):w'.ownsMap prog k R b n D:=by
 obtain ⟨es,clock,hh,r⟩:=h;exact ⟨es,clock,(hb.block b hN).trans hh,r⟩
theorem Ee {w:World} {k:TypeId} {R:Value->Option (DataW Value×List MemPlace)} {b n:Nat} {D:DataW Value} (h:w.ownsMap prog k R b n D):∃ es clock,w.heap[b]?=some (.map es clock):=by
 obtain ⟨es,clock,hh,r⟩:=h;exact ⟨es,clock,hh⟩
theorem Vv {v:Value} {d:DataW Value} {ps:List MemPlace} (h:Z8 v=some (d,ps)):d=.held v:=by
 unfold Z8 at h;simp only [Option.some.injEq,Prod.mk.injEq] at h;exact h.1.symm
theorem Yw {w:World} {b n:Nat} {l:List (ByteArray×Value)} {t e:TypeId} {z:Value} {k:ByteArray} (h:w.ownsMap prog 9 Z8 b n (mapD l)) (ht:prog.underlying t=some (.map 9 e)) (hz:(zeroValue e).run prog w=.ok z w) (hk:k.size<=maxLen):
 (Instr.lookup t (.map (some b)) (.string k) true).run prog w=.ok (.tuple #[(U9 l k).getD z,.bool (U9 l k).isSome]) w:=by
 obtain ⟨v,ps,hr,hv⟩:=h.look_ok SF ht hz (zd:=.held z) (zp:=[]) rfl (ZF hk);have hd:=Vv hv;rw [Nv] at hd;rw [yB] at hr;rw [hr]
 cases hg:U9 l k with
 | none=>rw [hg] at hd;simp at hd;rw [hd];rfl
 | some u=>rw [hg] at hd;simp at hd;rw [hd];rfl
theorem rG {w:World} {b n:Nat} {l:List (ByteArray×Value)} {t e:TypeId} {z:Value} {k:ByteArray} (h:w.ownsMap prog 9 Z8 b n (mapD l)) (ht:prog.underlying t=some (.map 9 e)) (hz:(zeroValue e).run prog w=.ok z w) (hk:k.size<=maxLen):
 (Instr.lookup t (.map (some b)) (.string k) false).run prog w=.ok ((U9 l k).getD z) w:=by
 obtain ⟨v,ps,hr,hv⟩:=h.lookup SF ht hz (zd:=.held z) (zp:=[]) rfl (ZF hk);have hd:=Vv hv;rw [Nv] at hd;rw [hr]
 cases hg:U9 l k with
 | none=>rw [hg] at hd;simp at hd;rw [hd];rfl
 | some u=>rw [hg] at hd;simp at hd;rw [hd];rfl
theorem NJ {w:World} {b n:Nat} {l:List (ByteArray×Value)} {t e:TypeId} {v:Value} {k:ByteArray} (h:w.ownsMap prog 9 Z8 b n (mapD l)) (ht:prog.underlying t=some (.map 9 e)) (hn:n<maxLen) (hk:k.size<=maxLen):
 ∃ w',(Instr.mapUpdate t (.map (some b)) (.string k) v).run prog w=.ok () w'/\w'.ownsMap prog 9 Z8 b (n+1) ((mapD l).put (kS k) (.held v))/\w.grownBy w' (some b):=
 h.update SF ht hn (ZF hk) (d:=.held v) (ps:=[]) rfl
theorem Et {ops:Array Oper} {o:Oper} {a:Act} {w:World} {K:Act->World->Prop} {Q:Exit->Act->World->Prop} {E:Prop} (hg:o.guard=none) (t:TypeId) (m x v:Operand) (ho:o.op=Op.mapUpdate t m x v) {b n:Nat} {l:List (ByteArray×Value)} {k:ByteArray} {e:TypeId} {vv:Value}
 (hm:a.eval m=.map (some b)) (hx:a.eval x=.string k) (hv:a.eval v=vv) (h:w.ownsMap prog 9 Z8 b n (mapD l)) (ht:prog.underlying t=some (.map 9 e)) (hn:n<maxLen) (hk:k.size<=maxLen) (hdst:o.dst=none)
 (hK:∀ w',w'.ownsMap prog 9 Z8 b (n+1) ((mapD l).put (kS k) (.held vv))->w.grownBy w' (some b)->K a w'):
 if Region.wanted o (yielded ops a.tmps)=true then Oper.wp prog o a w K Q else E:=by
 have hw:Region.wanted o (yielded ops a.tmps)=true:=by simp [Region.wanted,hg]
 rw [if_pos hw];obtain ⟨w',hr,h1,h2⟩:=NJ (v:=vv) h ht hn hk;have h3:=hK w' h1 h2;unfold Oper.wp;simp [execOp,ho,hm,hx,hv,hr,Result.andThen]
 first
  | exact h3
  | (simp only [Oper.upon];exact h3)
  | (simp only [Oper.upon,hdst];exact h3)
  | (simp only [Act.put,hdst];exact h3)
def QI (w:World) (b:Nat) (t:TypeId):Prop:=∃ cur fr,w.heap[b]?=some (.cells cur t fr)
theorem QI.below {w w':World} {b N:Nat} {t:TypeId} (h:QI w b t) (hb:Below N w w') (hN:b<N):QI w' b t:=by
 obtain ⟨cur,fr,h⟩:=h;exact ⟨cur,fr,(hb.block b hN).trans h⟩
theorem Cf {w:World} {H b:Nat} {v:Value} (h:w.cell? ⟨H,0,none⟩=some v) {es:Array MapEntry} {c:Nat} (hm:w.heap[b]?=some (.map es c)):H≠b:=fun e=>by
 subst e;simp [World.cell?,hm] at h
theorem Es {l:List (ByteArray×Value)} (ha:Asc l) (k:ByteArray) (v:Value):Asc (Mf (k,v) (l.filter fun p=>!decide (p.1=k)))/\∀ k',U9 (Mf (k,v) (l.filter fun p=>!decide (p.1=k))) k'=if k'=k then some v else U9 l k':=by
 have hf:Asc (l.filter fun p=>!decide (p.1=k)):=ha.filter _;have hA:Asc (Mf (k,v) (l.filter fun p=>!decide (p.1=k))):=BB hf (fun p hp=>by have:=(List.mem_filter.1 hp).2;simpa using this);refine ⟨hA,fun k'=>?_⟩;have hmem:∀ p,p∈Mf (k,v) (l.filter fun p=>!decide (p.1=k))↔p=(k,v)\/(p∈l/\p.1≠k):=fun p=>by
  rw [(zn _ _).mem_iff,List.mem_cons,List.mem_filter];simp
 by_cases h:k'=k
 · subst h
   rw [if_pos rfl];exact Pm hA ((hmem _).2 (.inl rfl))
 rw [if_neg h]
 cases hq:U9 l k' with
 | none=>
  exact Pn.2 (fun p hp=>by
   rcases (hmem p).1 hp with rfl | ⟨hp,_⟩
   · exact fun e=>h e.symm
   exact Pn.1 hq p hp)
 | some u=>exact Pm hA ((hmem _).2 (.inr ⟨RA hq,h⟩))
theorem Sw (l:List (ByteArray×Value)) (k:ByteArray) (v:Value):(mapD l).put (kS k) (.held v)=mapD (Mf (k,v) (l.filter fun p=>!decide (p.1=k))):=by
 show DataW.map (DataW.insert (eS (k,v)) ((l.map eS).filter fun p=>!p.1.sameKey (kS k)))=DataW.map ((Mf (k,v) _).map eS);rw [oC,List.filter_map]
 congr 2
 congr 1
 apply List.filter_congr;intro p _;show (!(kS p.1).sameKey (kS k))=_;rw [Bo]
open Go.RowKit
open G (Q6)
open G.T (F2 L6 Y3 U3)
inductive Ow where
 | kb | mr | mw | pl | rd
 | run (i:Nat)
 | wt (i:Nat)
structure Rk where
 m:M3
 B:Nat
 c5:Nat
 ML:Nat
 FM:Nat
 c2:Nat
 fM:Nat
 b0:Nat
 b1:Nat
 b2:Nat
 b3:Nat
def pt (b:Nat):Value:=.pointer (some ⟨b,0,none⟩)
def Rk.go (x:Rk):Value:=.func (.func 78) #[] #[pt x.c5,pt x.ML,pt x.FM,pt x.c2,pt x.fM]
def Rk.be (x:Rk):Value:=.func (.func 81) #[] #[pt x.c2,pt x.c5,pt x.ML,pt x.fM]
def Rk.nx (x:Rk):Value:=.func (.func 51) #[] #[pt x.b0,pt x.b1,pt x.b2,pt x.b3]
def Og:Rk:=⟨X6,0,0,0,0,0,0,0,0,0,0⟩
inductive oL where
 | act | iM | fin
 | VL (j:Nat)
 deriving DecidableEq
structure Ru where
 k:Rk
 ls:List M.L4
 lv:Value
 v1:Value
 v2:Value
 wv:Value
 st:Bool
 wt:ByteArray
 r:R2
 GL:oL
 wl:List Nat
def Ru.cells (x:Ru):List Value:=[.string x.k.m.nm,.bool true,.string x.k.m.nm,.string x.k.m.tl,.string x.k.m.ar,x.lv,.int .i64 x.r.code,.string x.r.tx,.string x.wt]
structure Ia (base kb:Nat) (x:Ru) (t:TN) (s:RS) (w:World):Prop where
 hB:Cl w x.k.B 96 x.cells
 h7:Cl w x.k.c5 93 [pt x.k.B]
 h8:Y7 w x.k.ML t
 h9:Cl w x.k.FM 64 [x.k.nx]
 h2:Cl w x.k.c2 55 [pt kb]
 h10:Cl w x.k.fM 145 [x.k.go]
 rw:S_ base x.k.b0 x.k.b1 x.k.b2 x.k.b3 w x.k.m.nm x.k.m.tl x.k.m.ar s x.v1 x.v2
 lk:w.ownsRow base 45 4 x.lv x.ls.length (I4 x.ls)
def zq (x:Ru) (k:Nat):Prop:=k∈[x.k.B,x.k.c5,x.k.ML,x.k.FM,x.k.c2,x.k.fM,x.k.b0,x.k.b1,x.k.b2,x.k.b3]\/x.lv.ownBlock=some k\/x.v1.ownBlock=some k\/x.v2.ownBlock=some k
theorem F_ {w:World} {base:Nat} {e:TypeId} {size:Nat} {v:Value} {n:Nat} {xs:List Value} (h:w.ownsRow base e size v n xs) {k:Nat} (hk:v.ownBlock=some k):k<w.heap.size:=(h.lt k hk).2
theorem Y7.lt {u:World} {B:Nat} {t:TN} (h:Y7 u B t):B<u.heap.size:=(Array.getElem?_eq_some_iff.1 h).1
theorem Ia.lt {base kb:Nat} {x:Ru} {t:TN} {s:RS} {w:World} (h:Ia base kb x t s w) {k:Nat} (hk:zq x k):k<w.heap.size:=by
 rcases hk with hk | hk | hk | hk
 · simp only [List.mem_cons,List.not_mem_nil,or_false] at hk
   rcases hk with rfl | rfl | rfl | rfl | rfl | rfl | rfl | rfl | rfl | rfl
   · exact h.hB.lt
   · exact h.h7.lt
   · exact h.h8.lt
   · exact h.h9.lt
   · exact h.h2.lt
   · exact h.h10.lt
   · exact F4 h.rw.h0
   · exact F4 h.rw.h1
   · exact F4 h.rw.h2
   exact F4 h.rw.h3
 · exact F_ h.lk hk
 · exact F_ h.rw.o1 hk
 exact F_ h.rw.o2 hk
theorem Ia.keep {base kb:Nat} {x:Ru} {t:TN} {s:RS} {w w':World} (h:Ia base kb x t s w) (hk:∀ k,zq x k->w'.heap[k]?=w.heap[k]?):Ia base kb x t s w':=by
 have m:∀ k,k∈[x.k.B,x.k.c5,x.k.ML,x.k.FM,x.k.c2,x.k.fM,x.k.b0,x.k.b1,x.k.b2,x.k.b3]->w'.heap[k]?=w.heap[k]?:=fun k hm=>hk k (.inl hm);refine ⟨(m _ U0).trans h.hB,(m _ U0).trans h.h7,(m _ U0).trans h.h8,(m _ U0).trans h.h9,(m _ U0).trans h.h2,(m _ U0).trans h.h10,⟨h.rw.PQ,h.rw.VN,h.rw.QQ,h.rw.aS,(m _ U0).trans h.rw.h0,(m _ U0).trans h.rw.h1,(m _ U0).trans h.rw.h2,(m _ U0).trans h.rw.h3,?_,?_⟩,?_⟩
 · exact Y0 h.rw.o1 fun k e=>hk k (.inr (.inr (.inl e)))
 · exact Y0 h.rw.o2 fun k e=>hk k (.inr (.inr (.inr e)))
 exact Y0 h.lk fun k e=>hk k (.inr (.inl e))
inductive It where
 | go (i:Nat)
 | re (i:Nat) (r:R2) (b7 b5:Nat)
def It.i:It->Nat
 | .go i=>i
 | .re i _ _ _=>i
def It.v (ks:List Rk):It->Value
 | .go i=>(ks.getD i Og).be
 | .re _ _ b7 b5=>.func (.func 117) #[] #[pt b7,pt b5]
def It.At (ks:List Rk) (w:World):It->Prop
 | .go _=>True
 | .re i r b7 b5=>Cl w b7 145 [(ks.getD i Og).go]/\Cl w b5 31 [.int .i64 r.code,.string r.tx]
def It.own (ow:Nat->Option Ow):It->Prop
 | .go _=>True
 | .re _ _ b7 b5=>ow b7=none/\ow b5=none
structure Gh where
 rs:List Ru
 q:List It
 rv:Value
 ow:Nat->Option Ow
 lr:List (ByteArray×Value)
 lw:List (ByteArray×Value)
structure Fx where
 w0:World
 kb:Nat
 mr:Nat
 mw:Nat
 ta:Option Addr
 tc:Nat
 fs:List F2
 pv:Value
 ms:List M3
def Fx.base (f:Fx):Nat:=f.w0.heap.size
def Gh.ks (g:Gh):List Rk:=g.rs.map (·.k)
def b_ (f:Fx) (rv:Value):List Value:=[.slice f.ta f.fs.length f.tc,f.pv,.map (some f.mr),.map (some f.mw),rv]
structure U_ (f:Fx) (g:Gh) (w:World):Prop where
 bl:Below f.base f.w0 w
 rM:∀ k o,g.ow k=some o->f.base<=k
 kb:Cl w f.kb 90 (b_ f g.rv)
 jM:g.ow f.kb=some .kb
 mr:w.ownsMap prog 9 Z8 f.mr g.lr.length (mapD g.lr)
 ar:Asc g.lr
 YM:g.ow f.mr=some .mr
 mw:w.ownsMap prog 9 Z8 f.mw g.lw.length (mapD g.lw)
 aw:Asc g.lw
 nN:g.ow f.mw=some .mw
 pl:w.ownsRow f.base 35 3 f.pv f.ms.length (G.F5 f.ms)
 BN:∀ k,f.pv.ownBlock=some k->g.ow k=some .pl
 rd:V7 w f.base 1 g.rv (g.q.map (It.v g.ks))
 ord:∀ k,g.rv.ownBlock=some k->g.ow k=some .rd
 its:∀ it∈g.q,it.At g.ks w/\it.own g.ow
 ru:∀ (i:Nat) x,g.rs[i]?=some x->Ia f.base f.kb x (tn x.k.m x.ls) (Xc x.k.m x.ls) w
 kM:∀ (i:Nat) x,g.rs[i]?=some x->∀ k,zq x k->g.ow k=some (.run i)
 wr:∀ (i:Nat) x,g.rs[i]?=some x->w.ownsRow f.base 145 1 x.wv x.wl.length (x.wl.map fun j=>(g.ks.getD j Og).go)
 oN:∀ (i:Nat) x,g.rs[i]?=some x->∀ k,x.wv.ownBlock=some k->g.ow k=some (.wt i)
 DN:∀ (i:Nat) x,g.rs[i]?=some x->∀ j∈x.wl,j<g.rs.length
 key:∀ (i:Nat) x,g.rs[i]?=some x->U9 g.lr x.k.m.nm=some (pt x.k.B)
 only:∀ n,U9 g.lr n≠none->∃ (i:Nat) (x:Ru),g.rs[i]?=some x/\x.k.m.nm=n
 kw:∀ (i:Nat) x,g.rs[i]?=some x->(U9 g.lw x.k.m.nm).getD (.slice none 0 0)=x.wv
 oO:∀ n,U9 g.lw n≠none->∃ (i:Nat) (x:Ru),g.rs[i]?=some x/\x.k.m.nm=n
 inj:∀ (i j:Nat) x y,g.rs[i]?=some x->g.rs[j]?=some y->x.k.m.nm=y.k.m.nm->i=j
 TM:∀ it∈g.q,it.i<g.rs.length
theorem Xa {w w':World} {b n:Nat} {D:DataW Value} (h:w.ownsMap prog 9 Z8 b n D) (hk:w'.heap[b]?=w.heap[b]?):w'.ownsMap prog 9 Z8 b n D:=by
 obtain ⟨es,clock,hh,r⟩:=h;exact ⟨es,clock,hk.trans hh,r⟩
theorem I6 {w:World} {b n:Nat} {D:DataW Value} (h:w.ownsMap prog 9 Z8 b n D):b<w.heap.size:=by
 obtain ⟨es,clock,hh,r⟩:=h;exact (Array.getElem?_eq_some_iff.1 hh).1
theorem U_.jF {f:Fx} {g:Gh} {w:World} (h:U_ f g w) (bO:Nat->Option Ow) (ho:∀ k,k<w.heap.size->bO k=g.ow k) (hge:∀ k o,bO k=some o->f.base<=k):U_ f { g with ow:=bO } w where
 bl:=h.bl
 rM:=hge
 kb:=h.kb
 jM:=(ho _ h.kb.lt).trans h.jM
 mr:=h.mr
 ar:=h.ar
 YM:=(ho _ (I6 h.mr)).trans h.YM
 mw:=h.mw
 aw:=h.aw
 nN:=(ho _ (I6 h.mw)).trans h.nN
 pl:=h.pl
 BN:=fun k e=>(ho _ (F_ h.pl e)).trans (h.BN k e)
 rd:=h.rd
 ord:=fun k e=>(ho _ (by obtain ⟨_,cur,hc⟩:=h.rd.lt e;exact (Array.getElem?_eq_some_iff.1 hc).1)).trans (h.ord k e)
 its:=fun it hi=>by
  obtain ⟨h1,h2⟩:=h.its it hi;refine ⟨h1,?_⟩
  cases it with
  | go i=>trivial
  | re i r b7 b5=>exact ⟨(ho _ h1.1.lt).trans h2.1,(ho _ h1.2.lt).trans h2.2⟩
 ru:=h.ru
 kM:=fun i x e k hk=>(ho _ ((h.ru i x e).lt hk)).trans (h.kM i x e k hk)
 wr:=h.wr
 oN:=fun i x e k hk=>(ho _ (F_ (h.wr i x e) hk)).trans (h.oN i x e k hk)
 DN:=h.DN
 key:=h.key
 only:=h.only
 kw:=h.kw
 oO:=h.oO
 inj:=h.inj
 TM:=h.TM
def ext (ow:Nat->Option Ow) (n:Nat) (o:Ow) (k:Nat):Option Ow:=if k<n then ow k else some o
theorem J7 {ow:Nat->Option Ow} {n:Nat} {o:Ow} {k:Nat} (h:k<n):ext ow n o k=ow k:=if_pos h
theorem mh {ow:Nat->Option Ow} {n:Nat} {o:Ow} {k:Nat} (h:n<=k):ext ow n o k=some o:=if_neg O0
theorem U_.sz {f:Fx} {g:Gh} {w:World} (h:U_ f g w):f.base<=w.heap.size:=h.bl.size
theorem U_.ext {f:Fx} {g:Gh} {w:World} (h:U_ f g w) (n:Nat) (hn:w.heap.size<=n) (o:Ow):U_ f { g with ow:=ext g.ow n o } w:=
 h.jF _ (fun k hk=>J7 O0) (fun k o' e=>by
  rcases Nat.lt_or_ge k n with h1 | h1
  · rw [J7 h1] at e;exact h.rM k o' e
  have:=h.sz;omega)
theorem U_.grow {f:Fx} {g:Gh} {w w':World} (h:U_ f g w) (hb:Below w.heap.size w w'):U_ f g w' where
 bl:=h.bl.trans (hb.mono h.sz)
 rM:=h.rM
 kb:=h.kb.below hb h.kb.lt
 jM:=h.jM
 mr:=Xa h.mr (hb.block _ (I6 h.mr))
 ar:=h.ar
 YM:=h.YM
 mw:=Xa h.mw (hb.block _ (I6 h.mw))
 aw:=h.aw
 nN:=h.nN
 pl:=Y0 h.pl fun k e=>hb.block k (F_ h.pl e)
 BN:=h.BN
 rd:=h.rd.keep fun k e hl=>hb.block k hl
 ord:=h.ord
 its:=fun it hi=>by
  obtain ⟨h1,h2⟩:=h.its it hi;refine ⟨?_,h2⟩
  cases it with
  | go i=>trivial
  | re i r b7 b5=>exact ⟨h1.1.below hb h1.1.lt,h1.2.below hb h1.2.lt⟩
 ru:=fun i x e=>(h.ru i x e).keep fun k hk=>hb.block k ((h.ru i x e).lt hk)
 kM:=h.kM
 wr:=fun i x e=>Y0 (h.wr i x e) fun k hk=>hb.block k (F_ (h.wr i x e) hk)
 oN:=h.oN
 DN:=h.DN
 key:=h.key
 only:=h.only
 kw:=h.kw
 oO:=h.oO
 inj:=h.inj
 TM:=h.TM
theorem Gp {l:List Ru} {i:Nat} {x x':Ru} (h:l[i]?=some x) (e:x'.k=x.k):(l.set i x').map (·.k)=l.map (·.k):=by
 apply List.ext_getElem?;intro j;rw [List.getElem?_map,List.getElem?_map,List.getElem?_set];by_cases hj:i=j
 · subst hj
   have hl:=(List.getElem?_eq_some_iff.1 h).1;rw [if_pos rfl,if_pos hl,h];simp [e]
 rw [if_neg hj]
theorem Ad {l:List Ru} {i j:Nat} {x' y:Ru} (h:(l.set i x')[j]?=some y):(i=j/\y=x')\/(i≠j/\l[j]?=some y):=by
 rw [List.getElem?_set] at h;by_cases hj:i=j
 · rw [if_pos hj] at h
   split at h
   · exact .inl ⟨hj,(Option.some.inj h).symm⟩
   cases h
 rw [if_neg hj] at h;exact .inr ⟨hj,h⟩
theorem Df {l:List Ru} {i:Nat} {x x':Ru} (h:l[i]?=some x):(l.set i x')[i]?=some x':=by
 rw [List.getElem?_set_self ((List.getElem?_eq_some_iff.1 h).1)]
theorem P_ {l:List Ru} {i j:Nat} {x x' y:Ru} (h:l[i]?=some x) (hy:l[j]?=some y):∃ z,(l.set i x')[j]?=some z/\(z=x'/\i=j\/z=y/\i≠j):=by
 by_cases hj:i=j
 · subst hj;exact ⟨x',Df h,.inl ⟨rfl,rfl⟩⟩
 exact ⟨y,by rw [List.getElem?_set_ne hj];exact hy,.inr ⟨rfl,hj⟩⟩
theorem Ex.Ap {S:Nat->Prop} {w w':World} {N:Nat} (h:Ex S w w') (hS:∀ k,S k->N<=k) (hN:N<=w.heap.size):Below N w w':=
 ⟨h.os,h.tape,h.output,h.size,fun k hk=>h.block k O0 (fun e=>by have:=hS k e;omega)⟩
theorem U_.run {f:Fx} {g:Gh} {w w':World} (h:U_ f g w) {i:Nat} {x x':Ru} (hi:g.rs[i]?=some x) (hex:Ex (fun k=>g.ow k=some (.run i)) w w') (hr:Ia f.base f.kb x' (tn x'.k.m x'.ls) (Xc x'.k.m x'.ls) w') (ho:∀ k,zq x' k->g.ow k=some (.run i)) (e1:x'.k=x.k) (e2:x'.wv=x.wv) (e3:x'.wl=x.wl):U_ f { g with rs:=g.rs.set i x' } w':=by
 have hkeep:∀ k,k<w.heap.size->g.ow k≠some (.run i)->w'.heap[k]?=w.heap[k]?:=fun k hk hn=>hex.block k hk hn;have hks:(g.rs.set i x').map (·.k)=g.ks:=Gp hi e1;have hget:∀ (j:Nat) y,(g.rs.set i x')[j]?=some y->∃ z,g.rs[j]?=some z/\y.k=z.k/\y.wv=z.wv/\y.wl=z.wl:=fun j y e=>by
  rcases Ad e with ⟨rfl,rfl⟩ | ⟨_,e⟩
  · exact ⟨x,hi,e1,e2,e3⟩
  exact ⟨y,e,rfl,rfl,rfl⟩
 exact {
  bl:=h.bl.trans (hex.Ap (fun k e=>h.rM k _ e) h.sz)
  rM:=h.rM
  kb:=(hkeep _ h.kb.lt (by rw [h.jM];simp)).trans h.kb
  jM:=h.jM
  mr:=Xa h.mr (hkeep _ (I6 h.mr) (by rw [h.YM];simp))
  ar:=h.ar
  YM:=h.YM
  mw:=Xa h.mw (hkeep _ (I6 h.mw) (by rw [h.nN];simp))
  aw:=h.aw
  nN:=h.nN
  pl:=Y0 h.pl fun k e=>hkeep k (F_ h.pl e) (by rw [h.BN k e];simp)
  BN:=h.BN
  rd:=by
   show V7 w' f.base 1 g.rv (g.q.map (It.v ((g.rs.set i x').map (·.k))));rw [hks];exact h.rd.keep fun k e hl=>hkeep k hl (by rw [h.ord k e];simp)
  ord:=h.ord
  its:=fun it hq=>by
   obtain ⟨h1,h2⟩:=h.its it hq;refine ⟨?_,h2⟩;show it.At ((g.rs.set i x').map (·.k)) w';rw [hks]
   cases it with
   | go i=>trivial
   | re i r b7 b5=>exact ⟨(hkeep _ h1.1.lt (by rw [h2.1];simp)).trans h1.1,(hkeep _ h1.2.lt (by rw [h2.2];simp)).trans h1.2⟩
  ru:=fun j y e=>by
   rcases Ad e with ⟨rfl,rfl⟩ | ⟨hne,e⟩
   · exact hr
   exact (h.ru j y e).keep fun k hk=>hkeep k ((h.ru j y e).lt hk) (by rw [h.kM j y e k hk];simpa using fun c=>hne c.symm)
  kM:=fun j y e k hk=>by
   rcases Ad e with ⟨rfl,rfl⟩ | ⟨_,e⟩
   · exact ho k hk
   exact h.kM j y e k hk
  wr:=fun j y e=>by
   obtain ⟨z,hz,_,mZ,ez3⟩:=hget j y e;show w'.ownsRow f.base 145 1 y.wv y.wl.length (y.wl.map fun j=>(((g.rs.set i x').map (·.k)).getD j Og).go);rw [hks,mZ,ez3];exact Y0 (h.wr j z hz) fun k hk=>hkeep k (F_ (h.wr j z hz) hk) (by rw [h.oN j z hz k hk];simp)
  oN:=fun j y e k hk=>by
   obtain ⟨z,hz,_,mZ,ez3⟩:=hget j y e;rw [mZ] at hk;exact h.oN j z hz k hk
  DN:=fun j y e k hk=>by
   obtain ⟨z,hz,_,mZ,ez3⟩:=hget j y e;rw [ez3] at hk;show k<(g.rs.set i x').length;rw [List.length_set];exact h.DN j z hz k hk
  key:=fun j y e=>by
   obtain ⟨z,hz,eY,_⟩:=hget j y e;rw [eY];exact h.key j z hz
  only:=fun n hn=>by
   obtain ⟨j,z,hz,rfl⟩:=h.only n hn;obtain ⟨y,hy,⟨rfl,rfl⟩ | ⟨rfl,_⟩⟩:=P_ (x':=x') hi hz
   · rw [hi] at hz
     obtain rfl:=Option.some.inj hz;exact ⟨i,y,hy,by rw [e1]⟩
   exact ⟨j,y,hy,rfl⟩
  kw:=fun j y e=>by
   obtain ⟨z,hz,eY,mZ,_⟩:=hget j y e;rw [eY,mZ];exact h.kw j z hz
  oO:=fun n hn=>by
   obtain ⟨j,z,hz,rfl⟩:=h.oO n hn;obtain ⟨y,hy,⟨rfl,rfl⟩ | ⟨rfl,_⟩⟩:=P_ (x':=x') hi hz
   · rw [hi] at hz
     obtain rfl:=Option.some.inj hz;exact ⟨i,y,hy,by rw [e1]⟩
   exact ⟨j,y,hy,rfl⟩
  inj:=fun j j' y y' e e' hn=>by
   obtain ⟨z,hz,eY,_⟩:=hget j y e;obtain ⟨z',hz',gY,_⟩:=hget j' y' e';rw [eY,gY] at hn;exact h.inj j j' z z' hz hz' hn
  TM:=fun it hq=>by
   show it.i<(g.rs.set i x').length;rw [List.length_set];exact h.TM it hq }
theorem U_.vJ {f:Fx} {g:Gh} {w w':World} (h:U_ f g w) {rv':Value} {q':List It} (hex:Ex (fun k=>g.ow k=some .kb\/g.ow k=some .rd) w w') (hk:Cl w' f.kb 90 (b_ f rv')) (hr:V7 w' f.base 1 rv' (q'.map (It.v g.ks))) (ho:∀ k,rv'.ownBlock=some k->g.ow k=some .rd) (hi:∀ it∈q',it.At g.ks w'/\it.own g.ow) (hq:∀ it∈q',it.i<g.rs.length):U_ f { g with q:=q',rv:=rv' } w':=by
 have hkeep:∀ k,k<w.heap.size->¬ (g.ow k=some .kb\/g.ow k=some .rd)->w'.heap[k]?=w.heap[k]?:=fun k hk hn=>hex.block k hk hn;exact {
  bl:=h.bl.trans (hex.Ap (fun k e=>by rcases e with e | e <;> exact h.rM k _ e) h.sz)
  rM:=h.rM
  kb:=hk
  jM:=h.jM
  mr:=Xa h.mr (hkeep _ (I6 h.mr) (by rw [h.YM];simp))
  ar:=h.ar
  YM:=h.YM
  mw:=Xa h.mw (hkeep _ (I6 h.mw) (by rw [h.nN];simp))
  aw:=h.aw
  nN:=h.nN
  pl:=Y0 h.pl fun k e=>hkeep k (F_ h.pl e) (by rw [h.BN k e];simp)
  BN:=h.BN
  rd:=hr
  ord:=ho
  its:=hi
  ru:=fun j y e=>(h.ru j y e).keep fun k hk=>hkeep k ((h.ru j y e).lt hk) (by rw [h.kM j y e k hk];simp)
  kM:=h.kM
  wr:=fun j y e=>Y0 (h.wr j y e) fun k hk=>hkeep k (F_ (h.wr j y e) hk) (by rw [h.oN j y e k hk];simp)
  oN:=h.oN
  DN:=h.DN
  key:=h.key
  only:=h.only
  kw:=h.kw
  oO:=h.oO
  inj:=h.inj
  TM:=hq }
theorem U_.wait {f:Fx} {g:Gh} {w w':World} (h:U_ f g w) {j:Nat} {y:Ru} {wv':Value} {vP:List Nat} {lw':List (ByteArray×Value)} (hj:g.rs[j]?=some y) (hex:Ex (fun k=>g.ow k=some .mw\/g.ow k=some (.wt j)) w w') (hm:w'.ownsMap prog 9 Z8 f.mw lw'.length (mapD lw')) (ha:Asc lw') (yV:∀ n,U9 lw' n=if n=y.k.m.nm then some wv' else U9 g.lw n) (hr:w'.ownsRow f.base 145 1 wv' vP.length (vP.map fun j=>(g.ks.getD j Og).go)) (ho:∀ k,wv'.ownBlock=some k->g.ow k=some (.wt j)) (hl:∀ i∈vP,i<g.rs.length):U_ f { g with rs:=g.rs.set j { y with wv:=wv',wl:=vP },lw:=lw' } w':=by
 have hkeep:∀ k,k<w.heap.size->¬ (g.ow k=some .mw\/g.ow k=some (.wt j))->w'.heap[k]?=w.heap[k]?:=fun k hk hn=>hex.block k hk hn;have hks:(g.rs.set j { y with wv:=wv',wl:=vP }).map (·.k)=g.ks:=Gp hj rfl;have hget:∀ (i:Nat) z,(g.rs.set j { y with wv:=wv',wl:=vP })[i]?=some z->∃ z0,g.rs[i]?=some z0/\z.k=z0.k/\z.ls=z0.ls/\(∀ k,zq z k↔zq z0 k)/\(∀ w,Ia f.base f.kb z0 (tn z0.k.m z0.ls) (Xc z0.k.m z0.ls) w->Ia f.base f.kb z (tn z.k.m z.ls) (Xc z.k.m z.ls) w)/\(i≠j->z=z0)/\(i=j->z.wv=wv'/\z.wl=vP):=fun i z e=>by
  rcases Ad e with ⟨rfl,rfl⟩ | ⟨hne,e⟩
  · exact ⟨y,hj,rfl,rfl,fun k=>Iff.rfl,fun w h=>⟨h.hB,h.h7,h.h8,h.h9,h.h2,h.h10,h.rw,h.lk⟩,fun c=>absurd rfl c,fun _=>⟨rfl,rfl⟩⟩
  exact ⟨z,e,rfl,rfl,fun k=>Iff.rfl,fun w h=>h,fun _=>rfl,fun c=>absurd c.symm hne⟩
 have hold:∀ (i:Nat) z0,g.rs[i]?=some z0->∃ z,(g.rs.set j { y with wv:=wv',wl:=vP })[i]?=some z/\z.k=z0.k:=fun i z0 e=>by
  obtain ⟨z,hz,⟨rfl,rfl⟩ | ⟨rfl,_⟩⟩:=P_ (x':={ y with wv:=wv',wl:=vP }) hj e
  · rw [hj] at e
    obtain rfl:=Option.some.inj e;exact ⟨_,hz,rfl⟩
  exact ⟨z,hz,rfl⟩
 exact {
  bl:=h.bl.trans (hex.Ap (fun k e=>by rcases e with e | e <;> exact h.rM k _ e) h.sz)
  rM:=h.rM
  kb:=(hkeep _ h.kb.lt (by rw [h.jM];simp)).trans h.kb
  jM:=h.jM
  mr:=Xa h.mr (hkeep _ (I6 h.mr) (by rw [h.YM];simp))
  ar:=h.ar
  YM:=h.YM
  mw:=hm
  aw:=ha
  nN:=h.nN
  pl:=Y0 h.pl fun k e=>hkeep k (F_ h.pl e) (by rw [h.BN k e];simp)
  BN:=h.BN
  rd:=by
   show V7 w' f.base 1 g.rv (g.q.map (It.v ((g.rs.set j { y with wv:=wv',wl:=vP }).map (·.k))));rw [hks];exact h.rd.keep fun k e hl=>hkeep k hl (by rw [h.ord k e];simp)
  ord:=h.ord
  its:=fun it hq=>by
   obtain ⟨h1,h2⟩:=h.its it hq;refine ⟨?_,h2⟩;show it.At ((g.rs.set j { y with wv:=wv',wl:=vP }).map (·.k)) w';rw [hks]
   cases it with
   | go i=>trivial
   | re i r b7 b5=>exact ⟨(hkeep _ h1.1.lt (by rw [h2.1];simp)).trans h1.1,(hkeep _ h1.2.lt (by rw [h2.2];simp)).trans h1.2⟩
  ru:=fun i z e=>by
   obtain ⟨z0,hz,_,_,_,hR,_⟩:=hget i z e;exact hR w' ((h.ru i z0 hz).keep fun k hk=>hkeep k ((h.ru i z0 hz).lt hk) (by rw [h.kM i z0 hz k hk];simp))
  kM:=fun i z e k hk=>by
   obtain ⟨z0,hz,_,_,hF,_⟩:=hget i z e;exact h.kM i z0 hz k ((hF k).1 hk)
  wr:=fun i z e=>by
   obtain ⟨z0,hz,_,_,_,_,h1,h2⟩:=hget i z e;show w'.ownsRow f.base 145 1 z.wv z.wl.length (z.wl.map fun i=>(((g.rs.set j { y with wv:=wv',wl:=vP }).map (·.k)).getD i Og).go);rw [hks];by_cases c:i=j
   · obtain ⟨c1,c2⟩:=h2 c
     rw [c1,c2];exact hr
   rw [h1 c];exact Y0 (h.wr i z0 hz) fun k hk=>hkeep k (F_ (h.wr i z0 hz) hk) (by rw [h.oN i z0 hz k hk];simpa using c)
  oN:=fun i z e k hk=>by
   obtain ⟨z0,hz,_,_,_,_,h1,h2⟩:=hget i z e;by_cases c:i=j
   · rw [(h2 c).1] at hk
     rw [c];exact ho k hk
   rw [h1 c] at hk;exact h.oN i z0 hz k hk
  DN:=fun i z e k hk=>by
   obtain ⟨z0,hz,_,_,_,_,h1,h2⟩:=hget i z e;show k<(g.rs.set j { y with wv:=wv',wl:=vP }).length;rw [List.length_set];by_cases c:i=j
   · rw [(h2 c).2] at hk
     exact hl k hk
   rw [h1 c] at hk;exact h.DN i z0 hz k hk
  key:=fun i z e=>by
   obtain ⟨z0,hz,e1,_⟩:=hget i z e;rw [e1];exact h.key i z0 hz
  only:=fun n hn=>by
   obtain ⟨i,z0,hz,rfl⟩:=h.only n hn;obtain ⟨z,hz',e⟩:=hold i z0 hz;exact ⟨i,z,hz',by rw [e]⟩
  kw:=fun i z e=>by
   obtain ⟨z0,hz,e1,_,_,_,h1,h2⟩:=hget i z e;rw [yV,e1];by_cases c:i=j
   · subst c
     rw [hj] at hz;obtain rfl:=Option.some.inj hz;rw [if_pos rfl,(h2 rfl).1];rfl
   rw [if_neg (fun e=>c (h.inj i j z0 y hz hj e)),h1 c];exact h.kw i z0 hz
  oO:=fun n hn=>by
   rw [yV] at hn;by_cases c:n=y.k.m.nm
   · obtain ⟨z,hz',e⟩:=hold j y hj
     exact ⟨j,z,hz',by rw [e,c]⟩
   rw [if_neg c] at hn;obtain ⟨i,z0,hz,rfl⟩:=h.oO n hn;obtain ⟨z,hz',e⟩:=hold i z0 hz;exact ⟨i,z,hz',by rw [e]⟩
  inj:=fun i i' z z' e e' hn=>by
   obtain ⟨z0,hz,eY,_⟩:=hget i z e;obtain ⟨nS,hz',gY,_⟩:=hget i' z' e';rw [eY,gY] at hn;exact h.inj i i' z0 nS hz hz' hn
  TM:=fun it hq=>by
   show it.i<(g.rs.set j { y with wv:=wv',wl:=vP }).length;rw [List.length_set];exact h.TM it hq }
theorem J6 {l:List Ru} {j:Nat} {x y:Ru} (h:(l++[x])[j]?=some y):(j=l.length/\y=x)\/(j<l.length/\l[j]?=some y):=by
 rcases Nat.lt_or_ge j l.length with hj | hj
 · rw [List.getElem?_append_left hj] at h
   exact .inr ⟨hj,h⟩
 rw [List.getElem?_append_right hj] at h;have:=(List.getElem?_eq_some_iff.1 h).1;simp at this;have e:j=l.length:=O0;subst e;simp at h;exact .inl ⟨rfl,h.symm⟩
theorem zi {l:List Ru} {j:Nat} {x y:Ru} (h:l[j]?=some y):(l++[x])[j]?=some y:=by
 rw [List.getElem?_append_left ((List.getElem?_eq_some_iff.1 h).1)];exact h
theorem Xp {l:List Ru} {x:Ru} {j:Nat} (h:j<l.length):((l++[x]).map (·.k)).getD j Og=(l.map (·.k)).getD j Og:=by
 rw [List.map_append,List.getD_eq_getElem?_getD,List.getD_eq_getElem?_getD,List.getElem?_append_left (by simpa using h)]
theorem U_.new {f:Fx} {g:Gh} {w w':World} (h:U_ f g w) {x:Ru} {lr':List (ByteArray×Value)} (hnk:U9 g.lr x.k.m.nm=none) (hex:Ex (fun k=>g.ow k=some .mr) w w') (hm:w'.ownsMap prog 9 Z8 f.mr lr'.length (mapD lr')) (ha:Asc lr') (hkr:∀ n,U9 lr' n=if n=x.k.m.nm then some (pt x.k.B) else U9 g.lr n) (hr:Ia f.base f.kb x (tn x.k.m x.ls) (Xc x.k.m x.ls) w') (ho:∀ k,zq x k->g.ow k=some (.run g.rs.length)) (e1:x.wv=.slice none 0 0) (e2:x.wl=[]):U_ f { g with rs:=g.rs++[x],lr:=lr' } w':=by
 have hkeep:∀ k,k<w.heap.size->¬ (g.ow k=some .mr)->w'.heap[k]?=w.heap[k]?:=fun k hk hn=>hex.block k hk hn;have hnm:∀ (j:Nat) y,g.rs[j]?=some y->y.k.m.nm≠x.k.m.nm:=fun j y hy e=>by
  have:=h.key j y hy;rw [e,hnk] at this;cases this
 have iY:∀ it∈g.q,It.v ((g.rs++[x]).map (·.k)) it=It.v g.ks it:=fun it hq=>by
  cases it with
  | go i=>have hq':i<g.rs.length:=h.TM _ hq;show Rk.be _=Rk.be _;rw [Xp hq'];rfl
  | re=>rfl
 exact {
  bl:=h.bl.trans (hex.Ap (fun k e=>h.rM k _ e) h.sz)
  rM:=h.rM
  kb:=(hkeep _ h.kb.lt (by rw [h.jM];simp)).trans h.kb
  jM:=h.jM
  mr:=hm
  ar:=ha
  YM:=h.YM
  mw:=Xa h.mw (hkeep _ (I6 h.mw) (by rw [h.nN];simp))
  aw:=h.aw
  nN:=h.nN
  pl:=Y0 h.pl fun k e=>hkeep k (F_ h.pl e) (by rw [h.BN k e];simp)
  BN:=h.BN
  rd:=by
   show V7 w' f.base 1 g.rv (g.q.map (It.v ((g.rs++[x]).map (·.k))));rw [List.map_congr_left iY];exact h.rd.keep fun k e hl=>hkeep k hl (by rw [h.ord k e];simp)
  ord:=h.ord
  its:=fun it hq=>by
   obtain ⟨h1,h2⟩:=h.its it hq;refine ⟨?_,h2⟩;show it.At ((g.rs++[x]).map (·.k)) w'
   cases it with
   | go i=>trivial
   | re i r b7 b5=>
    refine ⟨?_,(hkeep _ h1.2.lt (by rw [h2.2];simp)).trans h1.2⟩;have hq':i<g.rs.length:=h.TM _ hq;rw [Xp hq'];exact (hkeep _ h1.1.lt (by rw [h2.1];simp)).trans h1.1
  ru:=fun j y e=>by
   rcases J6 e with ⟨rfl,rfl⟩ | ⟨_,e⟩
   · exact hr
   exact (h.ru j y e).keep fun k hk=>hkeep k ((h.ru j y e).lt hk) (by rw [h.kM j y e k hk];simp)
  kM:=fun j y e k hk=>by
   rcases J6 e with ⟨rfl,rfl⟩ | ⟨_,e⟩
   · exact ho k hk
   exact h.kM j y e k hk
  wr:=fun j y e=>by
   show w'.ownsRow f.base 145 1 y.wv y.wl.length (y.wl.map fun i=>(((g.rs++[x]).map (·.k)).getD i Og).go);rcases J6 e with ⟨rfl,rfl⟩ | ⟨_,e⟩
   · rw [e1,e2]
     exact World.ownsRow_nil _ _ _ _
   have e3:(y.wl.map fun i=>(((g.rs++[x]).map (·.k)).getD i Og).go)=y.wl.map fun i=>(g.ks.getD i Og).go:=List.map_congr_left fun i hi=>by rw [Xp (h.DN j y e i hi)];rfl
   rw [e3];exact Y0 (h.wr j y e) fun k hk=>hkeep k (F_ (h.wr j y e) hk) (by rw [h.oN j y e k hk];simp)
  oN:=fun j y e k hk=>by
   rcases J6 e with ⟨rfl,rfl⟩ | ⟨_,e⟩
   · rw [e1] at hk;cases hk
   exact h.oN j y e k hk
  DN:=fun j y e k hk=>by
   show k<(g.rs++[x]).length;rw [List.length_append];rcases J6 e with ⟨rfl,rfl⟩ | ⟨_,e⟩
   · rw [e2] at hk;cases hk
   have:=h.DN j y e k hk;omega
  key:=fun j y e=>by
   rw [hkr];rcases J6 e with ⟨rfl,rfl⟩ | ⟨_,e⟩
   · rw [if_pos rfl]
   rw [if_neg (hnm j y e)];exact h.key j y e
  only:=fun n hn=>by
   rw [hkr] at hn;by_cases c:n=x.k.m.nm
   · exact ⟨g.rs.length,x,U0,c.symm⟩
   rw [if_neg c] at hn;obtain ⟨j,y,hy,e⟩:=h.only n hn;exact ⟨j,y,zi hy,e⟩
  kw:=fun j y e=>by
   rcases J6 e with ⟨rfl,rfl⟩ | ⟨_,e⟩
   · have:U9 g.lw y.k.m.nm=none:=Classical.byContradiction fun hn=>by
      obtain ⟨j,z,hz,e⟩:=h.oO _ hn;exact hnm j z hz e
     rw [this,e1];rfl
   exact h.kw j y e
  oO:=fun n hn=>by
   obtain ⟨j,y,hy,e⟩:=h.oO n hn;exact ⟨j,y,zi hy,e⟩
  inj:=fun j j' y y' e e' hn=>by
   rcases J6 e with ⟨rfl,rfl⟩ | ⟨_,e⟩
   · rcases J6 e' with ⟨rfl,rfl⟩ | ⟨_,e'⟩
     · rfl
     exact absurd hn.symm (hnm j' y' e')
   rcases J6 e' with ⟨rfl,e2⟩ | ⟨_,e'⟩
   · rw [e2] at hn;exact absurd hn (hnm j y (by assumption))
   exact h.inj j j' y y' e e' hn
  TM:=fun it hq=>by
   show it.i<(g.rs++[x]).length;rw [List.length_append];have:=h.TM it hq;omega }
end Go.Proofs.YtdpoaadafcaffaaGreatDoor
