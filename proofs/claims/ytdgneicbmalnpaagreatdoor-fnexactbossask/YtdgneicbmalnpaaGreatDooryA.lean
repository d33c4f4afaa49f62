import Derived.Test.YtdgneicbmalnpaaGreatDoortT0
import Derived.Test.YtdgneicbmalnpaaGreatDooreY8
import Derived.RangeFuncNested
set_option linter.all false
set_option maxHeartbeats 0
set_option maxRecDepth 99999
open Go.Value renaming slice->Sa,string->Sb,int->Sc,pointer->Sd
open Go.IntKind renaming i64->Se
namespace Go.Proofs.YtdgneicbmalnpaaGreatDoor
open Proofs.Tryz Go.RowKit Go.Maps Go.Sort Go.Shelf
variable{S X j n:Nat}{A B:World}
attribute [local go_sem] Oper.semAt_some
theorem yB(s:BY):encStr s.data.toList=Sb s:=by
 unfold encStr
 congr 1
theorem Yu{k:Nat}(h:k<n):(List.finRange n).take (k+1)=(List.finRange n).take k++[⟨k,h⟩]:=by
 rw[Oq,V8 (by simpa using h)];simp
def fB(W:World)(S j:Nat):Option Nat:=(W.cell? ⟨S,j,none⟩).bind Value.ownBlock
structure Ar(S j X:Nat)(W W':World):Prop where
 size:W.heap.size<=W'.heap.size
 same:∀k o,W.heap[k]?=some o->(o.isCells=true\/o.isWalk=true)->(∀cur fr,o≠.cells cur X fr)->k≠S->fB W S j≠some k->W'.heap[k]?=some o
 fld:fB W' S j=fB W S j\/∃q,fB W' S j=some q/\W.heap.size<=q
theorem Ar.refl(S j X:Nat)(W:World):Ar S j X W W:=⟨Y7 _,λ_ _ h _ _ _ _=>h,.inl rfl⟩
theorem Ar.trans{C:World}(h:Ar S j X A B)(k:Ar S j X B C):Ar S j X A C:=by
 refine⟨X7 h.size k.size,λi o ho hc b c hf=>?_,?_⟩
 ·have hi:=(Ya.1 ho).1;refine k.same i o (h.same i o ho hc b c hf) hc b c ?_;rcases h.fld with e|⟨q,e,a⟩
  ·rw[e];exact hf
  rw[e];intro d;have:=C_ d;omega
 rcases k.fld with e|⟨q,e,a⟩
 ·rw[e];exact h.fld
 exact .inr ⟨q,e,X7 h.size a⟩
theorem Ar.cell(h:Ar S j X A B)(hf:fB A S j=none){p:Addr}(a:p.block≠S){t:TypeId}(hT:oh A p.block t)(ht:t≠X):B.cell? p=A.cell? p:=by
 obtain⟨cur,fr,e⟩:=hT;have b:=h.same _ _ e (.inl rfl) (λcur' fr' c=>by cases c;exact ht rfl) a (by rw[hf];simp);unfold World.cell?;rw[e,b]
theorem Ar.map(h:Ar S j X A B)(hf:fB A S j=none){k:TypeId}{R:Value->Option (DataW Value×List MemPlace)}{b n:Nat}{D:DataW Value}(c:b≠S)(hm:A.ownsMap prog k R b n D):B.ownsMap prog k R b n D:=by
 obtain⟨es,d,a,r⟩:=hm;exact⟨es,d,h.same b _ a (.inr rfl) (λ_ _ e=>by cases e) c (by rw[hf];simp),r⟩
theorem Jo{w:World}{B e:Nat}{va:OA}{b:Nat}{xs:List Value}(h:w.ownsRow B e 1 (Sa va n b) n xs):n=0\/∃g,va=some ⟨g,0,none⟩/\B<=g/\g<w.heap.size/\oh w g e/\∀k,k<n->w.cell? ⟨g,k,none⟩=some (xs.getD k undef):=by
 have c:=h;rcases h.2 with⟨hv,h0⟩|⟨g,cap,cur,hv,d,a,_⟩
 ·exact .inl h0
 simp only[Hu]at hv;obtain⟨rfl,_,rfl⟩:=hv;refine .inr ⟨g,rfl,d,(Ya.1 a).1,⟨cur,(0,0),a⟩,λk hk=>?_⟩;have hx:k<xs.length:=by have:=h.1;omega
 rw[c.cellAt k O0];simp only[List.getD,V8 hx,Dc]
theorem KG(l:List (ByteArray×Value)){k:Nat}(h:k<l.length):(l.map λp=>Sb p.1).getD k undef=Sb (l[k]'(h)).1:=by
 simp only[List.getD,yu,V8 h,qy,Dc]
theorem QX(l:List Value){k:Nat}(h:k<l.length):((List.range l.length).map λi:Nat=>Sc Se (i:Int)).getD k undef=Sc Se (k:Int):=by
 simp only[List.getD,yu,List.getElem?_range h,qy,Dc]
theorem CJ(m:Nat):AnyZ.SortsIn prog Tryz.sortedA_ren Fence.wide m:=
 ⟨λblk off cap ss W hH b a=>callsIn_wide.2 (AnyM.slices_Sort_string Tryz.sortA blk off cap ss W hH b a),
  λp cap W=>callsIn_wide.2 (AnyM.slices_Sort_string_none Tryz.sortA p cap W)⟩
theorem a5E(S j h b B:Nat)(l:List (ByteArray×Value))(w:World)(hA:Asc l)(hks:∀p∈l,p.1.size<=maxLen)(hl:l.length<=1000)(x:h<w.heap.size)(hm:w.cell? ⟨h,0,none⟩=some (.map (some b)))(t:w.ownsMap prog 9 h_ b B (mapD l))(hTm:oh w h 290)(hSB:h≠S)(hSw:S<w.heap.size)(hbS:b≠S)(O:fB w S j=none):
 SeqStopsK Fence.wide 10 prog 270 #[Sd (some ⟨h,0,none⟩)] (λi:Fin l.length=>#[(l[i.1]'(i.2)).2]) (Ar S j 298) (λxs=>xs=List.finRange l.length) (λ_=>True) l.length w:=λL J Jx W f hJ hJx R h0=>by
 have I:=(f.cell (by exact x)).trans hm;have q:=U9 t f t.lt;have K:fB W S j=none:=by unfold fB;rw[f.cell (p:=⟨S,j,none⟩) hSw];exact O
 have V:=P9 x f.size;have hbl:=q.lt;clear hm t O;have D:SeqGives Fence.wide 6 prog 310 #[Sd (some ⟨W.heap.size,0,none⟩)] encStr (λss=>ss.Perm (strKeys (mapD l))) (Maps.size (mapD l)) (W.alloc (.cells #[.map (some b)] 290)):=
  AnyZ.keys_gives (ρ:=Tryz.keysA_ren) { Tryz.keysA with } Fence.wide _ trivial rfl O0 W.heap.size b B (mapD l) _ J4 J4 (q.alloc _)
 have Y:∀n W,CallsIn Fence.wide 9 prog 271 #[.map n] W λe w'=>e=.returned (.func (.func 310) #[] #[Sd (some ⟨W.heap.size,0,none⟩)])/\w'=W.alloc (.cells #[.map n] 290):=λn W=>AnyZ.keys_in Tryz.keysA Fence.wide 9 trivial rfl n W;have y:=AnyZ.sorted_in Tryz.sortedA Fence.wide 9 trivial trivial trivial trivial rfl O0 (CJ _) (enters_of func247 Y0 rfl) 310 #[Sd (some ⟨W.heap.size,0,none⟩)] trivial (enters_of func310 Y0 rfl) _ _ (by rw[O_];unfold maxLen;omega) (by rw[O_];omega) _ D;change CallsIn _ _ prog 187 _ _ _ at y;have X:CallsIn Fence.wide 9 prog 187 #[.func (.func 310) #[] #[Sd (some ⟨W.heap.size,0,none⟩)]] (W.alloc (.cells #[.map (some b)] 290)) λe w'=>∃va m,e=.returned (vL va l.length m)/\Hid (w'.ownsRow (W.heap.size+1) 9 1 (vL va l.length m) l.length (l.map λp=>Sb p.1))/\Bw W w':=by
  refine y.mono ?_;rintro e w'⟨v,ss,rfl,U,c,hnil,d⟩;have hlen:ss.length=l.length:=by rw[U.length_eq];rw[Zr];simp
  rw[Bq hA U]at c;rw[Gp,show(encStr∘λp:BY×Value=>p.1.data.toList)=λp=>Sb p.1 from funext λp=>yB p.1]at c;rw[hlen]at c;have E:=I7 c (base':=W.heap.size+1) J4;obtain⟨va,m,rfl⟩:=x9 E;exact⟨va,m,rfl,E,((O4 _ W).alloc A8 _).trans (d.mono J4)⟩
 have hfK:Fence.wide.fn 271:=trivial;have hfS:Fence.wide.fn 187:=trivial;clear y D;refine callsIn_of_wp func270 rfl trivial ?_ rfl;simp only[ntmps270,Wp,f_,Fb,Nat.reduceAdd,Nat.reduceSub,Lp,Qq,Hr,Iq,Y9,jd]
 gi_wp2_with (first
  | (gi_at_call 271;refine(Y _ _).mono ?_;rintro e w'⟨rfl,rfl⟩)
  | (gi_at_call 187;refine X.mono ?_;rintro e s⟨va,m,rfl,c,d⟩))
 clear Y X;have hJ1:J [] s:=hJ [] W s none h0 (Yd d) (λ_ e=>by cases e);have hT1:=(hTm.below f x).below d V;have hm1:=(d.cell (by exact V)).trans I;have H:=U9 q d hbl;have N:fB s S j=none:=by unfold fB;rw[d.cell (p:=⟨S,j,none⟩) (Nat.lt_of_lt_of_le hSw f.size)];exact K
 have P:=Jo c.o;have hSW1:=P9 hSw f.size;have HO:=U0 H;have A:=U0 N;have HC:=U0 P;clear H N P c q K I
 gi_loopw[9] (λi wr=>∃k:Nat,k<=l.length/\i=vI k/\J ((List.finRange l.length).take k) wr/\Ar S j 298 s wr) (λi _=>l.length-(Go.RowKit.intOf i).toNat)
 case atStart=>exact⟨0,Y4 _,rfl,hJ1,Ar.refl _ _ _ _⟩
 case round=>
  obtain⟨k,hk,rfl,u,r⟩:=hrel;by_cases a:k<l.length
  ·rcases HC.o with h0'|⟨g,Z,hgW,hgw,hTg,hcell⟩
   ·omega
   subst Z;have hgS:g≠S:=O0;have Q:=(r.cell A.o (p:=⟨g,k,none⟩) hgS hTg U5).trans (hcell k a);have hb3:=(r.cell A.o (p:=⟨h,0,none⟩) hSB hT1 U5).trans hm1;have F:=r.map A.o hbS HO.o;have o:=BB (k:=(l[k]'(a)).1) (z:=.agg #[vE,vO,vE]) F underlying290 Y0 (hks _ (dh a));rw[Ik hA (k:=(l[k]'(a)).1) (v:=(l[k]'(a)).2) (dh a)]at o;rw[Dc]at o;rw[KG l a]at Q;obtain⟨fn,tmps,assign,body,C,hR⟩:=R _ ⟨k,a⟩ wr u (by rw[L_,JG];omega);dsimp only at C;clear R F;generalize hgk:(l[k]'(a)).1=kk at o Q;generalize hvk:(l[k]'(a)).2=vk at o C
   gi_wp2
   refine hR.mono ?_;rintro e W3 (⟨rfl,hJ3,hk3⟩|⟨rfl,hJx3⟩)
   ·gi_wp2
    go_roundw;exact⟨k+1,O0,by go_num,by rw[Yu a];exact hJ3,r.trans hk3⟩;exact V9
   gi_wp2
   refine P7 (RF rfl _ _ _) rfl ?_;exact⟨⟨_,rfl⟩,.inr ⟨_,trivial,hJx3⟩⟩
  obtain rfl:k=l.length:=O0
  gi_wp2
  go_end0
  exact⟨⟨_,rfl⟩,.inl ⟨_,rfl,by rw[p_ J4]at u;exact u⟩⟩
theorem a0O(m:Nat):AnyZI.SortsIn prog Tryz.sortedB_ren Fence.wide m:=
 ⟨λblk off cap ss W hH b a=>callsIn_wide.2 (AnyM.slices_Sort_int Tryz.sortB blk off cap ss W hH b a),
  λp cap W=>callsIn_wide.2 (AnyM.slices_Sort_int_none Tryz.sortB p cap W)⟩
theorem a5p(S j h b A:Nat)(l:List Value)(w:World)(hl:l.length<=1000)(u:h<w.heap.size)(hm:w.cell? ⟨h,0,none⟩=some (.map (some b)))(s:w.ownsMap prog 3 h_ b A (intD l))(hTm:oh w h 291)(hSB:h≠S)(hSw:S<w.heap.size)(hbS:b≠S)(O:fB w S j=none):
 SeqStopsK Fence.wide 10 prog 272 #[Sd (some ⟨h,0,none⟩)] (λi:Fin l.length=>#[(l[i.1]'(i.2))]) (Ar S j 179) (λxs=>xs=List.finRange l.length) (λ_=>True) l.length w:=λL J Jx W f hJ hJx Q h0=>by
 have I:=(f.cell (by exact u)).trans hm;have o:=U9 s f s.lt;have K:fB W S j=none:=by unfold fB;rw[f.cell (p:=⟨S,j,none⟩) hSw];exact O
 have U:=P9 u f.size;have hbl:=o.lt;clear hm s O;have C:SeqGives Fence.wide 6 prog 313 #[Sd (some ⟨W.heap.size,0,none⟩)] encZ (λss=>ss.Perm (intKeys (intD l))) (Maps.size (intD l)) (W.alloc (.cells #[.map (some b)] 291)):=
  AnyZI.keys_gives (ρ:=Tryz.keysB_ren) { Tryz.keysB with } Fence.wide _ trivial rfl O0 W.heap.size b A (intD l) _ J4 J4 (o.alloc _)
 have X:∀n W,CallsIn Fence.wide 9 prog 274 #[.map n] W λe w'=>e=.returned (.func (.func 313) #[] #[Sd (some ⟨W.heap.size,0,none⟩)])/\w'=W.alloc (.cells #[.map n] 291):=λn W=>AnyZI.keys_in Tryz.keysB Fence.wide 9 trivial rfl n W;have x:=AnyZI.sorted_in Tryz.sortedB Fence.wide 9 trivial trivial trivial trivial rfl O0 (a0O _) (enters_of func312 Y0 rfl) 313 #[Sd (some ⟨W.heap.size,0,none⟩)] trivial (enters_of func313 Y0 rfl) _ _ (by rw[lm];unfold maxLen;omega) (by rw[lm];omega) _ C;change CallsIn _ _ prog 273 _ _ _ at x;have V:CallsIn Fence.wide 9 prog 273 #[.func (.func 313) #[] #[Sd (some ⟨W.heap.size,0,none⟩)]] (W.alloc (.cells #[.map (some b)] 291)) λe w'=>∃va m,e=.returned (vL va l.length m)/\Hid (w'.ownsRow (W.heap.size+1) 3 1 (vL va l.length m) l.length ((List.range l.length).map λi:Nat=>Sc Se (i:Int)))/\Bw W w':=by
  refine x.mono ?_;rintro e w'⟨v,ss,rfl,R,c,hnil,d⟩;have hlen:ss.length=l.length:=by rw[R.length_eq];rw[zD];simp
  rw[yH R]at c;rw[Gp]at c;rw[hlen]at c;have D:=I7 c (base':=W.heap.size+1) J4;obtain⟨va,m,rfl⟩:=x9 D;exact⟨va,m,rfl,D,((O4 _ W).alloc A8 _).trans (d.mono J4)⟩
 have hfK:Fence.wide.fn 274:=trivial;have hfS:Fence.wide.fn 273:=trivial;clear x C;refine callsIn_of_wp func272 rfl trivial ?_ rfl;simp only[ntmps272,Wp,f_,Fb,Nat.reduceAdd,Nat.reduceSub,Lp,Qq,Hr,Iq,Y9,jd]
 gi_wp2_with (first
  | (gi_at_call 274;refine(X _ _).mono ?_;rintro e w'⟨rfl,rfl⟩)
  | (gi_at_call 273;refine V.mono ?_;rintro e r⟨va,m,rfl,c,d⟩))
 clear X V;have hJ1:J [] r:=hJ [] W r none h0 (Yd d) (λ_ e=>by cases e);have hT1:=(hTm.below f u).below d U;have Z:=(d.cell (by exact U)).trans I;have H:=U9 o d hbl;have N:fB r S j=none:=by unfold fB;rw[d.cell (p:=⟨S,j,none⟩) (Nat.lt_of_lt_of_le hSw f.size)];exact K
 have P:=Jo c.o;have hSW1:=P9 hSw f.size;have HO:=U0 H;have y:=U0 N;have HC:=U0 P;clear H N P c o K I
 gi_loopw[9] (λi wr=>∃k:Nat,k<=l.length/\i=vI k/\J ((List.finRange l.length).take k) wr/\Ar S j 179 r wr) (λi _=>l.length-(Go.RowKit.intOf i).toNat)
 case atStart=>exact⟨0,Y4 _,rfl,hJ1,Ar.refl _ _ _ _⟩
 case round=>
  obtain⟨k,hk,rfl,t,q⟩:=hrel;by_cases a:k<l.length
  ·rcases HC.o with h0'|⟨g,Y,hgW,hgw,hTg,hcell⟩
   ·omega
   subst Y;have hgS:g≠S:=O0;have hc3:=(q.cell y.o (p:=⟨g,k,none⟩) hgS hTg U5).trans (hcell k a);have hb3:=(q.cell y.o (p:=⟨h,0,none⟩) hSB hT1 U5).trans Z;have F:=q.map y.o hbS HO.o;have E:=WQ (k:=k) (z:=.agg #[vE,vN,vE]) F underlying291 Y0 O0 a;rw[show l.getD k undef=l[k]'(a) from by simp only[List.getD,V8 a,Dc]]at E;rw[QX l a]at hc3;obtain⟨fn,tmps,assign,body,B,hR⟩:=Q _ ⟨k,a⟩ wr t (by rw[L_,JG];omega);dsimp only at B;clear Q F;generalize hvk:(l[k]'(a))=vk at E B
   gi_wp2
   refine hR.mono ?_;rintro e W3 (⟨rfl,hJ3,hk3⟩|⟨rfl,hJx3⟩)
   ·gi_wp2
    go_roundw;exact⟨k+1,O0,by go_num,by rw[Yu a];exact hJ3,q.trans hk3⟩;exact V9
   gi_wp2
   refine P7 (RF rfl _ _ _) rfl ?_;exact⟨⟨_,rfl⟩,.inr ⟨_,trivial,hJx3⟩⟩
  obtain rfl:k=l.length:=O0
  gi_wp2
  go_end0
  exact⟨⟨_,rfl⟩,.inl ⟨_,rfl,by rw[p_ J4]at t;exact t⟩⟩
open Go.RowKit
def zs(z:List Value)(m:Nat):List Value:=(List.replicate m z).flatten
section
variable{z ys vs:List Value}{k n j b o:Nat}{w w':World}{cs:List Value}
theorem fK:(zs z n).length=n*z.length:=by
 unfold zs;simp
theorem vF:zs z (n+1)=z++zs z n:=by
 unfold zs;simp[List.replicate_succ]
theorem NS:∀(n j:Nat),j<n*z.length->(zs z n)[j]?=z[j % z.length]?
 | 0,j,h=>by simp at h
 | n+1,j,h=>by
  rw[vF];by_cases a:j<z.length
  ·rw[D_ a,Nat.mod_eq_of_lt a]
  rw[Yf O0,NS n (j-z.length) (by rw[ak]at h;omega),<- Nat.mod_eq_sub_mod O0]
theorem PK(z:List Value)(n:Nat):madeCells z.toArray (n*z.length)=(zs z n).toArray:=by
 apply Array.ext
 ·simp[size_madeCells,fK]
 intro i h1 h2;have a:i<n*z.length:=by simpa[size_madeCells]using h1
 have b:i % z.length<z.length:=MF _ (by rcases wu z.length with h|h;(rw[h]at a;omega);exact h);have e:=NS (z:=z) n i a;have l:i<(zs z n).length:=by rw[fK];exact a
 rw[V8 l,V8 b]at e;injection e with e;simp[madeCells,b,e]
theorem nR(a:ys.length=k*z.length)(hv:vs.length=z.length)(hk:k<n):Dp (ys++zs z (n-k)) (k*z.length) vs=(ys++vs)++zs z (n-(k+1)):=by
 unfold Dp;rw[show n-k=(n-(k+1))+1 by omega,vF,<- a,hv];simp[List.drop_append]
theorem GU(a:ys.length=k*z.length)(hv:vs.length=z.length)(hk:k<n):k*z.length+vs.length<=(ys++zs z (n-k)).length:=by
 rw[Q9,fK,a,hv,show n-k=(n-(k+1))+1 by omega,ak];omega
def Bc(w:World)(b o:Nat)(cs:List Value):Prop:=∀q v,cs[q]?=some v->w.cell? ⟨b,o+q,none⟩=some v
theorem Bc.below(h:Bc w b o cs)(hl:b<w.heap.size)(a:Bw w w'):Bc w' b o cs:=λq v e=>(a.cell (by exact hl)).trans (h q v e)
theorem a0q{t:TypeId}(h:Cl w b t ys)(a:∀q v,cs[q]?=some v->ys[o+q]?=some v):Bc w b o cs:=λq v e=>(h.cell _).trans (a q v e)
end
def iy{α:Type}(w:World)(a:OA)(is:List α)(d:α)(n:Nat)(P:World->Nat->Nat->α->Prop):Prop:=is=[]\/∃b off,a=some ⟨b,off,none⟩/\b<w.heap.size/\∀i,i<is.length->P w b (off+i*n) (is.getD i d)
section
variable{α:Type}{w w':World}{a:OA}{is:List α}{d:α}{n:Nat}{P:World->Nat->Nat->α->Prop}
theorem Z_(h:iy w a is d n P):∃b off,(is=[]\/(a=some ⟨b,off,none⟩/\b<w.heap.size/\∀i,i<is.length->P w b (off+i*n) (is.getD i d))):=by
 rcases h with h|⟨b,off,h⟩
 ·exact⟨0,0,.inl h⟩
 exact⟨b,off,.inr h⟩
theorem lH(hP:∀b o x,P w b o x->b<w.heap.size->P w' b o x)(h:iy w a is d n P)(e:Bw w w'):iy w' a is d n P:=by
 rcases h with h|⟨b,off,h1,h2,f⟩
 ·exact .inl h
 exact .inr ⟨b,off,h1,P9 h2 e.size,λi c=>hP _ _ _ (f i c) h2⟩
theorem TS{R:α->Prop}(hd:R d)(h:∀i,i<is.length->R (is.getD i d))(i:Nat):R (is.getD i d):=by
 rcases Z7 i is.length with a|a
 ·exact h i a
 rw[show is.getD i d=d from by simp[List.getD,Eb a]];exact hd
theorem LK{f:α->List Value}{k:Nat}(hk:k<is.length):(is.take (k+1)).flatMap f=(is.take k).flatMap f++f (is.getD k d):=by
 rw[Oq,Vo,V8 hk];simp[List.getD,V8 hk]
theorem Hg{f:α->List Value}{m:Nat}(hf:∀x,(f x).length=m)(l:List α):(l.flatMap f).length=l.length*m:=by
 induction l with
 | nil=>simp
 | cons x l ih=>rw[Xf,Q9,ih,hf,f_,ak,Nat.add_comm]
theorem Gf{f:α->List Value}{m:Nat}(hf:∀x,(f x).length=m):∀(l:List α)(i:Nat),i<l.length->∀q v,(f (l.getD i d))[q]?=some v->(l.flatMap f)[i*m+q]?=some v
 | x::l,0,h,q,v,e=>by
  have a:q<(f x).length:=(ah.1 e).1;rw[Xf,Gw,Y8,D_ a];exact e
 | x::l,i+1,h,q,v,e=>by
  rw[Xf,Yf (by rw[hf,ak];omega),hf,show(i+1)*m+q-m=i*m+q by rw[ak];omega];exact Gf hf l i (by simpa using h) q v e
end
structure Jb where
 nm:BY
 wk:Int
 un:Int
def Ea:Jb:=⟨⟨#[]⟩,0,0⟩
def Kq(x:Jb):List Value:=[Sb x.nm,Sc Se x.wk,Sc Se x.un]
def Qj(w:World)(a:OA)(is:List Jb):Prop:=iy w a is Ea 3 λw b o x=>Bc w b o (Kq x)
theorem Om{w w':World}{a:OA}{is:List Jb}(h:Qj w a is)(c:Bw w w'):Qj w' a is:=lH (λb o x h hl=>h.below hl c) h c
end Go.Proofs.YtdgneicbmalnpaaGreatDoor
namespace Go.Proofs.YtdgneicbmalnpaaGreatDoor
open Proofs.Tryz Go.RowKit
def Kp(b:Nat)(w:World)(P:World->Prop):Prop:=∀u:World,w.heap.size<=u.heap.size->(∀q,b<=q->q<w.heap.size->u.heap[q]?=w.heap[q]?)->P u
section
variable{b b' B:Nat}{w u:World}{P Q:World->Prop}{t:TypeId}{xs:List Value}
theorem Kp.now(h:Kp b w P):P w:=h w A8 (λ_ _ _=>rfl)
theorem Kp.next(h:Kp b w P)(hs:w.heap.size<=u.heap.size)(hk:∀q,b<=q->q<w.heap.size->u.heap[q]?=w.heap[q]?):Kp b u P:=λz h1 h2=>h z (X7 hs h1) (λq a hl=>(h2 q a O0).trans (hk q a hl))
theorem Kp.below(h:Kp b w P)(a:Bw w u):Kp b u P:=h.next a.size (λq _ hl=>a.block q hl)
theorem Kp.on(h:Kp b w P)(ho:Jr B w u)(hB:B<b):Kp b u P:=h.next (Vf ho.size.symm) (λq hq _=>ho.block q O0)
theorem Kp.low(h:Kp b w P)(hb:b'<=b):Kp b' w P:=λz h1 h2=>h z h1 (λq hq=>h2 q O0)
theorem Kp.imp(h:Kp b w P)(a:∀u,P u->Q u):Kp b w Q:=λz h1 h2=>a _ (h z h1 h2)
theorem a2D(h:Cl w B t xs)(a:b<=B):Kp b w λu=>Cl u B t xs:=λz _ h2=>(h2 B a h.lt).trans h
end
def Vy(A:Nat)(u:World)(a:OA)(t:TypeId)(m:Nat):Prop:=∃g xs,a=some ⟨g,0,none⟩/\A<=g/\Cl u g t xs/\m<=xs.length
theorem Vy.mono{A A' m:Nat}{u:World}{a:OA}{t:TypeId}(h:Vy A u a t m)(h1:A'<=A):Vy A' u a t m:=by
 obtain⟨g,xs,h1,h2,b⟩:=h;exact⟨g,xs,h1,O0,b⟩
def au{β:Type}(b:Nat)(w:World)(LS:World->OA->List β->Prop)(t:TypeId)(m:Nat)(ls:List β)(v:Value):Prop:=∃a c,v=Sa a ls.length c/\ls.length<=c/\Kp b w (λu=>LS u a ls/\Vy b u a t (ls.length*m))
section
variable{β:Type}{b b' B m:Nat}{t:TypeId}{w u:World}{LS:World->OA->List β->Prop}{ls:List β}{v:Value}
theorem au.below(h:au b w LS t m ls v)(d:Bw w u):au b u LS t m ls v:=by
 obtain⟨a,c,e,hc,h⟩:=h;exact⟨a,c,e,hc,h.below d⟩
theorem au.on(h:au b w LS t m ls v)(ho:Jr B w u)(hB:B<b):au b u LS t m ls v:=by
 obtain⟨a,c,e,hc,h⟩:=h;exact⟨a,c,e,hc,h.on ho hB⟩
theorem au.low(h:au b w LS t m ls v)(d:b'<=b):au b' w LS t m ls v:=by
 obtain⟨a,c,e,hc,h⟩:=h;exact⟨a,c,e,hc,(h.low d).imp λu k=>⟨k.1,k.2.mono d⟩⟩
theorem au.one(h:au b w LS t m ls v):v.oneCell'=true:=by
 obtain⟨a,c,rfl,_,h⟩:=h;rfl
end
structure Rn where
 nm:BY
 md:Int
 wt:BY
 ls:List L4
 cd:Int
 tx:BY
def L9:Rn:=⟨⟨#[]⟩,0,⟨#[]⟩,[],0,⟨#[]⟩⟩
def Td(p:Rn×Value):List Value:=[Sb p.1.nm,Sc Se p.1.md,Sb p.1.wt,p.2,Sc Se p.1.cd,Sb p.1.tx]
def zX(w:World)(b o:Nat)(x:Rn):Prop:=∃ai ci,Bc w b o (Td (x,Sa ai x.ls.length ci))/\O9 w ai x.ls
def Wi(w:World)(a:OA)(is:List Rn):Prop:=iy w a is L9 6 zX
theorem zX.below{w w':World}{b o:Nat}{x:Rn}(h:zX w b o x)(hl:b<w.heap.size)(d:Bw w w'):zX w' b o x:=by
 obtain⟨a,c,h1,h2⟩:=h;exact⟨a,c,h1.below hl d,Q7 h2 d⟩
theorem Jf{w w':World}{a:OA}{is:List Rn}(h:Wi w a is)(c:Bw w w'):Wi w' a is:=lH (λb o x h hl=>h.below hl c) h c
def NJ(p:R3×Value):List Value:=[Sb p.1.key,p.2,Sb p.1.o]
def jQ(x:G3):List Value:=[.bool x.nm,Sb x.tl,Sb x.ar]
def xw(x:L4):List Value:=[.bool x.has,Sb x.nm,Sc Se x.cd,Sb x.tx]
section
variable{α:Type}{w:World}{B n:Nat}{t:TypeId}{ps:List (α×Value)}{f:α×Value->List Value}{r:List Value}{d:α}
theorem EX(hf:∀x,(f x).length=n)(h:Cl w B t (ps.flatMap f++r)){i:Nat}(a:i<ps.length):∃v,((ps.map Prod.fst).getD i d,v)∈ps/\Bc w B (0+i*n) (f ((ps.map Prod.fst).getD i d,v)):=by
 refine⟨(ps[i]).2,?_,?_⟩
 ·rw[show(ps.map Prod.fst).getD i d=(ps[i]).1 from by simp[List.getD,a]];exact dh a
 rw[show(ps.map Prod.fst).getD i d=(ps[i]).1 from by simp[List.getD,a]];refine a0q h λq v e=>?_;have hq:q<n:=by have:=(ah.1 e).1;rwa[hf]at this
 have hl:=Hg (m:=n) hf ps;have:i*n+n<=ps.length*n:=by rw[<- ak];exact Ro _ a
 rw[Y8,D_ O0];exact Gf (d:=(d,undef)) hf ps i a q v (by rw[show ps.getD i (d,undef)=ps[i] from by simp[List.getD,a]];exact e)
end
end Go.Proofs.YtdgneicbmalnpaaGreatDoor
namespace Go.Proofs.YtdgneicbmalnpaaGreatDoor
open Proofs.Tryz Go.RowKit
def Ow(A B:Nat)(u:World)(a:OA)(t:TypeId)(m:Nat):Prop:=∃g xs,a=some ⟨g,0,none⟩/\A<=g/\g<B/\Cl u g t xs/\m<=xs.length
structure Md(A B:Nat)(S:List TypeId)(w w':World):Prop where
 os:w'.os=w.os
 tape:w'.tape=w.tape
 output:w'.output=w.output
 size:w.heap.size<=w'.heap.size
 block:∀k,k<w.heap.size->k<A\/B<=k->w'.heap[k]?=w.heap[k]?
 sh:∀k t xs,Cl w k t xs->∃ys,ys.length=xs.length/\Cl w' k t ys
 ty:∀k t xs,Cl w k t xs->t∉S->w'.heap[k]?=w.heap[k]?
section
variable{A B A' B' N m g j:Nat}{w w' w'':World}{a:OA}{t:TypeId}{xs:List Value}{v:Value}{S S':List TypeId}
theorem Md.refl:Md A B S w w:=⟨rfl,rfl,rfl,Y7 _,λ_ _ _=>rfl,λk t xs h=>⟨xs,rfl,h⟩,λ_ _ _ _ _=>rfl⟩
theorem Md.tr(h:Md A B S w w')(k:Md A B S' w' w''):Md A B (S++S') w w'':=⟨k.os.trans h.os,k.tape.trans h.tape,k.output.trans h.output,X7 h.size k.size,λq a b=>(k.block q (P9 a h.size) b).trans (h.block q a b),λq t xs c=>by
 obtain⟨ys,h1,h2⟩:=h.sh q t xs c;obtain⟨zs,f,d⟩:=k.sh q t ys h2;exact⟨zs,f.trans h1,d⟩,λq t xs c ht=>by
 have e:=h.ty q t xs c (λh=>ht (dF _ h));exact(k.ty q t xs (e.trans c) (λh=>ht (dJ _ h))).trans e⟩
theorem Md.mono(h:Md A B S w w')(h1:A'<=A)(h2:B<=B')(a:∀t∈S,t∈S'):Md A' B' S' w w':=⟨h.os,h.tape,h.output,h.size,λk hk hn=>h.block k hk O0,h.sh,λk t xs c ht=>h.ty k t xs c (λh=>ht (a _ h))⟩
theorem Md.trans(h:Md A B S w w')(k:Md A B S w' w''):Md A B S w w'':=(h.tr k).mono A8 A8 (λt h=>by simpa using h)
theorem Md.of(h:Bw w w'):Md A B S w w':=⟨h.os,h.tape,h.output,h.size,λk hk _=>h.block k hk,λk t xs c=>⟨xs,rfl,c.below h c.lt⟩,λk t xs c _=>h.block k c.lt⟩
theorem Md.below(h:Md A B S w w')(h1:N<=A)(h2:N<=w.heap.size):Below N w w':=⟨h.os,h.tape,h.output,h.size,λk hk=>h.block k O0 O0⟩
theorem Md.on{ys:List Value}(h:Md A B S w w')(h1:A<=g)(h2:g<B)(ht:t∈S)(o:Jr g w' w'')(c:Cl w' g t xs)(d:Cl w'' g t ys)(hl:ys.length=xs.length:=by simp):Md A B S w w'':=
 have one:∀{a zs},Cl w' g a zs->a=t/\zs=xs:=λc2=>by
  have:=c.symm.trans c2;injection this with e;injection e with e1 e2;exact⟨e2.symm,(List.toArray_inj e1).symm⟩
 h.trans ⟨o.os,o.tape,o.output,Vf o.size.symm,λk _ b=>o.block k O0,λk a zs c2=>by
  by_cases e:k=g
  ·subst e;obtain⟨rfl,rfl⟩:=one c2;exact⟨ys,hl,d⟩
  exact⟨zs,rfl,c2.on o e⟩,λk a zs c2 b=>o.block k (λe=>by
  subst e;exact b ((one c2).1▸ht))⟩
theorem Md.set(h:Md A B S w w')(h1:A<=g)(h2:g<B)(ht:t∈S)(hc:∃xs,Cl w' g t xs)(j:Nat)(v:Value):Md A B S w (w'.setCell ⟨g,j,none⟩ v):=by
 obtain⟨xs,c⟩:=hc;exact h.on h1 h2 ht (u_ w' g j v) c (c.set j v)
theorem Ow.md(h:Ow A' B' w a t m)(k:Md A B S w w'):Ow A' B' w' a t m:=by
 obtain⟨g,xs,h1,h2,d,c,h5⟩:=h;obtain⟨ys,h6,b⟩:=k.sh g t xs c;exact⟨g,ys,h1,h2,d,b,by omega⟩
theorem Ow.mono(h:Ow A B w a t m)(h1:A'<=A)(h2:B<=B'):Ow A' B' w a t m:=by
 obtain⟨g,xs,h1,h2,h3,c,b⟩:=h;exact⟨g,xs,h1,O0,O0,c,b⟩
end
section
variable{A B A' B' N m g j n L c p:Nat}{w w' w'':World}{a:OA}{t ti:TypeId}{xs:List Value}{v:Value}{S:List TypeId}
def XI(B:Nat)(u:World)(g:Nat)(t:TypeId)(L n m j:Nat)(ti:TypeId)(c:Nat):Prop:=(∃xs,Cl u g t xs/\L<=xs.length)/\∀i,i<n->∃ai ni ci,u.cell? ⟨g,i*m+j,none⟩=some (Sa ai ni ci)/\ni<=1048576/\Ow (g+1) B u ai ti (ni*c)
theorem XI.cell(h:XI B w g t L n m j ti c)(hp:p<L):∃v,w.cell? ⟨g,p,none⟩=some v:=by
 obtain⟨⟨xs,h1,h2⟩,_⟩:=h;exact⟨xs[p],by rw[h1.cell,V8 O0]⟩
theorem XI.opn(h:XI B w g t L n m j ti c)(p:Nat):w.frozen? ⟨g,p,none⟩=false:=by
 obtain⟨⟨xs,h1,h2⟩,_⟩:=h;exact h1.opn p
theorem XI.set(h:XI B w g t L n m j ti c)(v:Value)(u:∀i,i<n->p≠i*m+j):XI B (w.setCell ⟨g,p,none⟩ v) g t L n m j ti c:=by
 have o:=u_ w g p v;obtain⟨⟨xs,h1,h2⟩,x⟩:=h;refine⟨⟨_,h1.set p v,by simpa using h2⟩,λi a=>?_⟩;obtain⟨z,b,y,s,r,q,ys,l,k,f,e,d⟩:=x i a;refine⟨z,b,y,?_,r,q,ys,l,k,f,e.on o O0,d⟩;rw[(h1.set p v).cell,w_ (u i a),<- h1.cell];exact s
theorem XI.md(h:XI B w g t L n m j ti c)(k:Md A' B' S w w')(hk:w'.heap[g]?=w.heap[g]?):XI B w' g t L n m j ti c:=by
 obtain⟨⟨xs,h1,h2⟩,l⟩:=h;refine⟨⟨xs,hk.trans h1,h2⟩,λi f=>?_⟩;obtain⟨p,a,o,e,d,b⟩:=l i f;exact⟨p,a,o,by rw[show w'.cell? (aA g (i*m+j))=w.cell? (aA g (i*m+j)) by simp only[World.cell?,hk]];exact e,d,b.md k⟩
theorem XI.lt(h:XI B w g t L n m j ti c):g<w.heap.size:=by
 obtain⟨⟨xs,h1,h2⟩,_⟩:=h;exact h1.lt
theorem XI.call(h:XI B w g t L n m j ti c)(k:Bw w w'):XI B w' g t L n m j ti c:=h.md (Md.of (A:=0) (B:=0) (S:=[]) k) (k.block g h.lt)
end
theorem a0Y(k:Nat):∀n:Int,0<=n->n<10^(k+1)->(dec n).length<=k+1:=by
 induction k with
 | zero=>exact λn h0 h=>by rw[dec_lt n (by simpa using h)];simp
 | succ k ih=>
  intro n h0 h;by_cases h10:n<10
  ·rw[dec_lt n h10];simp
  rw[Sl n O0,Q9];have:=ih (n/10) O0 (Int.ediv_lt_of_lt_mul (by decide) (by rw[<- Int.pow_succ];exact h));simpa using this
theorem c91(K:Int)(w:World)(h1:1<=K)(h2:K<=100000000000000):
 Calls prog 91 #[Sc Se K] w λe w'=>e=.returned (Sb (U3 (109::dec K)))/\Bw w w':=by
 have hcv:=mM;have hcd:=MR;have hz:∀y,(strOfNums [y]).size=1:=λy=>strOfNums_size [y];have hdl:=a0Y 14 K O0 (by have:(10:Int)^(14+1)=1000000000000000:=rfl;omega)
 go_in
 go_wp2;go_loopw[0,3] (λk o wr=>∃(m:Int)(l:List UInt8),0<=m/\m<=100000000000000/\k=Sc Se m/\o=Sb (U3 l)/\Hid (dec K=if m=0 then l else dec m++l)/\Below w.heap.size w wr) (λk _ _=>(RowKit.intOf k).toNat);exact⟨K,[],O0,h2,rfl,rfl,by rw[U7 O0];simp[Hid],O4 _ _⟩;obtain⟨m,l,hm0,hm1,rfl,rfl,hl,b⟩:=hrel;by_cases hlt:0<m
 ·have c:(U3 l).size<=100000001:=by
   have:=hl.o;rw[U7 O0]at this;have:=G7 List.length this;rw[Q9]at this;rw[I5];omega
  have a:Hid (dec K=if m/10=0 then UInt8.ofNat (48+m%10).toNat::l else dec (m/10)++(UInt8.ofNat (48+m%10).toNat::l)):=by
   have h:=hl.o;rw[U7 O0]at h;by_cases h10:m<10
   ·rw[dec_lt m h10]at h;rw[D8 O0,show m%10=m by omega];exact h
   rw[Sl m O0]at h;rw[U7 O0];exact h.trans J4
  go_wp2;go_roundw;exact⟨m/10,_,O0,O0,rfl,by rw[TR],a,b.alloc b.size _⟩;exact V9
 obtain rfl:m=0:=O0;have a:Hid (dec K=l):=by have h:=hl.o;rwa[D8 rfl]at h
 have c:(U3 l).size<=100000001:=by rw[I5,<- a.o];omega
 go_wp2;go_ret;exact⟨Ov (by rw[a.o];simp only[TY,Xc];rfl),b⟩
section
variable{P:Program}{ops:Array Oper}{Q:Exit->Act->World->Prop}
