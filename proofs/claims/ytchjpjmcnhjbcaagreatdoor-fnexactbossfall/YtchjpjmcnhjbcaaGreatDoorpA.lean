import Derived.Test.YtchjpjmcnhjbcaaGreatDoorvG
import Derived.Lib.SliceRun
import Derived.Test.YtchjpjmcnhjbcaaGreatDoorMB
import Derived.Lib.Overlaps
import Derived.Lib.AppendZerosOnto
import Derived.Test.YtchjpjmcnhjbcaaGreatDooreR2
import Derived.Test.YtchjpjmcnhjbcaaGreatDooreX5
set_option linter.unusedVariables false
set_option maxHeartbeats 8000000
set_option maxRecDepth 100000
namespace Go.Proofs.YtchjpjmcnhjbcaaGreatDoor.T
open Proofs.Tryz Go.RowKit
variable {B B' b g i j n o p q:Nat} {u u' w w':World} {r t v:Value} {c e:Int} {d fs gs:List F2} {a nm:BY} {x:F2} {vs:List Value}
theorem _root_.Go.Proofs.YtchjpjmcnhjbcaaGreatDoor.But.setCells (b:Nat):∀ (vs:List Value) (o:Nat) {w w':World},But b w w'->But b w (w'.setCells b o vs)
 | [],_,_,_,h=>h
 | v::vs,o,_,_,h=>But.setCells b vs (o+1) (h.setCell o v)
theorem _root_.Go.Proofs.YtchjpjmcnhjbcaaGreatDoor.But.drew (h:But b w w'):But b w w'.drew:=⟨h.os,h.tape,h.output,h.size,h.block⟩
def KT (w:World) (g:Nat):Prop:=ng w g 133
theorem Zr (h:KT w g):KT (w.setCell ⟨q,j,none⟩ v) g:=by
 by_cases e:q=g
 · subst e;exact Ah h j v
 · obtain ⟨cur,fr,h⟩:=h;exact ⟨cur,fr,(Ec _ _ _ _ (fun k=>e k.symm)).trans h⟩
theorem Yi (g:Nat):∀ (vs:List Value) (o:Nat) {w:World} {b:Nat},KT w b->KT (w.setCells g o vs) b
 | [],_,_,_,h=>h
 | _::vs,o,_,_,h=>Yi g vs (o+1) (Zr h)
theorem aF {c:Nat} (h:Ak w B v fs) (hv:v=.slice (some ⟨g,0,none⟩) n c):KT w g:=N8 h (by rw [hv];rfl)
theorem dI (w:World) (ty:TypeId) (b o c:Nat) (h0:(w.cell? ⟨b,o,none⟩).isSome=true) (h1:(w.cell? ⟨b,o+1,none⟩).isSome=true) (hf:∀ j,w.frozen? ⟨b,j,none⟩=false):
 (Builtin.clear_ #[38] ty #[.slice (some ⟨b,o,none⟩) 1 c]).run prog w=.ok (.tuple #[]) (w.setCells b o [.string ⟨#[]⟩,.string ⟨#[]⟩]):=by
 have d:(Builtin.zeroCells (Value.agg #[vE,vE]).cells 1).toList=[vE,vE]:=Y2;have a:=run_storeCells_cells (P:=prog) b o [vE,vE] 0 w (fun j e=>by
  match j,e with
  | 0,_=>exact h0
  | 1,_=>exact h1) (fun j _=>hf _) (by intro v hv;simp at hv;rw [hv];rfl)
 simp only [En] at a;simp [Builtin.clear_,Wq underlying38,d,a]
def del (fs:List F2) (p:Nat):List F2:=fs.take p++fs.drop (p+1)
theorem Zw (h:p<fs.length):(del fs p).length=fs.length - 1:=by unfold del;rw [List.length_append,List.length_take,List.length_drop];omega
theorem nO (h:p<fs.length) (a:i<p):(del fs p).getD i I8=fs.getD i I8:=by
 unfold del;simp only [List.getD];rw [S_ (by rw [B_];omega),VB a]
theorem KO (h:p<fs.length) (hi:p<=i):(del fs p).getD i I8=(fs.drop (p+1)).getD (i - p) I8:=by
 unfold del;simp only [List.getD];rw [Ue (by rw [B_];omega),B_,xq O0]
theorem Vu (fs:List F2) (n i:Nat):(fs.drop n).getD i I8=fs.getD (n+i) I8:=by simp [List.getD]
theorem isSome_setCells (b:Nat):∀ (vs:List Value) (o:Nat) (w:World) (x:Addr),(w.cell? x).isSome=true->((w.setCells b o vs).cell? x).isSome=true
 | [],_,_,_,h=>h
 | v::vs,o,w,x,h=>isSome_setCells b vs (o+1) _ x (by
  obtain ⟨y,c⟩:=FT.1 h;obtain ⟨z,a⟩:=cell?_setCell_some (w:=w) (p:=⟨b,o,none⟩) (x:=v) c;rw [a];rfl)
theorem c210 (g d:Nat) (fs:List F2) (p:Nat) (w:World) (hl:fs.length<=40) (n:p<fs.length) (hc:fs.length<=d) (Q:g<w.heap.size) (m:∀ i,i<fs.length->w.cell? ⟨g,i*2,none⟩=some (.string (fs.getD i I8).nm)/\w.cell? ⟨g,i*2+1,none⟩=some (.string (fs.getD i I8).tx)) (o:∀ j,w.frozen? ⟨g,j,none⟩=false):
 Calls prog 210 #[.slice (some ⟨g,0,none⟩) fs.length d,.int .i64 p,.int .i64 ((p:Int)+1)] w fun e w'=>e=.returned (.slice (some ⟨g,0,none⟩) (fs.length - 1) d)/\G6 w' (some ⟨g,0,none⟩) (del fs p)/\Tn w' g (fs.length - 1)/\But g w w'/\(KT w g->KT w' g):=by
 obtain ⟨N,f,hz0,O,hz2⟩:=info_parts Fp;have hne:((p:Int)==(p:Int)+1)=false:=p_.2 O0;have hpc:p<=d:=O0;have hp0:(0:Int)<=(p:Int)+1:=O0;have hp1:(p:Int)+1<=(fs.length:Int):=O0;obtain ⟨A,hA,L⟩:∃ A:Addr,(if d=p+1 then some (aA g 0) else some (aA g ((p+1)*2)))=some A/\Hid (∀ j u,(I4 (fs.drop (p+1)))[j]?=some u->w.drew.cell? (A.add j)=some u):=by
  by_cases h:d=p+1
  · refine ⟨_,by rw [X7 h],fun j u l=>?_⟩;have h0:fs.drop (p+1)=[]:=List.drop_eq_nil_of_le O0;rw [h0] at l;simp [I4] at l
  · refine ⟨_,by rw [I7 h],fun j u l=>?_⟩;refine yw (w:=w.drew) (fs:=fs.drop (p+1)) (b:=g) (off:=(p+1)*2) (fun i f=>?_) j u l;rw [yj] at f;have:=m (p+1+i) O0;rw [Vu,show (p+1)*2+i*2=(p+1+i)*2 by omega];exact this
 have q:∀ j,j<fs.length*2->(w.cell? (aA g j)).isSome=true:=fun j a=>by
  have:=m (j / 2) O0;rcases DI j with h | h
  · rw [show j=j / 2*2 by omega,this.1];rfl
  · rw [show j=j / 2*2+1 by omega,this.2];rfl
 have t:Hid (∀ j,j<(I4 (fs.drop (p+1))).length->(w.drew.cell? (aA g (0+p*2+j))).isSome=true/\w.drew.frozen? (aA g (0+p*2+j))=false):=fun j a=>by
  rw [A8,yj] at a;exact ⟨q _ O0,o _⟩
 have W:=U0 m;have U:=U0 o;have V:=U0 q;clear m o q;go_enter func210,ntmps210
 go_wp2_with fail
 refine wp_region_held_drew (S:=(fun _=>True)) Y2 ?_ fun hHeld=>?_
 · ((try dsimp only);(try trivial))
 refine Y0 0 ?_;refine Y0 1 ?_;refine Y0 2 ?_;refine Y0 3 ?_;refine Y0 4 ?_;refine Y0 5 ?_;refine rq 6 fun K y=>?_;refine step_append_room rfl (.tmp 22) (.tmp 25) 38 rfl 133 N 2 underlying38 f O g 0 p d rfl A (fs.length - (p+1)) (d - (p+1)) (I4 (fs.drop (p+1))) rfl (by rw [A8,yj]) L.out yh O0 t.out ?_;clear hHeld;refine E8 y ?_ fun hHeld=>?_
 · trivial
 clear y K;refine Y0 7 ?_;refine wdn ?_;have r:(I4 (fs.drop (p+1))).length=(fs.length - (p+1))*2:=by rw [A8,yj]
 have C:∀ j,j<fs.length*2->((w.drew.setCells g (0+p*2) (I4 (fs.drop (p+1)))).cell? (aA g j)).isSome=true:=fun j a=>isSome_setCells g _ _ _ _ (V.out j a);have D:∀ j,(w.drew.setCells g (0+p*2) (I4 (fs.drop (p+1)))).frozen? (aA g j)=false:=fun j=>(World.frozen?_setCells g _ _ _ _).trans (U.out j);have z:∀ j,j<p*2->(w.drew.setCells g (0+p*2) (I4 (fs.drop (p+1)))).cell? (aA g j)=w.cell? (aA g j):=fun j a=>World.cell?_setCells_out g _ _ _ _ (fun _ _=>.inl (by show j<0+p*2;omega));have B:∀ j,j<(fs.length - (p+1))*2->(w.drew.setCells g (0+p*2) (I4 (fs.drop (p+1)))).cell? (aA g (p*2+j))=(I4 (fs.drop (p+1)))[j]?:=fun j a=>by
  have:=World.cell?_setCells_in g (I4 (fs.drop (p+1))) (0+p*2) w.drew (fun i f=>(t.out i f).1) j (by rw [r];exact a);rw [L8] at this ⊢;rw [this,Z8 (by rw [r];exact a)]
 have R:Hid (KT w g->KT (w.drew.setCells g (0+p*2) (I4 (fs.drop (p+1)))) g):=fun h=>Yi _ _ _ h;have E:But g w (w.drew.setCells g (0+p*2) (I4 (fs.drop (p+1)))):=But.setCells g _ _ (But.refl _ _).drew;have I:=U0 z;have J:=U0 B;have s:=U0 C;have F:=U0 D;have H:=U0 E;clear C D z B E r t L hHeld;generalize w.drew.setCells g (0+p*2) (I4 (fs.drop (p+1)))=k at*;have P:p+(fs.length - (p+1))=fs.length - 1:=O0;have hq1:fs.length - (fs.length - 1)=1:=O0;have hq2:fs.length - 1<=fs.length:=O0;have hq3:(p:Int)+((fs.length - (p+1):Nat):Int)=((fs.length - 1:Nat):Int):=O0;have hcl:∀ ty c,(Builtin.clear_ #[38] ty #[vL (some (aA g ((fs.length - 1)*2))) 1 c]).run prog k=.ok (.tuple #[]) (k.setCells g ((fs.length - 1)*2) [vE,vE]):=fun ty c=>
  dI k ty g _ c (s.out _ O0) (s.out _ O0) F.out
 rw [P];go_wp2;have x:∀ j,j<(fs.length - 1)*2->(k.setCells g ((fs.length - 1)*2) [vE,vE]).cell? (aA g j)=k.cell? (aA g j):=fun j a=>World.cell?_setCells_out g _ _ _ _ (fun _ _=>.inl (by show j<(fs.length - 1)*2;omega));have v:g<(k.setCells g ((fs.length - 1)*2) [vE,vE]).heap.size:=O9 Q (But.setCells g _ _ H.out).size;go_ret;refine ⟨rfl,.inr ⟨g,0,rfl,v,fun i f=>?_⟩,⟨v,fun j a=>?_,fun j=>(World.frozen?_setCells g _ _ _ _).trans (F.out j)⟩,But.setCells g _ _ H.out,fun h=>Yi _ _ _ (R.out h)⟩
 · rw [Zw n] at f;rw [L8,x _ O0,x _ O0];rcases Q7 i p with h | h
   · rw [I.out _ O0,I.out _ O0,nO n h];exact W.out i O0
   · obtain ⟨e0,e1⟩:=Xc (fs.drop (p+1)) (i - p) (by rw [yj];omega);have h0:=J.out ((i - p)*2) O0;have h1:=J.out ((i - p)*2+1) O0;rw [show p*2+(i - p)*2=i*2 by omega,e0] at h0;rw [show p*2+((i - p)*2+1)=i*2+1 by omega,e1] at h1;rw [KO n h];exact ⟨h0,h1⟩
 · exact FT.1 (isSome_setCells g _ _ _ _ (s.out j O0))
theorem Bh (h:G6 w (some ⟨B,0,none⟩) fs) (c:B<w.heap.size) (hf:∀ j,w.frozen? ⟨B,j,none⟩=false):Tn w B fs.length:=by
 refine ⟨c,fun j a=>?_,hf⟩;rcases h with h | ⟨b,off,h1,h2,d⟩
 · rw [h] at a;simp at a
 · obtain ⟨rfl,rfl⟩:B=b/\0=off:=by injection h1 with h1;injection h1 with e1 e2;exact ⟨e1,e2⟩
   have:=d (j / 2) O0;simp only [L8] at this;rcases DI j with h | h
   · rw [show j=j / 2*2 by omega];exact ⟨_,this.1⟩
   · rw [show j=j / 2*2+1 by omega];exact ⟨_,this.2⟩
theorem ne_of_lt' {b:BY} (h:lt a b=true):a≠b:=fun e=>by rw [e,Ic] at h;cases h
theorem a0e {x y:BY} (h:x≠y):(x.toList==y.toList)=false:=by
 rw [p_];intro e;rw [ByteArray.toList_eq,ByteArray.toList_eq] at e;exact h (Df (Yk.1 e))
theorem getD_mem (h:x∈fs):∃ i,i<fs.length/\fs.getD i I8=x:=by
 obtain ⟨i,a,rfl⟩:=Zd h;exact ⟨i,a,by simp [List.getD,Z8 a]⟩
theorem filter_all (h:∀ i,i<fs.length->(fs.getD i I8).nm≠nm):without fs nm=fs:=by
 unfold without;refine iJ.2 fun x hx=>?_;obtain ⟨i,a,rfl⟩:=getD_mem hx;rw [a0e (h i a)];rfl
theorem zN (h:i<p):(fs.take p).getD i I8=fs.getD i I8:=by simp [List.getD,VB h]
theorem Jv (hm:Asc fs) (b:p<fs.length):without fs (fs.getD p I8).nm=del fs p:=by
 have e:fs=fs.take p++fs.getD p I8::fs.drop (p+1):=by
  conv=>lhs;rw [<- Hl (p+1) fs,Xi b]
  simp
 have h1:without (fs.take p) (fs.getD p I8).nm=fs.take p:=filter_all fun i a=>by
  rw [B_] at a;rw [zN O0];exact ne_of_lt' (hm i p O0 b)
 have h2:without (fs.drop (p+1)) (fs.getD p I8).nm=fs.drop (p+1):=filter_all fun i a=>by
  rw [yj] at a;rw [Vu];exact (ne_of_lt' (hm p (p+1+i) O0 O0)).symm
 have c:without (fs.take p++fs.getD p I8::fs.drop (p+1)) (fs.getD p I8).nm=without (fs.take p) (fs.getD p I8).nm++without (fs.drop (p+1)) (fs.getD p I8).nm:=by
  unfold without;rw [Zu,List.filter_cons_of_neg X4]
 rw [<- e,h1,h2] at c;exact c
def Xh (fs:List F2) (nm:BY) (c:Int) (gs:List F2):Prop:=
 (¬ G_ fs/\c=1/\gs=[])\/(G_ fs/\(∀ i,i<fs.length->(fs.getD i I8).nm≠nm)/\c=4/\gs=[])\/(G_ fs/\(∃ i,i<fs.length/\(fs.getD i I8).nm=nm)/\c=0/\gs=without fs nm)
theorem JC (h:Xh fs nm c gs) (k:Xh fs nm e d):e=c/\d=gs:=by
 rcases h with ⟨h1,rfl,rfl⟩ | ⟨h1,h2,rfl,rfl⟩ | ⟨h1,⟨i,g,h2⟩,rfl,rfl⟩ <;> rcases k with ⟨a,rfl,rfl⟩ | ⟨a,b,rfl,rfl⟩ | ⟨a,⟨j,f,b⟩,rfl,rfl⟩
 · exact ⟨rfl,rfl⟩
 · exact absurd a h1
 · exact absurd a h1
 · exact absurd h1 a
 · exact ⟨rfl,rfl⟩
 · exact absurd b (h2 j f)
 · exact absurd h1 a
 · exact absurd h2 (b i g)
 · exact ⟨rfl,rfl⟩
theorem WL (h:Xh fs nm c gs):gs.length<=40:=by
 rcases h with ⟨h1,rfl,rfl⟩ | ⟨h1,h2,rfl,rfl⟩ | ⟨h1,h2,rfl,rfl⟩
 · simp
 · simp
 · exact G7 (Kv _ _) h1.1
theorem Yf {e:TypeId} {size:Nat} {xs:List Value} (h:w.ownsRow B e size v n xs) (hB:B'<=B):w.ownsRow B' e size v n xs:=by
 refine ⟨h.1,?_⟩;rcases h.2 with h2 | ⟨g,b,cur,hv,a,r⟩
 · exact .inl h2
 · exact .inr ⟨g,b,cur,hv,G7 hB a,r⟩
theorem MJ (w:World) (B:Nat):Ak w B (.slice none 0 0) []:=⟨rfl,.inl ⟨rfl,rfl⟩⟩
structure ji (w u:World) (t r:Value):Prop where
 bel:Bw w u
 ht:u.heap[w.heap.size]?=some (.cells #[t] 40 (0,0))
 hr:u.heap[w.heap.size+1]?=some (.cells #[r] 40 (0,0))
theorem ji.start (w:World) (t r:Value):ji w ((w.alloc (.cells #[t] 40)).alloc (.cells #[r] 40)) t r:=
 ⟨P6.alloc X4 _,by rw [alloc_old X4];exact qc rfl _,qc X4 _⟩
theorem ji.sz (h:ji w u t r):w.heap.size+2<=u.heap.size:=Jf h.hr
theorem ji.later (h:ji w u t r) (a:Bw u u'):ji w u' t r:=by
 have:=h.sz;exact ⟨h.bel.trans (a.mono O0),by rw [a.block _ O0];exact h.ht,by rw [a.block _ O0];exact h.hr⟩
theorem ji.but (h:ji w u t r) (a:But g u u') (hg:w.heap.size+2<=g):ji w u' t r:=by
 have:=h.sz;exact ⟨h.bel.trans (a.below O0 O0),by rw [a.block _ O0 O0];exact h.ht,by rw [a.block _ O0 O0];exact h.hr⟩
theorem ji.cells (h:ji w u t r):u.cell? ⟨w.heap.size,0,none⟩=some t/\u.cell? ⟨w.heap.size+1,0,none⟩=some r/\u.frozen? ⟨w.heap.size+1,0,none⟩=false:=
 ⟨by rw [Lib.cell_of_heap h.ht];rfl,by rw [Lib.cell_of_heap h.hr];rfl,Lib.frozen_of_heap h.hr 0⟩
theorem a3Z (a:OA) (d:Nat) (fs:List F2) (nm:BY) (w:World) (hl:fs.length<=1048576) (s:∀ i,(fs.getD i I8).le 1048576) (z:G6 w a fs):
 Calls prog 144 #[.agg #[.slice a fs.length d],.string nm] w fun e w'=>(∃ v c gs,e=.returned (.tuple #[.agg #[v],.int .i64 c])/\Ak w' w.heap.size v gs/\Xh fs nm c gs)/\Bw w w':=by
 have n:=U0 z;have P:=U0 s;have o:Hid (ji w ((w.alloc (.cells #[vL a fs.length d] 40)).alloc (.cells #[vN] 40)) (vL a fs.length d) vN):=ji.start _ _ _;clear z s;go_enter func144,ntmps144
 go_wp2_with fail
 refine (VZ a d fs _ hl P.out (J5 n.out o.out.bel)).mono ?_;rintro e E ⟨⟨v,rfl,hv⟩,y⟩;have j:=U0 hv;have k:=U0 (o.out.later y);obtain ⟨t1,q,L⟩:=k.out.cells;clear hv y o;cases v
 · have f:Hid (Xh fs nm 1 []):=.inl ⟨fun h=>(by have:=j.out.2 h;cases this),rfl,rfl⟩;clear j;go_wp2;refine Y6 (v:=.tuple #[.agg #[vN],vI 1]) (by simp [results,results144,go_sem,q]) rfl ⟨⟨_,_,_,rfl,MJ _ _,f.out⟩,k.out.bel.setCell X4 _⟩
 have l:=j.out.1 rfl;have J:=l.1;have B:=U0 l;clear l j
 go_wp2_with fail
 refine (c193 a d fs nm E O0 (J5 n.out k.out.bel)).mono ?_;rintro e D ⟨⟨r,rfl,hr⟩,x⟩;have A:Hid ((r<0/\∀ i,i<fs.length->(fs.getD i I8).nm≠nm)\/(0<=r/\∃ i,i<fs.length/\(fs.getD i I8).nm=nm)):=by
  rcases hr with ⟨rfl,h⟩ | ⟨i,rfl,h⟩
  · exact .inl ⟨o6,h⟩
  exact .inr ⟨O0,i,h⟩
 have g:=U0 (k.out.later x);clear hr x t1 q L;obtain ⟨t2,p,K⟩:=g.out.cells;by_cases I:r<0
 · have f:Hid (Xh fs nm 4 []):=.inr (.inl ⟨B.out,by rcases A.out with h | h;exact h.2;omega,rfl,rfl⟩);go_wp2;refine Y6 (v:=.tuple #[.agg #[vN],vI 4]) (by simp [results,results144,go_sem,p]) rfl ⟨⟨_,_,_,rfl,MJ _ _,f.out⟩,g.out.bel.setCell X4 _⟩
 have f:Hid (Xh fs nm 0 (without fs nm)):=.inr (.inr ⟨B.out,by rcases A.out with h | h;omega;exact h.2,rfl,rfl⟩);have hneg':=S9 I
 go_wp2_with fail
 refine (a2C a d fs nm D J (J5 n.out g.out.bel)).mono ?_;rintro e w3 ⟨⟨v,rfl,t⟩,u⟩;have m:=U0 t;have C:=U0 (g.out.later u);have hz2:=g.out.sz;clear t u t2 p K;obtain ⟨t3,F,f3⟩:=C.out.cells;obtain ⟨O,N,H,_⟩:=m.out.form;subst H;go_wp2;refine Y6 (v:=.tuple #[.agg #[vL O (without fs nm).length N],vO]) (by simp [results,results144,go_sem,F]) rfl ⟨⟨_,_,_,rfl,?_,f.out⟩,C.out.bel.setCell X4 _⟩;exact Dy (b:=w.heap.size+1) (Yf m.out O0) ((But.refl _ _).setCell _ _) (fun e=>by have:=(m.out.lt _ e).1;omega)
theorem Bv (h:Ak w B v fs) {p:Nat} (hp:p<fs.length):∃ g a,v=.slice (some ⟨g,0,none⟩) fs.length a/\B<=g/\fs.length<=a/\(∀ i,i<fs.length->w.cell? ⟨g,i*2,none⟩=some (.string (fs.getD i I8).nm)/\w.cell? ⟨g,i*2+1,none⟩=some (.string (fs.getD i I8).tx))/\(∀ j,w.frozen? ⟨g,j,none⟩=false)/\g<w.heap.size:=by
 have c:=h;rcases h.2 with ⟨hv,h0⟩ | ⟨g,a,cur,hv,f,b,d,_⟩
 · omega
 · subst hv;refine ⟨g,a,rfl,f,d,fun i e=>?_,fun j=>Lib.frozen_of_heap b j,Jf b⟩;obtain ⟨e0,e1⟩:=Xc fs i e;rw [c.cellAt _ O0,c.cellAt _ O0];exact ⟨e0,e1⟩
theorem TF (h:Tn w b n) (a:g≠b):Tn (w.setCell ⟨g,j,none⟩ v) b n:=by
 refine ⟨by simpa using h.1,fun i c=>?_,fun i=>by have:=h.2.2 i;simpa using this⟩;rw [Na _ _ _ _ (by intro e;injection e with e1 _;exact a e1)];exact h.2.1 i c
def Ht (B:Nat) (w:World) (a:OA) (gs:List F2):Prop:=G6 w a gs/\(gs=[]\/∃ g,a=some ⟨g,0,none⟩/\B<=g/\Tn w g gs.length/\KT w g)
theorem c156 (a:OA) (k:Nat) (fs:List F2) (nm:BY) (w:World) (hl:fs.length<=1048576) (D:∀ i,(fs.getD i I8).le 1048576) (R:G6 w a fs):
 Calls prog 156 #[.agg #[.slice a fs.length k],.string nm] w fun e w'=>(∃ U cap' c gs,e=.returned (.tuple #[.agg #[.slice U gs.length cap'],.int .i64 c])/\Ht w.heap.size w' U gs/\Xh fs nm c gs)/\Bw w w':=by
 have y:=U0 R;have HS:=U0 D;have z:Hid (ji w ((w.alloc (.cells #[vL a fs.length k] 40)).alloc (.cells #[vN] 40)) (vL a fs.length k) vN):=ji.start _ _ _;clear R D;go_enter func156,ntmps156
 go_wp2_with fail
 refine (gZ a k fs _ hl HS.out (J5 y.out z.out.bel)).mono ?_;rintro e w1 ⟨⟨v,rfl,hv⟩,Q⟩;have o:=U0 hv;have q:=U0 (z.out.later Q);obtain ⟨t1,B,f1⟩:=q.out.cells;clear hv Q z;cases v
 · have l:Hid (Xh fs nm 1 []):=.inl ⟨fun h=>(by have:=o.out.2 h;cases this),rfl,rfl⟩;clear o;go_wp2;refine Y6 (v:=.tuple #[.agg #[vN],vI 1]) (by simp [results,results156,go_sem,B]) rfl ⟨⟨none,0,_,[],rfl,⟨.inl rfl,.inl rfl⟩,l.out⟩,q.out.bel.setCell X4 _⟩
 have t:=o.out.1 rfl;have F:=t.1;have m:=U0 t;clear t o
 go_wp2_with fail
 refine (c173 a k fs nm w1 F (J5 y.out q.out.bel) (Uh m.out)).mono ?_;rintro e w2 ⟨⟨p,f,rfl,j⟩,P⟩;have x:=U0 j;have n:=U0 (q.out.later P);clear j P t1 B f1;obtain ⟨t2,A,f2⟩:=n.out.cells;cases f
 · have l:Hid (Xh fs nm 4 []):=by
    refine .inr (.inl ⟨m.out,fun i H e=>?_,rfl,rfl⟩);have j:=x.out;rcases Q7 i p with h | h
    · have:=j.less i h;rw [e,Ic] at this;cases this
    · rcases Q7 p i with h1 | h1
      · have h2:=Uh m.out p i h1 H;rw [e,j.more p H8 O0] at h2;cases h2
      · obtain rfl:i=p:=O0;have:=j.here.2 ⟨H,e⟩;cases this
   go_wp2;refine Y6 (v:=.tuple #[.agg #[vN],vI 4]) (by simp [results,results156,go_sem,A]) rfl ⟨⟨none,0,_,[],rfl,⟨.inl rfl,.inl rfl⟩,l.out⟩,n.out.bel.setCell X4 _⟩
 obtain ⟨d,r⟩:=x.out.here.1 rfl;have l:Hid (Xh fs nm 0 (del fs p)):=by
  refine .inr (.inr ⟨m.out,⟨p,d,r⟩,rfl,?_⟩);rw [<- r,Jv (Uh m.out) d]
 obtain ⟨b,off,hc⟩:=Z9 (J5 y.out n.out.bel);obtain ⟨ha,hbw,K⟩:=Cc hc d;subst ha;have W:=U0 K;clear K x r;have hz2:=n.out.sz
 go_wp2_with fail
 refine (c208 (some (aA b off)) k fs w2 O0 (.inr ⟨b,off,rfl,hbw,W.out⟩)).mono ?_;rintro e Z ⟨v,rfl,s,O⟩;obtain ⟨g,u,C,hg,hnc,L,I,hgw⟩:=Bv s d;have H40:=U0 (aF s C);subst C;have H3:=U0 (n.out.later O);have X:=U0 L;have V:=U0 I;clear s O L I W t2 A f2
 go_wp2_with fail
 refine (c210 g u fs p Z F d hnc hgw X.out V.out).mono ?_;rintro e w4 ⟨rfl,J,E,N,S⟩;have HO4:=U0 (S H40.out);clear S;have Y:=U0 (H3.out.but N O0);have HFA:=U0 J;have HOP:=U0 E;obtain ⟨t4,r4,f4⟩:=Y.out.cells;clear J E N X V;go_wp2;refine Y6 (v:=.tuple #[.agg #[vL (some (aA g 0)) (fs.length - 1) u],vO]) (by simp [results,results156,go_sem,r4]) rfl ⟨⟨some (aA g 0),u,0,del fs p,by rw [Zw d],⟨zq HFA.out U7,.inr ⟨g,rfl,O0,?_⟩⟩,l.out⟩,Y.out.bel.setCell X4 _⟩;rw [Zw d];exact ⟨TF HOP.out O0,Zr HO4.out⟩
structure KAt (old:List F2) (nm:BY) (k:Nat):Prop where
 le:k<=old.length
 less:∀ j,j<k->lt (old.getD j I8).nm nm=true
 stop:k=old.length\/lt (old.getD k I8).nm nm=false
theorem YU {old:List F2} {k k':Nat} (h:KAt old nm k) (a:KAt old nm k'):k=k':=by
 rcases Qv k k' with h1 | h1 | h1
 · rcases h.stop with h2 | h2
   · have:=a.le;omega
   · rw [a.less k h1] at h2;cases h2
 · exact h1
 · rcases a.stop with h2 | h2
   · have:=h.le;omega
   · rw [h.less k' h1] at h2;cases h2
def ins (old:List F2) (k:Nat) (x:F2):List F2:=old.take k++x::old.drop k
theorem NE (old:List F2) (k:Nat) (x:F2) (h:k<=old.length):(ins old k x).length=old.length+1:=by
 unfold ins;rw [List.length_append,List.length_cons,List.length_take,List.length_drop];omega
def Ym (fs:List F2) (x:F2) (c:Int) (gs:List F2):Prop:=
 (¬ G_ fs/\c=1/\gs=[])\/(G_ fs/\Q_ x=false/\c=2/\gs=[])\/(G_ fs/\Q_ x=true/\40<=(without fs x.nm).length/\c=3/\gs=[])\/(G_ fs/\Q_ x=true/\(without fs x.nm).length<40/\c=0/\∃ k,KAt (without fs x.nm) x.nm k/\gs=ins (without fs x.nm) k x)
theorem rG (h:Ym fs x c gs) (k:Ym fs x e d):e=c/\d=gs:=by
 rcases h with ⟨h1,rfl,rfl⟩ | ⟨h1,h2,rfl,rfl⟩ | ⟨h1,h2,m,rfl,rfl⟩ | ⟨h1,h2,m,rfl,i,l,rfl⟩ <;> rcases k with ⟨a,rfl,rfl⟩ | ⟨a,b,rfl,rfl⟩ | ⟨a,b,f,rfl,rfl⟩ | ⟨a,b,f,rfl,j,g,rfl⟩
 all_goals first
  | exact ⟨rfl,rfl⟩
  | exact absurd a h1
  | exact absurd h1 a
  | (exact absurd (h2.symm.trans b) o6)
  | (exfalso;omega)
  | (rw [YU l g];exact ⟨rfl,rfl⟩)
theorem wP (h:Ym fs x c gs):gs.length<=40:=by
 rcases h with ⟨h1,rfl,rfl⟩ | ⟨h1,h2,rfl,rfl⟩ | ⟨h1,h2,b,rfl,rfl⟩ | ⟨h1,h2,b,rfl,i,a,rfl⟩
 · simp
 · simp
 · simp
 · rw [NE _ _ _ a.le];omega
structure Qd (w u:World) (t:Value) (x:F2) (r:Value):Prop where
 bel:Bw w u
 ht:u.heap[w.heap.size]?=some (.cells #[t] 40 (0,0))
 hf:u.heap[w.heap.size+1]?=some (.cells #[.string x.nm,.string x.tx] 133 (0,0))
 hr:u.heap[w.heap.size+1+1]?=some (.cells #[r] 40 (0,0))
theorem Qd.start (w:World) (t:Value) (x:F2) (r:Value):Qd w (((w.alloc (.cells #[t] 40)).alloc (.cells #[.string x.nm,.string x.tx] 133)).alloc (.cells #[r] 40)) t x r:=by
 refine ⟨(P6.alloc X4 _).alloc U7 _,?_,?_,?_⟩
 · rw [alloc_old U7,alloc_old X4];exact qc rfl _
 · rw [alloc_old X4];exact qc X4 _
 · exact qc X4 _
theorem Qd.sz (h:Qd w u t x r):w.heap.size+3<=u.heap.size:=Jf h.hr
theorem Qd.later (h:Qd w u t x r) (a:Bw u u'):Qd w u' t x r:=by
 have:=h.sz;exact ⟨h.bel.trans (a.mono O0),by rw [a.block _ O0];exact h.ht,by rw [a.block _ O0];exact h.hf,by rw [a.block _ O0];exact h.hr⟩
theorem Qd.but (h:Qd w u t x r) (a:But g u u') (hg:w.heap.size+3<=g):Qd w u' t x r:=by
 have:=h.sz;exact ⟨h.bel.trans (a.below O0 O0),by rw [a.block _ O0 O0];exact h.ht,by rw [a.block _ O0 O0];exact h.hf,by rw [a.block _ O0 O0];exact h.hr⟩
theorem Qd.cells (h:Qd w u t x r):u.cell? ⟨w.heap.size,0,none⟩=some t/\u.cell? ⟨w.heap.size+1,0,none⟩=some (.string x.nm)/\u.cell? ⟨w.heap.size+1,1,none⟩=some (.string x.tx)/\u.cell? ⟨w.heap.size+1+1,0,none⟩=some r/\u.frozen? ⟨w.heap.size+1+1,0,none⟩=false:=
 ⟨by rw [Lib.cell_of_heap h.ht];rfl,by rw [Lib.cell_of_heap h.hf];rfl,by rw [Lib.cell_of_heap h.hf];rfl,by rw [Lib.cell_of_heap h.hr];rfl,Lib.frozen_of_heap h.hr 0⟩
theorem own_below (h:Ak w B v fs) {n:Nat} (d:Below n w w') (a:∀ k,v.ownBlock=some k->k<n):Ak w' B v fs:=by
 obtain ⟨h1,h2⟩:=h;refine ⟨h1,?_⟩;rcases h2 with h | ⟨g,e,cur,hv,c,b,hr⟩
 · exact .inl h
 · exact .inr ⟨g,e,cur,hv,c,by rw [d.block g (a g (by rw [hv];rfl))];exact b,hr⟩
theorem fK {a:OA} {c:Nat} (h:Ak w B (.slice a n c) fs):fs.length<=c:=by
 rcases h.2 with ⟨hv,h0⟩ | ⟨g,cap,cur,hv,hg,hh,hnc,_⟩
 · omega
 · injection hv with _ _ e;omega
theorem FM (b off i:Nat):(⟨b,off,none⟩:Addr).add i=⟨b,off+i,none⟩:=by unfold Addr.add;split <;> simp_all
theorem Xo (w:World) (ty:TypeId) (b o e m:Nat) (a:Addr) (c d n:Nat) (cs:List Value) (i:Nat.min c e=n) (hl:cs.length=n*2)
 (h:∀ j v,cs[j]?=some v->w.cell? (a.add j)=some v) (hc:∀ j,j<cs.length->(w.cell? ⟨b,o+j,none⟩).isSome=true) (hf:∀ j,w.frozen? ⟨b,j,none⟩=false) (h1:∀ v∈cs,v.oneCell'=true):
 (Builtin.copy_ #[38,38] ty #[.slice (some ⟨b,o,none⟩) e m,.slice (some a) c d]).run prog w=.ok (goInt n) (w.setCells b o cs):=by
 obtain ⟨i0,k,hz0,f,hz2⟩:=info_parts Fp;have l:=run_firstCells_some (P:=prog) w 2 n a c d cs hl h;have g:=run_storeCells_cells (P:=prog) b o cs 0 w (by simpa using hc) (fun j _=>hf _) h1;simp [Builtin.copy_,Wq underlying38,Builtin.lenOf,sizeOf,typeInfo,k,f,i,l,g]
theorem wpList_copy_runI (w:World) {P:Program} {ops:Array Oper} {rest:List Oper} {o:Oper} {a:Act} {Q:Exit->Act->World->Prop} (e:o.guard=none) (d s:Operand) (t b:TypeId)
 (ho:o.op=.call { callee:=.builtin .copy,args:=#[d,s],argTypes:=#[t,b] }) (v u:Value) (hd:a.eval d=v) (c:a.eval s=u) {v':Value} {w':World}
 (hr:(Builtin.copy_ #[t,b] o.type #[v,u]).run P w=.ok v' w') (h:wpList P ops Q rest (a.put o.dst v') w'):wpList P ops Q (o::rest) a w:=
 cu e fun K f=>by
  unfold Oper.wp execOp;simp only [ho,resolve,invoke,builtin,qi,Ro,ak,YI,Hq,QE,hd,c,hr];exact f _ _ h
theorem step_copy_runI {P:Program} {ops:Array Oper} {o:Oper} {a:Act} {K:Act->World->Prop} {Q:Exit->Act->World->Prop} {E:Prop}
 (f:o.guard=none) (d x:Operand) (c b:TypeId) (e:o.op=Op.call { callee:=Callee.builtin Builtin.copy,args:=#[d,x],argTypes:=#[c,b] })
 (v u:Value) (hd:a.eval d=v) (hx:a.eval x=u) {v':Value} {w':World} (hr:(Builtin.copy_ #[c,b] o.type #[v,u]).run P w=.ok v' w') (g:K (a.put o.dst v') w'):
 if Region.wanted o (yielded ops a.tmps)=true then Oper.wp P o a w K Q else E:=by
 have hw:Region.wanted o (yielded ops a.tmps)=true:=by simp [Region.wanted,f]
 rw [X7 hw];unfold Oper.wp;simp [execOp,e,resolve,invoke,builtin,hd,hx,hr,Result.andThen];exact g
theorem AZ:∀ w,(sizeOf 133).run prog w=.ok 2 w:=fun w=>by
 obtain ⟨i0,b,hz0,a,hz2⟩:=info_parts Fp;simp [sizeOf,typeInfo,b,a]
theorem a0V (b c i a:Nat) (fs:List F2) (x:F2) (w:World) (hi:i<fs.length) (hl:fs.length<=40) (hroom:fs.length+1<=c) (y:a≠b)
 (C:∀ j v,(I4 fs)[j]?=some v->w.cell? ⟨b,0+j,none⟩=some v) (n:∀ j,j<(fs.length+1)*2->(w.cell? ⟨b,j,none⟩).isSome=true) (o:∀ j,w.frozen? ⟨b,j,none⟩=false)
 (u:∀ j v,[Value.string x.nm,.string x.tx][j]?=some v->w.cell? ⟨a,0+j,none⟩=some v)
 (s r:TypeId) (t m:Nat) (B:w.shape? a=some (s,t)) (A:w.shape? b=some (r,m)) (H:m≠0) (p:∀ j,w.frozen? ⟨a,j,none⟩=false):
 Calls prog 209 #[.slice (some ⟨b,0,none⟩) fs.length c,.int .i64 i,.slice (some ⟨a,0,none⟩) 1 1] w fun e w'=>
  e=.returned (.slice (some ⟨b,0,none⟩) (fs.length+1) c)/\w'=(w.drew.setCells b ((i+1)*2) (I4 (fs.drop i))).setCells b (i*2) [.string x.nm,.string x.tx]:=by
 have hz2:¬ ((i:Int)=(fs.length:Int)):=O0;have F:∀ lb cb,(callFunc 253 #[vL (some (aA a 0)) 1 1,vL (some (aA b ((i+1)*2))) lb cb]).run prog w=.ok (.value (.bool false)) w:=fun lb cb=>by
  rw [run_callFunc_extern func253 Y2 Y2 Y2 (e:=Extern.SlicesOverlaps.overlaps #[38,38] #[4]) Y2,
   Lib.run_overlaps_apart w 38 4 133 underlying38 2 AZ (aA a 0) (aA b ((i+1)*2)) 1 1 lb cb y s r t m B A H (p _) (p _)]
  rfl
 have q:(I4 (fs.drop i)).length=(fs.length - i)*2:=by rw [A8,yj]
 have hw1:IntKind.i64.wrap ((i:Int)+1)=(i:Int)+1:=by rw [show (i:Int)+1=((i+1:Nat):Int) by omega];exact Fa (i+1) O0
 have hb1:(0:Int)<=(i:Int)+1:=O0;have hb6:(i:Int)+1<=(fs.length:Int)+1:=O0;have hin:i<=fs.length:=O0;have htn:((i:Int)+1).toNat=i+1:=O0;have hb2:¬ (c=i+1):=O0;have hb3:(i:Int)<=(fs.length:Int)+1:=O0;have hb4:¬ (c=i):=O0;have hb5:¬ (c<fs.length+1):=O0;have D:∀ ty f sc,(Builtin.copy_ #[38,38] ty #[vL (some (aA b ((i+1)*2))) (fs.length - i) f,vL (some (aA b (i*2))) (fs.length+1 - i) sc]).run prog w.drew=.ok (goInt ((fs.length - i:Nat))) (w.drew.setCells b ((i+1)*2) (I4 (fs.drop i))):=fun ty f sc=>
  Xo w.drew ty b ((i+1)*2) (fs.length - i) f (aA b (i*2)) (fs.length+1 - i) sc (fs.length - i) _ (by simp only [lD];split <;> omega) q
   (fun j v d=>by
    rw [FM];have J:(I4 fs)[i*2+j]?=some v:=by
     have e:I4 fs=I4 (fs.take i)++I4 (fs.drop i):=by rw [<- Tc,Hl]
     rw [e,Ue (by rw [A8,B_];omega),A8,B_,xq O0,jR];exact d
    have:=C _ _ J;rw [L8] at this;exact this)
   (fun j d=>n _ (by rw [q] at d;omega)) o yh
 obtain ⟨l,g⟩:∃ l,l=w.drew.setCells b ((i+1)*2) (I4 (fs.drop i)):=⟨_,rfl⟩;have z:∀ k,k<(fs.length+1)*2->(l.cell? (aA b k)).isSome=true:=fun k I=>by
  rw [g];exact isSome_setCells b _ _ _ _ (n k I)
 have K:∀ (W:World),(∀ x,W.cell? x=l.cell? x)->(∀ x,W.frozen? x=l.frozen? x)->∀ ty f,(Builtin.copy_ #[38,38] ty #[vL (some (aA b (i*2))) (fs.length+1 - i) f,vL (some (aA a 0)) 1 1]).run prog W=.ok (goInt 1) (W.setCells b (i*2) [vS x.nm,vS x.tx]):=fun W E L ty f=>
  Xo W ty b (i*2) (fs.length+1 - i) f (aA a 0) 1 1 1 [vS x.nm,vS x.tx] (by simp only [lD];split <;> omega) rfl
   (fun j v d=>by
    rw [FM,E,g,World.cell?_setCells_out b _ _ _ _ (fun h _=>absurd h y)];exact u j v d)
   (fun j d=>by rw [E];exact z _ (by simp at d;omega)) (fun j=>by rw [L,g,World.frozen?_setCells];exact o _) (by intro v hv;simp at hv;rcases hv with rfl | rfl <;> rfl)
 rw [<- g] at D;clear C n o u p B A z q;go_enter func209,ntmps209
 go_wp2_with (simp only [F])
 go_region_law (refine step_copy_runI rfl _ _ 38 38 rfl _ _ (by simp [Act.eval,Act.put]) (by simp [Act.eval,Act.put]) (D _ _ _) ?_)
 go_wp2_with (at_builtin;refine wpList_copy_runI _ rfl _ _ 38 38 rfl _ _ rfl rfl (K _ (fun _=>rfl) (fun _=>rfl) _ _) ?_)
 go_ret
 first | exact ⟨rfl,rfl⟩ | exact ⟨rfl,by rw [g]⟩
theorem a1b (b c i k:Nat) (fs:List F2) (x:F2) (w:World) (hi:i<fs.length) (hl:fs.length<=40) (hnc:fs.length<=c) (U:c<fs.length+1) (hbw:b<w.heap.size) (S:k<w.heap.size)
 (u:∀ j v,(I4 fs)[j]?=some v->w.cell? ⟨b,0+j,none⟩=some v)
 (H:∀ j v,[Value.string x.nm,.string x.tx][j]?=some v->w.cell? ⟨k,0+j,none⟩=some v):
 Calls prog 209 #[.slice (some ⟨b,0,none⟩) fs.length c,.int .i64 i,.slice (some ⟨k,0,none⟩) 1 1] w fun e w'=>∃ (G:Nat) (a:Array Value),fs.length+1<=G/\(fs.length+1)*2<=a.size/\(∀ j,j<i*2->a[j]?=(I4 fs)[j]?)/\
  e=.returned (.slice (some ⟨w.heap.size,0,none⟩) (fs.length+1) G)/\
  w'=(((w.alloc (.cells a 133)).drew.setCells w.heap.size (i*2) [.string x.nm,.string x.tx]).drew).setCells w.heap.size ((i+1)*2) (I4 (fs.drop i)):=by
 obtain ⟨E,Y,R,Q,F⟩:=info_parts Fp;have hz2:¬ ((i:Int)=(fs.length:Int)):=O0;have hz3:(c:Int)<(fs.length:Int)+1:=O0;have J:(fs.length:Int)+1 - (i:Int)=((fs.length+1 - i:Nat):Int):=O0;have r:i+(fs.length+1 - i)=fs.length+1:=O0;have I:(Builtin.firstCells E.size i (vL (some (aA b 0)) i c)).run prog w.drew=.ok (I4 (fs.take i)).toArray w.drew:=by
  rw [Q];exact run_firstCells_some w.drew 2 i (aA b 0) i c (I4 (fs.take i)) (by rw [A8,B_];omega) (fun j v d=>by
   rw [FM];refine u j v ?_;have hjl:j<i*2:=by have:=(Tm.1 d).1;rw [A8,B_] at this;omega
   have e:I4 fs=I4 (fs.take i)++I4 (fs.drop i):=by rw [<- Tc,Hl]
   rw [e,S_ (by rw [A8,B_];omega)];exact d)
 have n:∀ ty,(Builtin.append_ #[38,3] ty #[vL (some (aA b 0)) i c,vI ((fs.length:Int)+1 - (i:Int))]).run prog w=
  .ok (vL (some (aW w 0)) (fs.length+1) (grownCap w (fs.length+1) c 133)) (w.drew.alloc (.cells ((I4 (fs.take i)).toArray++Builtin.zeroCells (Value.agg #[vE,vE]).cells (fs.length+1 - i)++Builtin.zeroCells (Value.agg #[vE,vE]).cells (grownCap w (fs.length+1) c 133 - (fs.length+1))) 133)):=fun ty=>by
  have h:=Lib.run_append_grow_zeros w 38 3 ty 133 E _ .i64 .i64 underlying38 underlying3 Y R (some (aA b 0)) i c (I4 (fs.take i)) I (fs.length+1 - i) O0 O0 O0 O0 (by rw [F];omega) (by rw [F,r];exact growslice_fits U O0);rw [r] at h;rw [J];exact h
 obtain ⟨G,p⟩:∃ G,G=grownCap w (fs.length+1) c 133:=⟨_,rfl⟩;obtain ⟨a,o⟩:∃ a:Array Value,a=(I4 (fs.take i)).toArray++Builtin.zeroCells (Value.agg #[vE,vE]).cells (fs.length+1 - i)++Builtin.zeroCells (Value.agg #[vE,vE]).cells (G - (fs.length+1)):=⟨_,rfl⟩;rw [<- p] at n;rw [<- o] at n;have L:(fs.length+1)*2<=a.size:=by
  rw [o];simp [Builtin.zeroCells,Value.cells,A8];omega
 have N:∀ j,j<i*2->a[j]?=(I4 fs)[j]?:=fun j d=>by
  have e:I4 fs=I4 (fs.take i)++I4 (fs.drop i):=by rw [<- Tc,Hl]
  have hlen:(I4 (fs.take i)).length=i*2:=by rw [A8,B_];omega
  rw [o,e,S_ O0,Array.append_assoc,Array.getElem?_append_left (by simpa using (by omega:j<(I4 (fs.take i)).length))];simp
 obtain ⟨f,m⟩:∃ f,f=w.drew.alloc (.cells a 133):=⟨_,rfl⟩;rw [<- m] at n;have s:(w.drew.alloc (.cells a 133)).heap[w.heap.size]?=some (.cells a 133 (0,0)):=qc (w:=w.drew) rfl _;have C:∀ j,j<(fs.length+1)*2->(f.cell? (aW w j)).isSome=true:=fun j d=>by
  rw [m,Lib.cell_of_heap s,zI O0];rfl
 have B:∀ j,f.frozen? (aW w j)=false:=fun j=>by rw [m];exact Lib.frozen_of_heap s j
 have A:∀ q j v,q<w.heap.size->w.cell? (aA q j)=some v->f.cell? (aA q j)=some v:=fun q j v V h=>by rw [m,Qh _ _ _ (by exact V)];exact h
 have hcpA:∀ (W:World),(∀ x,W.cell? x=f.cell? x)->(∀ x,W.frozen? x=f.frozen? x)->∀ ty g,(Builtin.copy_ #[38,38] ty #[vL (some (aW w (i*2))) (fs.length+1 - i) g,vL (some (aA k 0)) 1 1]).run prog W=.ok (goInt 1) (W.setCells w.heap.size (i*2) [vS x.nm,vS x.tx]):=fun W l z ty g=>
  Xo W ty w.heap.size (i*2) (fs.length+1 - i) g (aA k 0) 1 1 1 [vS x.nm,vS x.tx] (by simp only [lD];split <;> omega) rfl
   (fun j v d=>by rw [FM,l];exact A _ _ v S (H j v d))
   (fun j d=>by rw [l];exact C _ (by simp at d;omega)) (fun j=>by rw [z];exact B _) (by intro v hv;simp at hv;rcases hv with rfl | rfl <;> rfl)
 have hGn:fs.length+1<=G:=by rw [p];exact grownCap_ge w _ _ _
 have hG63:G<=9223372036854775807:=by
  have:=grownCap_le_maxLen w (fs.length+1) c 133 (by unfold maxLen;omega);rw [<- p] at this;unfold maxLen at this;omega
 have hGi:¬ (G=i):=O0;have hGim:¬ (G=i+1):=O0;have hci:¬ (c=i):=O0;have hbN:b≠w.heap.size:=O0;have t:(I4 (fs.drop i)).length=(fs.length - i)*2:=by rw [A8,yj]
 have K:∀ (W:World),(∀ y,W.cell? y=(f.setCells w.heap.size (i*2) [vS x.nm,vS x.tx]).cell? y)->(∀ y,W.frozen? y=(f.setCells w.heap.size (i*2) [vS x.nm,vS x.tx]).frozen? y)->∀ ty dl g sc,dl=fs.length - i->(Builtin.copy_ #[38,38] ty #[vL (some (aW w ((i+1)*2))) dl g,vL (some (aA b (i*2))) (fs.length - i) sc]).run prog W=.ok (goInt ((fs.length - i:Nat))) (W.setCells w.heap.size ((i+1)*2) (I4 (fs.drop i))):=fun W l z ty dl g sc Z=>
  Xo W ty w.heap.size ((i+1)*2) dl g (aA b (i*2)) (fs.length - i) sc (fs.length - i) _ (by rw [Z];simp only [lD];split <;> omega) t
   (fun j v d=>by
    rw [FM,l,World.cell?_setCells_out _ _ _ _ _ (fun h _=>absurd h hbN)];have X:(I4 fs)[i*2+j]?=some v:=by
     have e:I4 fs=I4 (fs.take i)++I4 (fs.drop i):=by rw [<- Tc,Hl]
     rw [e,Ue (by rw [A8,B_];omega),A8,B_,xq O0,jR];exact d
    have:=u _ _ X;rw [L8] at this;exact A _ _ v hbw this)
   (fun j d=>by rw [l];exact isSome_setCells _ _ _ _ _ (C _ (by rw [t] at d;omega)))
   (fun j=>by rw [z,World.frozen?_setCells];exact B _) yh
 subst m;have hE1:∀ x,((w.alloc (.cells a 133)).drew).cell? x=(w.drew.alloc (.cells a 133)).cell? x:=fun x=>rfl;have hE2:∀ x,((w.alloc (.cells a 133)).drew).frozen? x=(w.drew.alloc (.cells a 133)).frozen? x:=fun x=>rfl;have P:∀ y,(((w.alloc (.cells a 133)).drew.setCells w.heap.size (i*2) [vS x.nm,vS x.tx]).drew).cell? y=((w.drew.alloc (.cells a 133)).setCells w.heap.size (i*2) [vS x.nm,vS x.tx]).cell? y:=fun x=>rfl;have O:∀ y,(((w.alloc (.cells a 133)).drew.setCells w.heap.size (i*2) [vS x.nm,vS x.tx]).drew).frozen? y=((w.drew.alloc (.cells a 133)).setCells w.heap.size (i*2) [vS x.nm,vS x.tx]).frozen? y:=fun x=>rfl;have hw1:IntKind.i64.wrap ((i:Int)+1)=(i:Int)+1:=by rw [show (i:Int)+1=((i+1:Nat):Int) by omega];exact Fa (i+1) O0
 have hb1:(0:Int)<=(i:Int)+1:=O0;have hin:i<=fs.length:=O0;have htn:((i:Int)+1).toNat=i+1:=O0;have hb3:(i:Int)<=(fs.length:Int):=O0;have hb6:(i:Int)+1<=(fs.length:Int)+1:=O0;have D:Hid (fs.length+1<=G/\(fs.length+1)*2<=a.size/\(∀ j,j<i*2->a[j]?=(I4 fs)[j]?)):=⟨hGn,L,N⟩;clear s J r I o p L N u H C B A t;go_enter func209,ntmps209
 go_wp2_with (first
  | (at_builtin;refine Lib.wpList_append_run _ rfl _ _ _ _ rfl _ _ rfl rfl _ _ (n _) ?_)
  | (at_builtin;refine wpList_copy_runI _ rfl _ _ 38 38 rfl _ _ rfl rfl (hcpA _ hE1 hE2 _ _) ?_))
 go_region_law (first | (refine step_copy_runI rfl _ _ 38 38 rfl (vL (some (aW w ((i+1)*2))) (fs.length+1 - (i+1)) (G - (i+1))) (vL (some (aA b (i*2))) (fs.length - i) (c - i)) (by simp [Act.eval,Act.put]) (by simp [Act.eval,Act.put]) (K _ P O 3 (fs.length+1 - (i+1)) (G - (i+1)) (c - i) O0) ?_) | (refine step_copy_runI rfl _ _ 38 38 rfl (vL (some (aW w ((i+1)*2))) (fs.length - i) (G - (i+1))) (vL (some (aA b (i*2))) (fs.length - i) (c - i)) (by simp [Act.eval,Act.put]) (by simp [Act.eval,Act.put]) (K _ P O 3 (fs.length - i) (G - (i+1)) (c - i) O0) ?_))
 go_wp2;go_ret;exact ⟨G,a,D.out.1,D.out.2.1,D.out.2.2,rfl,rfl⟩
theorem SY (h:i<=fs.length) (a:j<i):(ins fs i x).getD j I8=fs.getD j I8:=by
 unfold ins;simp only [List.getD];rw [S_ (by rw [B_];omega),VB a]
theorem DU (h:i<=fs.length):(ins fs i x).getD i I8=x:=by
 unfold ins;simp only [List.getD];rw [Ue (by rw [B_];omega),B_,xq h,ku];rfl
theorem DY (h:i<=fs.length) (hj:i<j):(ins fs i x).getD j I8=(fs.drop i).getD (j - i - 1) I8:=by
 unfold ins;simp only [List.getD];rw [Ue (by rw [B_];omega),B_,xq h];obtain ⟨k,a⟩:∃ k,j - i=k+1:=⟨j - i - 1,O0⟩;rw [a,jQ,VI]
theorem IB {W:World} (a:i<=fs.length) (f:b<W.heap.size)
 (lo:∀ j,j<i*2->W.cell? ⟨b,j,none⟩=(I4 fs)[j]?) (m0:W.cell? ⟨b,i*2,none⟩=some (.string x.nm)) (c:W.cell? ⟨b,i*2+1,none⟩=some (.string x.tx))
 (up:∀ j,j<(fs.length - i)*2->W.cell? ⟨b,(i+1)*2+j,none⟩=(I4 (fs.drop i))[j]?):G6 W (some ⟨b,0,none⟩) (ins fs i x):=by
 refine .inr ⟨b,0,rfl,f,fun j d=>?_⟩;rw [NE _ _ _ a] at d;rw [L8];rcases Qv j i with h | h | h
 · rw [SY a h,lo _ O0,lo _ O0];exact Xc fs j O0
 · subst h;rw [DU a];exact ⟨m0,c⟩
 · rw [DY a h];have e:=Xc (fs.drop i) (j - i - 1) (by rw [yj];omega);have u0:=up ((j - i - 1)*2) O0;have u1:=up ((j - i - 1)*2+1) O0;rw [show (i+1)*2+(j - i - 1)*2=j*2 by omega] at u0;rw [show (i+1)*2+((j - i - 1)*2+1)=j*2+1 by omega] at u1;rw [u0,u1];exact e
theorem JW (h:Ak w B v gs) {p:Nat} (d:p<gs.length):∃ a b,v=.slice a gs.length b/\Ht B w a gs:=by
 obtain ⟨g,b,hv,f,hnc,k,j,c⟩:=Bv h d;have hf:G6 w (some (aA g 0)) gs:=.inr ⟨g,0,rfl,c,fun i e=>by rw [L8];exact k i e⟩;exact ⟨_,b,hv,hf,.inr ⟨g,rfl,f,Bh hf c j,aF h hv⟩⟩
theorem JV (fs:List F2) (x:F2):ins fs fs.length x=fs++[x]:=by unfold ins;rw [List.take_length,List.drop_length]
def qX (B:Nat) (gs:List F2) (n:Nat) (e:Ending) (w':World):Prop:=∃ a' cap',e=.returned (.slice a' n cap')/\Ht B w' a' gs
theorem a1g (B c:Nat) (f:OA) (d:Nat) (fs:List F2) (x:F2) (w:World) (a:Ak w B (.slice f fs.length d) fs) (hl:fs.length<=40) (hB:B<=w.heap.size)
 (h:∀ j v,[Value.string x.nm,.string x.tx][j]?=some v->w.cell? ((⟨c,0,none⟩:Addr).add j)=some v):
 Calls prog 209 #[.slice f fs.length d,.int .i64 fs.length,.slice (some ⟨c,0,none⟩) 1 1] w fun e w'=>qX B (ins fs fs.length x) (fs.length+1) e w'/\Below B w w':=by
 obtain ⟨r,E,y,t,s⟩:=info_parts Fp;have hcv:=fK a;have C:=a.lt;have A:w.ownsRow B 133 2 (vL f fs.length d) fs.length (I4 fs):=a;have F:=U0 h;clear a h;go_enter func209,ntmps209
 go_wp2_with (at_builtin;refine wpList_append_own _ rfl _ _ 38 rfl B 133 r (.agg #[.string ⟨#[]⟩,.string ⟨#[]⟩]) 2 32 underlying38 E y t s rfl o6 _ _ _ rfl A ⟨c,0,none⟩ 1 1 [.string x.nm,.string x.tx] rfl rfl F.out (by intro u l;simp at l;rcases l with rfl | rfl <;> rfl) (by unfold maxLen;omega) O0 hB ?_;intro v' b m o _)
 all_goals
  have J:=U0 ((Z4 B w).grown o hB (fun k D=>(C k D).1));have H:Hid (Ak b B v' (fs++[x])):=by
   show b.ownsRow B 133 2 v' (fs++[x]).length (I4 (fs++[x]));rw [Tc,D9];exact m
  obtain ⟨g,q,i,n⟩:=JW H.out (p:=fs.length) X4;have I:Hid (Ht B b g (ins fs fs.length x)):=by rw [JV];exact n
  have z:v'=vL g (fs.length+1) q:=by rw [i];simp
  subst z;clear m o n i;go_wp2;go_ret;exact ⟨⟨g,q,rfl,I.out⟩,J.out⟩
theorem qx (h:∀ j,j<vs.length->(w.cell? ⟨b,o+j,none⟩).isSome=true) (j:Nat) (a:j<vs.length):(w.setCells b o vs).cell? ⟨b,o+j,none⟩=vs[j]?:=by
 rw [World.cell?_setCells_in b vs o w h j a,Z8 a]
theorem Zj (h:q<o\/o+vs.length<=q):(w.setCells b o vs).cell? ⟨b,q,none⟩=w.cell? ⟨b,q,none⟩:=World.cell?_setCells_out b vs o w _ (fun _ _=>h)
theorem a3q (B c p:Nat) (u:OA) (f:Nat) (fs:List F2) (x:F2) (w:World) (C:Ak w B (.slice u fs.length f) fs) (F:p<=fs.length) (hl:fs.length<=40) (hB:B<=w.heap.size)
 (r:w.heap[c]?=some (.cells #[.string x.nm,.string x.tx] 133 (0,0))) (U:∀ k,(Value.slice u fs.length f).ownBlock=some k->c≠k):
 Calls prog 209 #[.slice u fs.length f,.int .i64 p,.slice (some ⟨c,0,none⟩) 1 1] w fun e w'=>qX B (ins fs p x) (fs.length+1) e w'/\Below B w w':=by
 have O:=Jf r;have y:∀ j v,[Value.string x.nm,vS x.tx][j]?=some v->w.cell? (aA c (0+j))=some v:=fun j v h=>by
  rw [L8,Lib.cell_of_heap r];simpa using h
 have s:(I4 (fs.drop p)).length=(fs.length - p)*2:=by rw [A8,yj]
 by_cases R:p=fs.length
 · subst R;exact a1g B c u f fs x w C hl hB (fun j v h=>by rw [FM];exact y j v h)
 have E:p<fs.length:=O0;have S:=C;rcases C.2 with ⟨hv,h0⟩ | ⟨g,cap,cur,hv,I,m,V,hcm,W,htk⟩
 · omega
 injection hv with e1 e2 e3;subst e1;subst e3;have H:=Jf m;have P:=U g rfl;have L:∀ j,j<fs.length*2->w.cell? (aA g j)=(I4 fs)[j]?:=fun j a=>S.cellAt j a;have K:∀ j v,(I4 fs)[j]?=some v->w.cell? (aA g (0+j))=some v:=fun j v h=>by
  have:j<fs.length*2:=by rw [<- A8];exact (Tm.1 h).1
  rw [L8,L j this];exact h
 by_cases Q:fs.length+1<=f
 · have z:∀ j,j<(fs.length+1)*2->(w.cell? (aA g j)).isSome=true:=fun j a=>by
    rw [Lib.cell_of_heap m,zI (by rw [W];omega)];rfl
   have J:∀ j,w.frozen? (aA g j)=false:=fun j=>Lib.frozen_of_heap m j;refine (a0V g f p c fs x w E hl Q P K z J y 133 133 2 cur.size (by simp [World.shape?,r]) (by simp [World.shape?,m]) O0 (fun j=>Lib.frozen_of_heap r j)).mono ?_;rintro e w' ⟨rfl,rfl⟩;have t:But g w ((w.drew.setCells g ((p+1)*2) (I4 (fs.drop p))).setCells g (p*2) [vS x.nm,vS x.tx]):=But.setCells g _ _ (But.setCells g _ _ (But.refl _ _).drew);have A:∀ j,j<(fs.length+1)*2->((w.drew.setCells g ((p+1)*2) (I4 (fs.drop p))).cell? (aA g j)).isSome=true:=fun j a=>isSome_setCells g _ _ _ _ (z j a);have D:∀ j,((w.drew.setCells g ((p+1)*2) (I4 (fs.drop p))).setCells g (p*2) [vS x.nm,vS x.tx]).frozen? (aA g j)=false:=fun j=>by rw [World.frozen?_setCells,World.frozen?_setCells];exact J j
   have n:=O9 H t.size;have i:∀ j,j<2->((w.drew.setCells g ((p+1)*2) (I4 (fs.drop p))).setCells g (p*2) [vS x.nm,vS x.tx]).cell? (aA g (p*2+j))=[Value.string x.nm,vS x.tx][j]?:=fun j a=>qx (fun q d=>A _ (by simp at d;omega)) j (by simpa using a);have hF:=IB (x:=x) F n
    (fun j a=>by rw [Zj (.inl a),Zj (.inl O0)];exact L j O0)
    (i 0 O0) (i 1 O0)
    (fun j a=>by rw [Zj (.inr U7)];exact qx (w:=w.drew) (o:=(p+1)*2) (fun q d=>z ((p+1)*2+q) (by rw [s] at d;omega)) j (by rw [s];exact a))
   refine ⟨⟨_,_,rfl,hF,.inr ⟨g,rfl,I,Bh hF n D,Yi _ _ _ (Yi (w:=w.drew) _ _ _ ⟨_,_,m⟩)⟩⟩,t.below I hB⟩
 · refine (a1b g f p c fs x w E hl V O0 H O K y).mono ?_;rintro e w' ⟨G,b,hG,hR,Y,rfl,rfl⟩;have X:Bw w (w.alloc (.cells b 133)).drew:=P6.drew;have l:(w.alloc (.cells b 133)).drew.heap[w.heap.size]?=some (.cells b 133 (0,0)):=qc (w:=w) rfl _;have N:∀ j,j<(fs.length+1)*2->((w.alloc (.cells b 133)).drew.cell? (aW w j)).isSome=true:=fun j a=>by
    rw [Lib.cell_of_heap l,zI O0];rfl
   have t:But w.heap.size w ((((w.alloc (.cells b 133)).drew.setCells w.heap.size (p*2) [vS x.nm,vS x.tx]).drew).setCells w.heap.size ((p+1)*2) (I4 (fs.drop p))):=But.setCells _ _ _ (But.setCells _ _ _ (But.of_below X)).drew;have A:∀ j,j<(fs.length+1)*2->(((w.alloc (.cells b 133)).drew.setCells w.heap.size (p*2) [vS x.nm,vS x.tx]).drew.cell? (aW w j)).isSome=true:=fun j a=>isSome_setCells _ _ _ _ _ (N j a);have n:w.heap.size<((((w.alloc (.cells b 133)).drew.setCells w.heap.size (p*2) [vS x.nm,vS x.tx]).drew).setCells w.heap.size ((p+1)*2) (I4 (fs.drop p))).heap.size:=by
    have h1:But w.heap.size (w.alloc (.cells b 133)).drew ((((w.alloc (.cells b 133)).drew.setCells w.heap.size (p*2) [vS x.nm,vS x.tx]).drew).setCells w.heap.size ((p+1)*2) (I4 (fs.drop p))):=But.setCells _ _ _ (But.setCells _ _ _ (But.refl _ _)).drew;exact O9 (Jf l) h1.size
   have D:∀ j,((((w.alloc (.cells b 133)).drew.setCells w.heap.size (p*2) [vS x.nm,vS x.tx]).drew).setCells w.heap.size ((p+1)*2) (I4 (fs.drop p))).frozen? (aW w j)=false:=fun j=>by
    rw [World.frozen?_setCells];exact (World.frozen?_setCells _ _ _ _ _).trans (Lib.frozen_of_heap l j)
   have i:∀ j,j<2->((((w.alloc (.cells b 133)).drew.setCells w.heap.size (p*2) [vS x.nm,vS x.tx]).drew).setCells w.heap.size ((p+1)*2) (I4 (fs.drop p))).cell? (aW w (p*2+j))=[Value.string x.nm,vS x.tx][j]?:=fun j a=>by
    rw [Zj (.inl O0)];exact qx (w:=(w.alloc (.cells b 133)).drew) (fun q d=>N _ (by simp at d;omega)) j (by simpa using a)
   have hF:=IB (x:=x) F n
    (fun j a=>by
     rw [Zj (.inl O0)];exact ((Zj (w:=(w.alloc (.cells b 133)).drew) (.inl a)).trans (Lib.cell_of_heap l j)).trans (Y j a))
    (i 0 O0) (i 1 O0)
    (fun j a=>qx (fun q d=>A _ (by rw [s] at d;omega)) j (by rw [s];exact a))
   refine ⟨⟨_,_,rfl,hF,.inr ⟨w.heap.size,rfl,hB,Bh hF n D,Yi (w:=((w.alloc (.cells b 133)).drew.setCells w.heap.size (p*2) [vS x.nm,vS x.tx]).drew) _ _ _ (show KT ((w.alloc (.cells b 133)).drew.setCells w.heap.size (p*2) [vS x.nm,vS x.tx]) _ from Yi _ _ _ ⟨_,_,l⟩)⟩⟩,t.below hB hB⟩
theorem pU {b:BY} (h:lt a b=true):lt b a=false:=by
 cases hb:lt b a
 · rfl
 · have:=Xf h hb;rw [Ic] at this;cases this
theorem VO (h:p<fs.length):(del fs p).take p=fs.take p:=by
 unfold del;rw [WH (by rw [B_];omega),List.take_take,Nat.min_self]
theorem cO (h:p<fs.length):(del fs p).drop p=fs.drop (p+1):=by
 unfold del;rw [yI (by rw [B_];omega),gJ,ku,List.take_zero,Ua]
def put (fs:List F2) (p:Nat) (x:F2):List F2:=fs.take p++x::fs.drop (p+1)
theorem LU (h:p<fs.length):ins (del fs p) p x=put fs p x:=by unfold ins put;rw [VO h,cO h]
theorem lK (h:p<fs.length):(put fs p x).length=fs.length:=by
 unfold put;rw [List.length_append,List.length_cons,List.length_take,List.length_drop];omega
theorem wQ (h:p<fs.length):(put fs p x).getD p I8=x:=by
 unfold put;simp only [List.getD];rw [Ue (by rw [B_];omega),B_,xq O0,ku];rfl
theorem zM (h:p<fs.length) (hi:i≠p):(put fs p x).getD i I8=fs.getD i I8:=by
 unfold put;simp only [List.getD];rcases Q7 i p with h1 | h1
 · rw [S_ (by rw [B_];omega),VB h1]
 · rw [Ue (by rw [B_];omega),B_,xq O0];obtain ⟨k,a⟩:∃ k,i - p=k+1:=⟨i - p - 1,O0⟩;rw [a,jQ,Yy]
   congr 2
   omega
theorem aT (b:G_ fs) (f:Q_ x=true) (d:Place fs x.nm p true):p<fs.length/\Ym fs x 0 (put fs p x):=by
 obtain ⟨a,c⟩:=d.here.1 rfl;have ha:=Uh b;have hw:without fs x.nm=del fs p:=by rw [<- c];exact Jv ha a
 have g:=Zw a;refine ⟨a,.inr (.inr (.inr ⟨b,f,by rw [hw,g];have:=b.1;omega,rfl,p,?_,by rw [hw,LU a]⟩))⟩;rw [hw];refine ⟨O0,fun j e=>by rw [nO a e];exact d.less j e,?_⟩;rcases Q7 p (del fs p).length with h | h
 · right;rw [KO a H8,ku,Vu,En];have:=ha p (p+1) O0 O0;rw [c] at this;exact pU this
 · left;omega
theorem DR (b:G_ fs) (d:Q_ x=true) (a:Place fs x.nm p false):(40<=fs.length->Ym fs x 3 [])/\(fs.length<40->Ym fs x 0 (ins fs p x)):=by
 have f:∀ i,i<fs.length->(fs.getD i I8).nm≠x.nm:=fun i c e=>by
  rcases Q7 i p with h | h
  · have:=a.less i h;rw [e,Ic] at this;cases this
  · rcases Q7 p i with h1 | h1
    · have h2:=Uh b p i h1 c;rw [e,a.more p H8 O0] at h2;cases h2
    · obtain rfl:i=p:=O0;have:=a.here.2 ⟨c,e⟩;cases this
 have hw:=filter_all f;refine ⟨fun h=>.inr (.inr (.inl ⟨b,d,by rw [hw];exact h,rfl,rfl⟩)),fun h=>.inr (.inr (.inr ⟨b,d,by rw [hw];exact h,rfl,p,?_,by rw [hw]⟩))⟩;rw [hw];refine ⟨a.le,a.less,?_⟩;rcases Q7 p fs.length with h1 | h1
 · exact .inr (a.more p H8 h1)
 · left;have:=a.le;omega
theorem WN (b:p<fs.length) (c:g<u.heap.size) (hc:∀ i,i<fs.length->u.cell? ⟨g,i*2,none⟩=some (.string (fs.getD i I8).nm)/\u.cell? ⟨g,i*2+1,none⟩=some (.string (fs.getD i I8).tx)):
 G6 ((u.setCell ⟨g,p*2,none⟩ (.string x.nm)).setCell ⟨g,p*2+1,none⟩ (.string x.tx)) (some ⟨g,0,none⟩) (put fs p x):=by
 refine .inr ⟨g,0,rfl,by simpa using c,fun i a=>?_⟩;rw [lK b] at a;rw [L8];by_cases h:i=p
 · subst h;rw [wQ b];exact Gm u g (i*2) _ _ _ _ (hc i a).1 (hc i a).2
 · rw [zM b h,Xx _ _ _ _ _ _ O0 O0,Xx _ _ _ _ _ _ O0 O0];exact hc i a
theorem ZG {a:OA} (h:Ht B u a gs) (hB:B'<=B) (hq:q<B):Ht B' (u.setCell ⟨q,j,none⟩ v) a gs:=by
 refine ⟨?_,?_⟩
 · rcases h.2 with h0 | ⟨g,ha,b,ho⟩
   · exact .inl h0
   · have hf:=h.1;rw [ha] at hf ⊢;exact zq hf (by show q≠g;omega)
 · rcases h.2 with h0 | ⟨g,ha,b,ho⟩
   · exact .inl h0
   · exact .inr ⟨g,ha,O0,TF ho.1 O0,Zr ho.2⟩
theorem a4f (a:OA) (m:Nat) (fs:List F2) (x:F2) (w:World) (hl:fs.length<=1048576) (Z:∀ i,(fs.getD i I8).le 1048576) (hx:x.le 1048576) (hat:G6 w a fs):
 Calls prog 155 #[.agg #[.slice a fs.length m],.agg #[.string x.nm,.string x.tx]] w fun e w'=>(∃ r z c gs,e=.returned (.tuple #[.agg #[.slice r gs.length z],.int .i64 c])/\Ht w.heap.size w' r gs/\Ym fs x c gs)/\Bw w w':=by
 have U:=U0 hat;have HS:=U0 Z;have HX7:Hid (x.le 1048700):=⟨G7 hx.1 O0,G7 hx.2 O0⟩;have V:Hid (Qd w (((w.alloc (.cells #[vL a fs.length m] 40)).alloc (.cells #[vS x.nm,vS x.tx] 133)).alloc (.cells #[vN] 40)) (vL a fs.length m) x vN):=Qd.start _ _ _ _;clear hat Z hx;go_enter func155,ntmps155
 go_wp2_with fail
 refine (gZ a m fs _ hl HS.out (J5 U.out V.out.bel)).mono ?_;rintro e u1 ⟨⟨v,rfl,hv⟩,hb1⟩;have A:=U0 hv;have H:=U0 (V.out.later hb1);obtain ⟨t1,n1,x1,X,f1⟩:=H.out.cells;clear hv hb1 V;cases v
 · have b:Hid (Ym fs x 1 []):=.inl ⟨fun h=>(by have:=A.out.2 h;cases this),rfl,rfl⟩;clear A;go_wp2;refine Y6 (v:=.tuple #[.agg #[vN],vI 1]) (by simp [results,results155,go_sem,X]) rfl ⟨⟨none,0,_,[],rfl,⟨.inl rfl,.inl rfl⟩,b.out⟩,H.out.bel.setCell U7 _⟩
 have N:=A.out.1 rfl;have a5u:=N.1;have C:=U0 N;clear N A
 go_wp2_with fail
 refine (zU x u1 HX7.out).mono ?_;rintro e u2 ⟨rfl,hb2⟩;have n:=U0 (H.out.later hb2);clear hb2 t1 n1 x1 X f1 H;obtain ⟨t2,n2,x2,W,f2⟩:=n.out.cells;cases hfx:Q_ x
 · have b:Hid (Ym fs x 2 []):=.inr (.inl ⟨C.out,hfx,rfl,rfl⟩);go_wp2;refine Y6 (v:=.tuple #[.agg #[vN],vI 2]) (by simp [results,results155,go_sem,W]) rfl ⟨⟨none,0,_,[],rfl,⟨.inl rfl,.inl rfl⟩,b.out⟩,n.out.bel.setCell U7 _⟩
 have hz2:=n.out.sz
 go_wp2_with fail
 refine (c208 a m fs u2 O0 (J5 U.out n.out.bel)).mono ?_;rintro e u3 ⟨v,rfl,L,P⟩;obtain ⟨S,q,o,hfv⟩:=L.form;subst o;have F:=U0 (n.out.later P);have HO3:=U0 L;have a6F:=P.size;clear L P hfv t2 n2 x2 W f2 n;obtain ⟨t3,n3,x3,r3,f3⟩:=F.out.cells
 go_wp2_with fail
 refine (c173 a m fs x.nm u3 a5u (J5 U.out F.out.bel) (Uh C.out)).mono ?_;rintro e u4 ⟨⟨p,f,rfl,d⟩,u⟩;have B:=U0 d;have l:=U0 (F.out.later u);have D:=U0 (HO3.out.below u);have a5v:=u.size;clear d u t3 n3 x3 r3 f3 F HO3;obtain ⟨t4,n4,x4,r4,f4⟩:=l.out.cells;have hz4:=l.out.sz;cases f
 · obtain ⟨I,J⟩:=DR C.out hfx B.out;by_cases h40:fs.length=40
   · have b:=U0 (I O0);have a6l:((fs.length:Int)==40)=true:=U7;clear I J;go_wp2;refine Y6 (v:=.tuple #[.agg #[vN],vI 3]) (by simp [results,results155,go_sem,r4]) rfl ⟨⟨none,0,_,[],rfl,⟨.inl rfl,.inl rfl⟩,b.out⟩,l.out.bel.setCell U7 _⟩
   have b:=U0 (J O0);have a6l:((fs.length:Int)==40)=false:=U7;clear I J;have y:Bw u4 (u4.alloc (.cells #[vS x.nm,vS x.tx] 133)):=P6;have E:=U0 (l.out.later y);have HO5:=U0 (D.out.below y);have HV5:Hid ((u4.alloc (.cells #[vS x.nm,vS x.tx] 133)).heap[u4.heap.size]?=some (.cells #[vS x.nm,vS x.tx] 133 (0,0))):=qc rfl _;have HNE:Hid (∀ k,(Value.slice S fs.length q).ownBlock=some k->u4.heap.size≠k):=fun k hk=>by have:=(D.out.lt k hk).2;omega
   have hz5:u2.heap.size<=(u4.alloc (.cells #[vS x.nm,vS x.tx] 133)).heap.size:=U7
   go_wp2_with fail
   refine (a3q u2.heap.size u4.heap.size p S q fs x _ HO5.out B.out.le a5u hz5 HV5.out HNE.out).mono ?_;rintro e u6 ⟨⟨r,z,rfl,hnew⟩,hb6⟩;have HN:=U0 hnew;have O:=(y.mono O0).trans hb6;have K:u6.heap[w.heap.size+1+1]?=some (.cells #[vN] 40 (0,0)):=by rw [O.block _ O0];exact l.out.hr
   have r6:u6.cell? (aA (w.heap.size+1+1) 0)=some vN:=by rw [Lib.cell_of_heap K];rfl
   have f6:=Lib.frozen_of_heap K 0;have hB6:=l.out.bel.trans (O.mono O0);have hil:=NE fs p x B.out.le;clear hnew hb6 O K y E HO5 HV5 HNE;go_wp2;refine Y6 (v:=.tuple #[.agg #[vL r (fs.length+1) z],vO]) (by simp [results,results155,go_sem,r6]) rfl ⟨⟨r,z,0,ins fs p x,by rw [hil],?_,b.out⟩,hB6.setCell U7 _⟩;exact ZG HN.out O0 O0
 · obtain ⟨d,Y⟩:=aT C.out hfx B.out;have b:=U0 Y;obtain ⟨g,cap4,o,hg,hnc,t,s,hgw⟩:=Bv D.out d;have H40:=U0 (aF D.out o);have Q:S=some (aA g 0)/\q=cap4:=by injection o with h1 _ h3;exact ⟨h1,h3⟩
   obtain ⟨Q,hcc⟩:=Q;subst Q;subst hcc;have g0:=(t p d).1;have g1:=(t p d).2;have z0:=s (p*2);have z1:=s (p*2+1);have HPF:Hid (G6 ((u4.setCell (aA g (p*2)) (vS x.nm)).setCell (aA g (p*2+1)) (vS x.tx)) (some (aA g 0)) (put fs p x)):=WN d hgw t;have HFZ:=U0 s;have R:But g u4 ((u4.setCell (aA g (p*2)) (vS x.nm)).setCell (aA g (p*2+1)) (vS x.tx)):=((But.refl _ _).setCell _ _).setCell _ _;have HBU:=U0 R;have E:=U0 (l.out.but R O0);have hpI:(p:Int)<(fs.length:Int):=O0;clear t s o Y R;have HNF:Hid (Ht u2.heap.size ((u4.setCell (aA g (p*2)) (vS x.nm)).setCell (aA g (p*2+1)) (vS x.tx)) (some (aA g 0)) (put fs p x)):=⟨HPF.out,.inr ⟨g,rfl,hg,Bh HPF.out (by simpa using hgw) (fun j=>by have:=HFZ.out j;simpa using this),Zr (Zr H40.out)⟩⟩;go_wp2;have r5:=E.out.cells.2.2.2.1;refine Y6 (v:=.tuple #[.agg #[vL (some (aA g 0)) fs.length q],vO]) (by simp [results,results155,go_sem,r5]) rfl ⟨⟨some (aA g 0),q,0,put fs p x,by rw [lK d],?_,b.out⟩,E.out.bel.setCell U7 _⟩;exact ZG HNF.out O0 O0
end Go.Proofs.YtchjpjmcnhjbcaaGreatDoor.T
namespace Go.Proofs.YtchjpjmcnhjbcaaGreatDoor.G
open Proofs.Tryz Go.RowKit
section
variable {a l r:List UInt8} {b s:BY} {B g k n size:Nat} {w:World} {c y:Int} {ls ss:List (List UInt8)} {p:Addr} {e:TypeId} {xs:List Value}
theorem UB {x:M3} {v:Bool} (hv:Ze x=v) (w:World) (a:x.le 1048700):
 Calls prog 238 #[.agg #[.string x.nm,.string x.tl,.string x.ar]] w fun e w'=>e=.returned (.bool v)/\Bw w w':=hv▸a1E x w a
theorem oJ {b q:List UInt8} (ha:(10:UInt8)∉a) (e:(10:UInt8)∉b) (h:a++10::r=b++10::q):a=b/\r=q:=by
 induction a generalizing b with
 | nil=>
  cases b with
  | nil=>simpa using h
  | cons c b=>simp at h;exact absurd (by rw [h.1];simp) e
 | cons d a ih=>
  cases b with
  | nil=>simp at h;exact absurd (by rw [h.1];simp) ha
  | cons c b=>
   simp only [rf,zi] at h;obtain ⟨h1,h2⟩:=ih (fun h=>ha (Rf _ h)) (fun h=>e (Rf _ h)) h.2;exact ⟨by rw [h.1,h1],h2⟩
theorem ZY (l:List UInt8):((Lib.cut l [10]).2.2=true/\l=(Lib.cut l [10]).1++10::(Lib.cut l [10]).2.1/\(10:UInt8)∉(Lib.cut l [10]).1)\/((Lib.cut l [10]).2.2=false/\(Lib.cut l [10]).1=l/\(10:UInt8)∉l):=by
 unfold Lib.cut;rw [Lib.index_one];have hge:=Lib.indexByte_ge l 10;by_cases h:Lib.indexByte l 10=-1
 · rw [h,I7 O0];refine .inr ⟨rfl,rfl,fun hm=>?_⟩;obtain ⟨k,a,e⟩:=Zd hm;exact Lib.indexByte_none h k (by rw [Z8 a,e])
 obtain ⟨o,ho⟩:∃ o:Nat,Lib.indexByte l 10=o:=⟨(Lib.indexByte l 10).toNat,O0⟩;obtain ⟨h1,h2⟩:=Lib.indexByte_some ho;have hl:o<l.length:=by
  rcases Q7 o l.length with h | h
  · exact h
  rw [Yb h] at h1;cases h1
 rw [ho,X7 O0];refine .inl ⟨rfl,?_,fun hm=>?_⟩
 · simp only [UA,Si];have hx:l[o]=10:=by rw [Z8 hl] at h1;exact w_ h1
   conv=>lhs;rw [<- Hl o l,Xz hl,hx]
 simp only [UA] at hm;obtain ⟨k,a,e⟩:=Zd hm;rw [B_] at a;rw [fE] at e;exact h2 k O0 (by rw [Z8 O0,e])
theorem cut_small (b:UInt8) (l:List UInt8) (k:Nat):((G8 b l).getD k []).length<=l.length:=by
 obtain ⟨h1,h2⟩:=qC b l ([],[]) l.length X4 X4;have h:∀ x∈G8 b l,x.length<=l.length:=by
  intro x hx;unfold G8 y8 at hx;rcases Yg.1 hx with h | h
  · exact h1 x h
  simp at h;subst h;exact h2
 rcases Q7 k (G8 b l).length with a | a
 · rw [List.getD,Z8 a];exact h _ (Bj a)
 rw [List.getD,Yb a];simp
theorem a0l (w:World) (x y z:Value) (t:TypeId):∀ j u,[x,y,z][j]?=some u->(w.alloc (.cells #[x,y,z] t)).cell? ((⟨w.heap.size,0,none⟩:Addr).add j)=some u:=by
 intro j u h
 match j,h with
 | 0,h=>simp at h;subst h;simp [Addr.add]
 | 1,h=>simp at h;subst h;simp [Addr.add]
 | 2,h=>simp at h;subst h;simp [Addr.add]
theorem VX (a:g=w.heap.size) (x y z:Value) (t:TypeId):∀ j u,[x,y,z][j]?=some u->(w.alloc (.cells #[x,y,z] t)).cell? ((⟨g,0,none⟩:Addr).add j)=some u:=by
 subst a;exact a0l w x y z t
theorem Ap {v:Value} (h:w.ownsRow B e 3 v n xs):∃ ao c,v=.slice ao n c:=by
 rcases h.2 with ⟨hv,h0⟩ | ⟨g,cap,cur,hv,_⟩
 · exact ⟨none,0,by rw [hv,h0]⟩
 exact ⟨_,_,hv⟩
end
section
variable {w:World} {B b base n size:Nat} {o:Obj} {e:TypeId} {v:Value} {xs:List Value}
theorem I9 (h:w.ownsRow B e 1 v n xs):∃ ao c,v=.slice ao n c:=by
 rcases h.2 with ⟨hv,h0⟩ | ⟨g,cap,cur,hv,_⟩
 · exact ⟨none,0,by rw [hv,h0]⟩
 exact ⟨_,_,hv⟩
theorem UM (l:List UInt8):(P5 l).length<=3*l.length+2:=by
 have:=yt l;unfold P5;simp only [List.length_cons,List.length_append,List.length_nil];omega
end
section
variable {w:World} {a:OA} {is:List M3}
def Bo (w:World) (a:OA) (is:List M3):Prop:=
 is=[]\/∃ b off,a=some ⟨b,off,none⟩/\b<w.heap.size/\∀ i,i<is.length->w.cell? ⟨b,off+i*3,none⟩=some (.string (is.getD i D_).nm)/\w.cell? ⟨b,off+i*3+1,none⟩=some (.string (is.getD i D_).tl)/\w.cell? ⟨b,off+i*3+2,none⟩=some (.string (is.getD i D_).ar)
theorem Ej (h:Bo w a is):∃ b off,(is=[]\/(a=some ⟨b,off,none⟩/\b<w.heap.size/\∀ i,i<is.length->w.cell? ⟨b,off+i*3,none⟩=some (.string (is.getD i D_).nm)/\w.cell? ⟨b,off+i*3+1,none⟩=some (.string (is.getD i D_).tl)/\w.cell? ⟨b,off+i*3+2,none⟩=some (.string (is.getD i D_).ar))):=by
 rcases h with h | ⟨b,off,h⟩
 · exact ⟨0,0,.inl h⟩
 exact ⟨b,off,.inr h⟩
theorem Qk {w':World} (h:Bo w a is) (c:Bw w w'):Bo w' a is:=by
 rcases h with h | ⟨b,off,h1,h2,e⟩
 · exact .inl h
 exact .inr ⟨b,off,h1,O9 h2 c.size,fun i d=>by rw [c.cell (by exact h2),c.cell (by exact h2),c.cell (by exact h2)];exact e i d⟩
theorem jw {B:Nat} (h:∀ i,i<is.length->(is.getD i D_).le B) (i:Nat):(is.getD i D_).le B:=by
 rcases Q7 i is.length with a | a
 · exact h i a
 have e:is.getD i D_=D_:=by simp [List.getD,Yb a]
 rw [e];exact ⟨J4 _,J4 _,J4 _⟩
theorem QJ:(prog.info? 135).map (fun i=>(i.zero,i.size,i.bytes))=some (some (.agg #[.string ⟨#[]⟩,.string ⟨#[]⟩,.string ⟨#[]⟩]),3,48):=Y2
end
def m_ (x:M3):List UInt8:=[109,97,107,101,32]++Oc x++[10]
theorem a0q (s:BY) (w:World) (hs:s.size<=1048700):
 Calls prog 137 #[.string s,.int .i64 3] w fun e w'=>(∃ g y,e=.returned (.tuple #[.slice (some ⟨g,0,none⟩) 3 y,.string (J3 (Q9 s.data.toList 3))])/\w.heap.size<=g/\Xb w' g (A_ s.data.toList 3))/\Bw w w':=by
 obtain ⟨B,H,E,D,C⟩:=info_parts info9;have hlen:s.data.toList.length=s.size:=X4;go_enter func137,ntmps137
 go_wp2_with fail
 go_loopw [0,6,7] (fun K v i wr=>∃ (m:Nat) (t:ByteArray) (ss:List (List UInt8)),m<=3/\i=.int .i64 m/\K=.string t/\wr.ownsRow w.heap.size 9 1 v m (Dt ss)/\Hid (t=J3 (Q9 s.data.toList m)/\ss=A_ s.data.toList m)/\Below w.heap.size w wr/\w.heap.size+1<=wr.heap.size) (fun _ _ i _=>3 - (RowKit.intOf i).toNat)
 case atStart=>exact ⟨0,s,[],J4 _,rfl,rfl,Iu _ #[] 0 H8 (J4 _) rfl,⟨rfl,rfl⟩,P6,X4⟩
 obtain ⟨m,t,ss,hm,rfl,rfl,a,hrel,o,hz⟩:=hrel;by_cases hlt:m<3;rotate_left
 · obtain rfl:m=3:=O0;obtain ⟨rfl,rfl⟩:=hrel.out;clear hrel;obtain ⟨g,y,L⟩:=ul a O0;subst L;go_wp2;go_ret2;exact ⟨⟨g,y,rfl,(a.lt g rfl).1,Dh a rfl⟩,o⟩
 obtain ⟨hT,rfl⟩:=hrel.out;have hts:t.size<=1048700:=by rw [hT,I5];have:=Qi s.data.toList m;omega
 have I:t.data.toList=Q9 s.data.toList m:=by rw [hT];simp [J3]
 have p:=U0 I;have a5q:t.data.toList.length=t.size:=X4;clear hT I;clear hrel
 go_wp2_with fail
 go_loop [8] (fun n=>∃ k:Nat,k<=t.size/\n=.int .i64 k/\Hid ((t.data.toList.take k).all (· !=32)=true)) (fun n=>t.size - (RowKit.intOf n).toNat)
 case atStart=>exact ⟨0,J4 _,rfl,rfl⟩
 obtain ⟨k,hk,rfl,ha⟩:=hrel;by_cases F:k<t.size;rotate_left
 · obtain ⟨d,c⟩:=lm (l:=t.data.toList) ha.out O0 (.inl O0);have z:Hid (t.extract 0 k=J3 (O1 t.data.toList)):=Qb (by rw [Ya,d];rfl);have A:Hid (t.extract k t.size=J3 (Y1 t.data.toList)):=Qb (by rw [Ya,c,l_ O0,jq O0,jq O0]);clear d c
   go_wp2_with (at_builtin;refine wpList_append_own _ rfl _ _ 22 rfl w.heap.size 9 B (.string ⟨#[]⟩) 1 16 underlying22 H E D C rfl o6 _ _ _ rfl (a.alloc _) ⟨wr.heap.size,0,none⟩ 1 1 [_] rfl rfl (cell_one_new _ _ _) (by intro u f;simp at f;subst f;rfl) (by unfold maxLen;omega) O0 U7 ?_;intro v' J q h _)
   go_roundw
   case rel=>
    have x:=(o.alloc o.size _).grown h U7 (fun j r=>(a.lt j r).1);refine ⟨m+1,_,A_ s.data.toList (m+1),O0,by go_num,rfl,?_,⟨by rw [A.out,p.out];rfl,rfl⟩,x,by have:=h.size;simp at this;omega⟩;rw [Pj,Tf,<- p.out,<- z.out];exact q
   case measure=>simp [RowKit.intOf];omega
 have a6d:(k:Int)<(t.size:Int):=O0;by_cases b:t[k]=32
 · have e1:((t[k].toNat:Int) !=32)=false:=by rw [b];rfl
   obtain ⟨d,c⟩:=lm (l:=t.data.toList) ha.out O0 (.inr (by simp [F];exact b));have z:Hid (t.extract 0 k=J3 (O1 t.data.toList)):=Qb (by rw [Ya,d];rfl);have A:Hid (t.extract (k+1) t.size=J3 (Y1 t.data.toList)):=Qb (by rw [Ya,c,l_ O0]);clear b d c
   go_wp2_with (at_builtin;refine wpList_append_own _ rfl _ _ 22 rfl w.heap.size 9 B (.string ⟨#[]⟩) 1 16 underlying22 H E D C rfl o6 _ _ _ rfl (a.alloc _) ⟨wr.heap.size,0,none⟩ 1 1 [_] rfl rfl (cell_one_new _ _ _) (by intro u f;simp at f;subst f;rfl) (by unfold maxLen;omega) O0 U7 ?_;intro v' J q h _)
   go_roundw
   case rel=>
    have x:=(o.alloc o.size _).grown h U7 (fun j r=>(a.lt j r).1);refine ⟨m+1,_,A_ s.data.toList (m+1),O0,by go_num,rfl,?_,⟨by rw [A.out,p.out];rfl,rfl⟩,x,by have:=h.size;simp at this;omega⟩;rw [Pj,Tf,<- p.out,<- z.out];exact q
   case measure=>simp [RowKit.intOf];omega
 have e1:((t[k].toNat:Int) !=32)=true:=by
  simp only [Tq];intro e;exact b (Yh.1 (by have:t[k].toNat=32:=O0;rw [this];rfl))
 have N:Hid ((t.data.toList.take (k+1)).all (· !=32)=true):=by
  rw [take_snoc t k F,Pn,ha.out];simp [Hid,b]
 clear b;go_wp2
 go_round
 case rel=>exact ⟨k+1,O0,by go_num,N⟩
 case measure=>simp [RowKit.intOf];omega
