import Derived.Test.YtbgdfcmeheaiiaaGreatDoorD0
import Derived.Laws.BitsAllLaws
set_option linter.unusedVariables false
set_option linter.unusedSimpArgs false
set_option maxHeartbeats 8000000
set_option maxRecDepth 100000
namespace Go.Proofs.YtbgdfcmeheaiiaaGreatDoor
open Proofs.Tryz Go.RowKit
variable{w w':World}{a:OA}
structure G3 where
 nm:Bool
 tl:BY
 ar:BY
def ah:G3:=⟨false,⟨#[]⟩,⟨#[]⟩⟩
def G3.v(x:G3):Value:=.agg #[.bool x.nm,.string x.tl,.string x.ar]
def G3.le(x:G3)(B:Nat):Prop:=x.tl.size<=B/\x.ar.size<=B
def W_(w:World)(a:OA)(is:List G3):Prop:=
 is=[]\/∃b off,a=some ⟨b,off,none⟩/\b<w.heap.size/\∀i,i<is.length->w.cell? ⟨b,off+i*3,none⟩=some (.bool (is.getD i ah).nm)/\w.cell? ⟨b,off+i*3+1,none⟩=some (.string (is.getD i ah).tl)/\w.cell? ⟨b,off+i*3+2,none⟩=some (.string (is.getD i ah).ar)
theorem Lh{is:List G3}(h:W_ w a is):∃b off,(is=[]\/(a=some ⟨b,off,none⟩/\b<w.heap.size/\∀i,i<is.length->w.cell? ⟨b,off+i*3,none⟩=some (.bool (is.getD i ah).nm)/\w.cell? ⟨b,off+i*3+1,none⟩=some (.string (is.getD i ah).tl)/\w.cell? ⟨b,off+i*3+2,none⟩=some (.string (is.getD i ah).ar))):=by
 rcases h with h|⟨b,off,h⟩
 ·exact⟨0,0,.inl h⟩
 exact⟨b,off,.inr h⟩
theorem V8{is:List G3}(h:W_ w a is)(c:Bw w w'):W_ w' a is:=by
 rcases h with h|⟨b,off,h1,h2,e⟩
 ·exact .inl h
 exact .inr ⟨b,off,h1,G9 h2 c.size,λi d=>by rw[c.cell (by exact h2),c.cell (by exact h2),c.cell (by exact h2)];exact e i d⟩
theorem Fq(u:World)(B j:Nat)(a b v2 x0 x1 x2:Value)(h0:u.cell? ⟨B,j,none⟩=some x0)(h1:u.cell? ⟨B,j+1,none⟩=some x1)(h2:u.cell? ⟨B,j+2,none⟩=some x2):
 (((u.setCell ⟨B,j,none⟩ a).setCell ⟨B,j+1,none⟩ b).setCell ⟨B,j+2,none⟩ v2).cell? ⟨B,j,none⟩=some a/\(((u.setCell ⟨B,j,none⟩ a).setCell ⟨B,j+1,none⟩ b).setCell ⟨B,j+2,none⟩ v2).cell? ⟨B,j+1,none⟩=some b/\(((u.setCell ⟨B,j,none⟩ a).setCell ⟨B,j+1,none⟩ b).setCell ⟨B,j+2,none⟩ v2).cell? ⟨B,j+2,none⟩=some v2:=by
 have a1:(u.setCell ⟨B,j,none⟩ a).cell? ⟨B,j+1,none⟩=some x1:=by rw[Qa _ _ _ _ (Ud O0)];exact h1
 have a2:((u.setCell ⟨B,j,none⟩ a).setCell ⟨B,j+1,none⟩ b).cell? ⟨B,j+2,none⟩=some x2:=by
  rw[Qa _ _ _ _ (Ud O0),Qa _ _ _ _ (Ud O0)];exact h2
 refine⟨?_,?_,ng _ _ _ a2⟩
 ·rw[Qa _ _ _ _ (Ud O0),Qa _ _ _ _ (Ud O0)];exact ng _ _ _ h0
 rw[Qa _ _ _ _ (Ud O0)];exact ng _ _ _ a1
theorem a4B(x:G3)(w:World):
 Calls prog 313 #[.agg #[.bool x.nm,.string x.tl,.string x.ar],.agg #[.bool x.nm,.string x.tl,.string x.ar]] w λe w'=>e=.returned (.bool true)/\Bw w w':=by
 go_in
 go_wp2;go_ret;exact⟨rfl,P6.alloc O4 _⟩
theorem a5b(a o:OA)(s r:Nat)(is:List G3)(w:World)(hl:is.length<=1048576)(n:W_ w a is)(m:W_ w o is):
 Calls prog 264 #[.slice a is.length s,.slice o is.length r] w λe w'=>e=.returned (.bool true)/\Bw w w':=by
 obtain⟨b,off,hc⟩:=Lh n;have u:=U0 hc;clear hc n;obtain⟨b',off',l⟩:=Lh m;have t:=U0 l;clear l m
 go_in
 go_wp2;go_loopw[5] (λi wr=>∃(k:Nat),k<=is.length/\i=.int .i64 k/\Below w.heap.size w wr) (λi _=>is.length-(RowKit.intOf i).toNat);exact⟨0,I4 _,rfl,J4 _ _⟩;obtain⟨k,hk,rfl,c⟩:=hrel;by_cases d:k<is.length
 ·obtain⟨ha,j,g⟩:=Zb u.out d;obtain⟨q,h,f⟩:=Zb t.out d;subst ha;subst q;have g0:=(c.cell (by exact j)).trans (g k d).1;have g1:=(c.cell (by exact j)).trans (g k d).2.1;have g2:=(c.cell (by exact j)).trans (g k d).2.2;have g0':=(c.cell (by exact h)).trans (f k d).1;have g1':=(c.cell (by exact h)).trans (f k d).2.1;have g2':=(c.cell (by exact h)).trans (f k d).2.2;generalize is.getD k ah=x at*;clear g f
  go_wp2_with fail
  go_region_with(go_at_call 313;refine(a4B x _).mono ?_;rintro e w1⟨rfl,p⟩)
  all_goals go_wp2
  all_goals go_roundw
  all_goals first
   | exact⟨k+1,O0,by go_num,(c.drew).trans (p.mono c.size)⟩
   | (exact P9)
 go_wp2;go_ret;exact⟨rfl,c⟩
structure R3 where
 key:BY
 gs:List G3
 out:BY
def j_:R3:=⟨⟨#[]⟩,[],⟨#[]⟩⟩
def R3.le(x:R3)(B:Nat):Prop:=x.key.size<=B/\x.gs.length<=B/\(∀i,(x.gs.getD i ah).le B)/\x.out.size<=B
def IC(w:World)(b o:Nat)(x:R3):Prop:=∃ai ci,w.cell? ⟨b,o,none⟩=some (.string x.key)/\w.cell? ⟨b,o+1,none⟩=some (.slice ai x.gs.length ci)/\w.cell? ⟨b,o+2,none⟩=some (.string x.out)/\W_ w ai x.gs
def Eg(w:World)(a:OA)(is:List R3):Prop:=is=[]\/∃b off,a=some ⟨b,off,none⟩/\b<w.heap.size/\∀i,i<is.length->IC w b (off+i*3) (is.getD i j_)
theorem IC.below{b o:Nat}{x:R3}(h:IC w b o x)(c:b<w.heap.size)(a:Bw w w'):IC w' b o x:=by
 obtain⟨f,e,h0,h1,h2,d⟩:=h;exact⟨f,e,(a.cell (by exact c)).trans h0,(a.cell (by exact c)).trans h1,(a.cell (by exact c)).trans h2,V8 d a⟩
theorem Ue{is:List R3}(h:Eg w a is):∃b off,(is=[]\/(a=some ⟨b,off,none⟩/\b<w.heap.size/\∀i,i<is.length->IC w b (off+i*3) (is.getD i j_))):=by
 rcases h with h|⟨b,off,h⟩
 ·exact⟨0,0,.inl h⟩
 exact⟨b,off,.inr h⟩
theorem oh{is:List R3}(h:Eg w a is)(c:Bw w w'):Eg w' a is:=by
 rcases h with h|⟨b,off,h1,h2,e⟩
 ·exact .inl h
 exact .inr ⟨b,off,h1,G9 h2 c.size,λi d=>(e i d).below h2 c⟩
def Iy(is:List R3):Nat:=(is.map λx=>x.gs.length).sum
theorem mM{is:List R3}{k:Nat}(h:k<is.length):Iy (is.take (k+1))=Iy (is.take k)+(is.getD k j_).gs.length:=by
 unfold Iy;rw[Rq,Gl,List.sum_append];simp[List.getD,D9 h]
theorem c198(x:R3)(b a:OA)(g f:Nat)(w:World)(hl:x.gs.length<=1048576)(j:W_ w b x.gs)(i:W_ w a x.gs):
 Calls prog 198 #[.agg #[.string x.key,.slice b x.gs.length g,.string x.out],.agg #[.string x.key,.slice a x.gs.length f,.string x.out]] w λe w'=>e=.returned (.bool true)/\Bw w w':=by
 have d:Bw w ((w.alloc (.cells #[vS x.key,vL b x.gs.length g,vS x.out] 176)).alloc (.cells #[vS x.key,vL a x.gs.length f,vS x.out] 176)):=P6.alloc O4 _;have k:=a5b b a g f x.gs _ hl (V8 j d) (V8 i d)
 go_in
 go_wp2_with fail
 refine k.mono ?_;rintro e h⟨rfl,c⟩;have l:=d.trans (c.mono X7);have g2:h.cell? (aW w 2)=some (vS x.out):=by rw[c.cell X7];simp[go_sem]
 have g3:h.cell? (aA (w.heap.size+1) 2)=some (vS x.out):=by rw[c.cell O4];simp[go_sem]
 clear k j i;go_wp2;go_ret;exact⟨rfl,l⟩
structure St where
 wd:Int
 ts:LB
 rs:List R3
def St.le(s:St)(B:Nat):Prop:=(s.ts.length<=B/\∀i,(s.ts.getD i ByteArray.empty).size<=B)/\s.rs.length<=B/\∀i,(s.rs.getD i j_).le B
def Ig(w:World)(ta ra:OA)(s:St):Prop:=o8 w ta s.ts/\Eg w ra s.rs
theorem Ig.below{ta ra:OA}{s:St}(h:Ig w ta ra s)(a:Bw w w'):Ig w' ta ra s:=⟨X5 h.1 a,oh h.2 a⟩
structure M3 where
 nm:BY
 tl:BY
 ar:BY
def C_:M3:=⟨⟨#[]⟩,⟨#[]⟩,⟨#[]⟩⟩
def M3.v(x:M3):Value:=.agg #[.string x.nm,.string x.tl,.string x.ar]
def M3.le(x:M3)(B:Nat):Prop:=x.nm.size<=B/\x.tl.size<=B/\x.ar.size<=B
def M_(c:UInt8):Bool:=decide (32<=(c.toNat:Int))&&decide ((c.toNat:Int)<=126)&&!((c.toNat:Int)==34)&&!((c.toNat:Int)==92)
theorem Xx{a b:BY}(h:a=b):Ending.returned (.string a)=.returned (.string b):=by rw[h]
def hexL:List UInt8:=[48,49,50,51,52,53,54,55,56,57,97,98,99,100,101,102]
def dG:BY:=⟨#[48,49,50,51,52,53,54,55,56,57,97,98,99,100,101,102]⟩
theorem iK(n:Nat)(h:n<dG.size):dG[n]=hexL.getD n 0:=by
 have h':n<16:=h;obtain rfl|rfl|rfl|rfl|rfl|rfl|rfl|rfl|rfl|rfl|rfl|rfl|rfl|rfl|rfl|rfl:n=0\/n=1\/n=2\/n=3\/n=4\/n=5\/n=6\/n=7\/n=8\/n=9\/n=10\/n=11\/n=12\/n=13\/n=14\/n=15:=O0
 all_goals rfl
def qb(c:UInt8):List UInt8:=if M_ c=true then [c] else [92,hexL.getD (c.toNat / 16) 0,hexL.getD (c.toNat % 16) 0]
def J5(l:List UInt8):List UInt8:=34::(l.flatMap qb++[34])
theorem JZ(c:UInt8):(qb c).length<=3:=by unfold qb;split<;>simp
theorem Tt(l:List UInt8):(l.flatMap qb).length<=3*l.length:=by
 induction l with
 | nil=>simp
 | cons c l ih=>have:=JZ c;simp only[Ag,L9,x_];omega
theorem S_(l r:List UInt8):Lib.byteCells (l++r)=Lib.byteCells l++Lib.byteCells r:=by simp[Lib.byteCells]
theorem zq(l:List UInt8):(Lib.byteCells l).length=l.length:=by simp[Lib.byteCells]
